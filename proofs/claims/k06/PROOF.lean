import PyProof.Rows.All
import Wide.All
import OpenK.AllK
import Wide.FinOn
import HandS.ForMost
import HandS.IsInst
import HandS.Wide
import HandS.Deep
import HandS.TupAny
import HandS.Flow
import HandS.EndBits
import PyProof.ReprRoads
import PyProof.ReprLen
import HandS.Style
import HandS.Sort
import HandS.SortOrd
import HandS.SortRule
import HandS.SortKw
import HandS.Zip
import HandS.TupMul
import HandS.Text
import HandS.Codes
import KE.DataCmp
import KE.DataFind
import HandS.Set
import HandS.Small
import PySem.Challenge.RW_stilltold_k06_whole_choices_rewritten
set_option Elab.async false
set_option linter.all false
set_option maxRecDepth 100000
namespace Lw
open PySem PySem.Spec PyProof.Rows L2

/-! ### defs that call repr: what no repr is under way around -/
structure FnG (P : Program) (w : World) (K : PySem.W.Frag) (mg : Str → Option Value) (base : Heap) (k : Nat) (f : Addr) (fd : FuncData) (ps : List Str) (sp : Sp) : Prop where
  lenG : ∀ vs H Q E, sp vs H Q E → vs.length = ps.length
  runG : ∀ (A : Around) (outer : List Env) (s : Shared) (H : Hp) (args : Args) (us : List Value) (vs : List V) (Q : VK) (E : XK), A.guards = some [] →
    Room k A → Env0 P w K mg base A outer s H → BindsTo s fd args (ps.zip us) → Vals vs us → sp vs H Q E →
    codeAny (model P w) A (.call (.ref f) args) (CR CX0 outer P w H s Q E) s

theorem FnG.ofOk {P : Program} {w : World} {K : PySem.W.Frag} {mg : Str → Option Value} {base : Heap} {k : Nat} {f : Addr} {fd : FuncData} {ps : List Str} {sp : Sp}
    (F : FnOk P w K mg base CX0 k f fd ps sp) : FnG P w K mg base k f fd ps sp :=
  ⟨F.len, fun A outer s H args us vs Q E _ => F.run A outer s H args us vs Q E⟩

section
variable {P : Program} {w : World} {K : PySem.W.Frag} {mg : Str → Option Value} {base : Heap}
theorem okG {x qual : Str} {st : Stmt} {f : Addr} {fd : FuncData} {N ps : List Str} {k : Nat} {sp : Sp}
    (F : Fun K x qual st f fd) (S : FnScope N ps (defScope st)) (len : ∀ vs H Q E, sp vs H Q E → vs.length = ps.length)
    (body : ∀ (cdv : Value) (A : Around) (outer : List Env) (s : Shared) (H : Hp) (vs : List V) (Q : VK) (E : XK), A.guards = some [] →
      Room k (A.deeper (envOfC qual (defScope st) s.heap.objs.size f cdv)) → sp vs H Q E →
      ∃ t, PSs (cxOf CX0 P w K mg base N qual (defScope st) f cdv A outer s H E).nox (defBody st) t ∧
        t { nx := fun _ H' => Q .non H', rt := Q } (start N vs) H) :
    FnG P w K mg base (k + 1) f fd ps sp := by
  obtain ⟨oc, od, kV, doc, pm, an, cdv, ct, osl, rfl, lk, hcd⟩ := F.ex
  refine ⟨len, ?_⟩
  intro A outer s H args us vs Q E hgd room e0 bt rv hs
  have hlen := len vs H Q E hs
  have inK : K.In s.heap :=
    e0.mod.kin.keeps fun b o e => (e0.bs b o e).1
  have noLim : s.heap.NoLimit :=
    e0.mod.nolimit.keeps fun b o e => (e0.bs b o e).1
  have kinds : ∀ y ∈ ps.zip us, (defScope st).names.lookup y.1 = some .local ∨
      ((defScope st).names.lookup y.1 = some .cell ∧ ((cellsFrom (s.heap.objs.size + 1) (defScope st).names []).lookup y.1).isSome = true) := by
    rintro ⟨n, v⟩ hy
    rcases S.par n (List.of_mem_zip hy).1 with q | q
    · exact Or.inl q
    · exact Or.inr ⟨q, PySem.W.cellsFrom_some _ _ _ (Or.inl q)⟩
  refine codeAny_call_function room.depth (inK _ _ lk) rfl S.co S.gen rfl (PySem.W.codeRec_of inK hcd) (bt _ _ _ _ ?_)
  refine wpAny_newFunctionEnv_cells S.kind kinds ?_
  intro env henv s1 ic
  subst henv
  refine ⟨noLim.keeps ic.toInCall.keep, codeAny_func ?_⟩
  obtain ⟨t, pt, ht⟩ := body cdv A outer s H vs Q E hgd (room.deeper _) hs
  have I := inv_start (CX := CX0) (E := E) S room.hd e0 hlen rv ic
  refine wpAny_mono (pt.nox.run [] s1 (start N vs) H _ I ht) ?_ (fun _ _ z => z)
  intro fl s' z
  cases fl with
  | ret u =>
    obtain ⟨v, σ', H', J, r', q⟩ := z
    exact ⟨v, H', J.os, J.bare, J.base, J.hok, r', q⟩
  | next =>
    obtain ⟨σ', H', J, q⟩ := z
    exact ⟨V.non, H', J.os, J.bare, J.base, J.hok, rfl, q⟩
  | brk => exact (z.elim fun _ z => z.elim fun _ z => z.2).elim
  | cont => exact (z.elim fun _ z => z.elim fun _ z => z.2).elim
end

section
variable {X : Cx} {k : Nat} {f : Addr} {fd : FuncData} {ps : List Str} {sp : Sp} {x : Str} {p pos : Pos} {e : Expr} {es : List Expr} {t : TA}
theorem pe_callG (F : FnG X.prog X.w X.K X.mg X.base k f fd ps sp) (hgd : X.A.guards = some []) (room : Room k X.A) (hg : Gl X x) (hm : X.mg x = some (.ref f))
    (hk : PySem.W.keepIn X.K (.ref f) = true) (hb : Binds X.K fd ps []) (ha : PA X (e :: es) t)
    (hdb : (x == ("__debug__" : Str)) = false := by decide) (he : starEach (e :: es) X.env = (false, eval e X.env) :: starEach es X.env := by rfl)
    (hpl : (backTo pos (starEach es X.env)).any (·.1) = false := by rfl) : PE X (.Call (.Name x p) (e :: es) [] pos) (tCall sp [] E0 t) := by
  refine ⟨fun pins s σ H Q I h => wpAny_Call_Name_kw (ld_glob I hg hm ?_ hdb)⟩
  refine PySem.W.callWith_K (h₀ := X.base) I.ok.mod.kin hk ?_ he hpl
  refine thn (ha.run pos pins s σ H _ I h) ?_
  rintro us s1 ⟨vs, H1, I1, r, q⟩
  refine ⟨I1.kIn, ?_⟩
  have q' : sp (vs ++ []) H1 Q E0 := q
  rw [List.append_nil] at q'
  have hl : us.length = ps.length := by
    rw [← r.length]
    exact F.lenG _ _ _ _ q'
  have bt : BindsTo s1 fd ⟨us, []⟩ (ps.zip us) := by
    have := hb s1 us I1.kIn (by rw [List.append_nil]; exact hl)
    rw [List.append_nil] at this
    exact this
  refine wpAny_call (codeAny_mono (F.runG X.A X.stack s1 H1 ⟨us, []⟩ us vs Q E0 hgd room I1.env0 bt r q') ?_)
  intro r' s' hq
  cases r' with
  | error e => exact False.elim hq
  | ok fl =>
    cases fl with
    | ret u => exact I1.after hq
    | next => exact False.elim hq
    | brk => exact False.elim hq
    | cont => exact False.elim hq

/-! ### a call by keywords alone -/
theorem pe_kw0 {kws : List Keyword} {ks : List Str} {tk : TA} {g : List Value → List Value → List Value} {gV : List V → List V → List V}
    (F : FnOk X.prog X.w X.K X.mg X.base CX0 k f fd ps sp) (room : Room k X.A) (hg : Gl X x) (hm : X.mg x = some (.ref f)) (hk : PySem.W.keepIn X.K (.ref f) = true)
    (hb : KBinds X.K fd ps ks g gV) (hkw : PK X kws tk) (hall : (backToKw pos (keywordEach kws X.env)).all (·.1.isSome) = true := by rfl)
    (hks : (backToKw pos (keywordEach kws X.env)).filterMap (·.1) = ks := by rfl) (hdb : (x == ("__debug__" : Str)) = false := by decide)
    (hpl : ((backTo pos (starEach [] X.env)).any (·.1) || (backToKw pos (keywordEach kws X.env)).any (·.1.isNone)) = false := by rfl) :
    PE X (.Call (.Name x p) [] kws pos) (tCallK sp gV E0 tNil tk) := by
  refine ⟨fun pins s σ H Q I h => wpAny_Call_Name_kw (ld_glob I hg hm ?_ hdb)⟩
  refine PySem.W.callWith_KW0 (h₀ := X.base) I.ok.mod.kin hk hall ?_ hpl
  refine thn (hkw.run pos pins s σ H _ I h) ?_
  rintro ws s2 ⟨zs, H2, I2, rz, q2⟩
  refine ⟨I2.kIn, ?_⟩
  rw [hks]
  exact run_fnk (us := []) (vs := []) F room hb pass0 I2 .nil rz q2

/-! ### a list display, its place not that of sys.modules -/
def tLstN (t : TA) : TE := fun σ H Q => t σ H fun xs H1 => xs.length ≤ sizeLine ∧ ∀ p, H1 p = none → p ≠ sysModules → Q (.ref p) (upd H1 p (.lst xs))
theorem pe_lstN (h : PA X es t) : PE X (.List es pos) (tLstN t) := by
  refine ⟨fun pins s σ H Q I hq => wpAny_List_spliced (thn (h.run pos pins s σ H _ I hq) ?_)⟩
  rintro us s1 ⟨xs, H1, I1, r, z, q⟩
  refine ⟨by rw [← r.length]; exact z, ?_⟩
  have fresh : H1 s1.heap.objs.size = none := I1.hok.fresh (Nat.le_refl _)
  have big : sysModules < s1.heap.objs.size := by
    have h1 : mainGlobals < X.base.objs.size := I1.ok.mod.glob.lt
    have h2 := Nat.le_trans I1.ok.bsz I1.sz
    exact Nat.lt_of_lt_of_le (Nat.lt_trans (by decide) h1) h2
  refine ⟨.ref s1.heap.objs.size, upd H1 s1.heap.objs.size (.lst xs), I1.laid (t' := s1.toks) ?_ (Nat.le_refl _) ?_, rfl, q _ fresh (Nat.ne_of_gt big)⟩
  · intro b u e
    exact Heap.get?_push_of_some _ e
  · exact ⟨z, us, 0, r, Heap.get?_push_size _ rfl⟩
end
end Lw

namespace Lw
open PySem PySem.Spec PyProof.Rows L2

/-! ### the law's own call, no repr under way around -/
theorem enterG {P : Program} {w : World} {K : PySem.W.Frag} {mg mb : Str → Option Value} {k : Nat} {fa a : Addr} {fd : FuncData} {x : Str} {sp : Sp} {s₁ : Shared} {vs : List Value} {ns : List Int}
    (inK : K.In s₁.heap) (gl : s₁.heap.Ns mainGlobals mg) (bl : s₁.heap.Ns builtinsNs mb) (bb : ∀ x : Str, x ≠ "__name__" → mb x = bootBuiltins x) (lim : s₁.heap.NoLimit) (gens : s₁.gens = #[])
    (ha : s₁.heap.get? a = some { cls := .type "list", data := .seq vs.toArray }) (hints : IntsAre vs ns) (short : ns.length ≤ sizeLine) (room : Room k callerA)
    (F : ∀ base : Heap, K.In base → base.Ns mainGlobals mg → FnG P w K mg base k fa fd [x] sp)
    (bind : ∀ (s : Shared) (u : Value), BindsTo s fd ⟨[u], []⟩ [(x, u)])
    (hsp : ∀ H : Hp, SqL K H a (ns.map V.int) → sp [.ref a] H (fun v _ => v = .bl true) fun _ _ _ => False) :
    codeAny (model P w) callerA (.call (.ref fa) ⟨[.ref a], []⟩)
      (fun r s' => r = .ok (.ret (.bool true)) ∧ OldK s₁.heap s'.heap ∧ s'.os = s₁.os ∧ AllBare s'.gens) s₁ := by
  have rv := vals_ints hints
  have lenV := hints.length
  have main : ∀ H : Hp, (∀ b, H b = none ∨ ∃ o xs, H b = some (.frz o (.lst xs))) → SqL K H a (ns.map V.int) → HOk P w H s₁.heap →
      (∀ b, H b ≠ none → b = a) → (H a ≠ none → K.lookup a = none) →
      codeAny (model P w) callerA (.call (.ref fa) ⟨[.ref a], []⟩)
        (fun r s' => r = .ok (.ret (.bool true)) ∧ OldK s₁.heap s'.heap ∧ s'.os = s₁.os ∧ AllBare s'.gens) s₁ := by
    intro H only sq hok isA notK
    have free : ∀ {b : Addr} {o : Obj} {es : Array DictEntry} {ep : Nat},
        s₁.heap.get? b = some o → o.data = .dict es ep → H b = none := by
      intro b o es ep hb hd
      cases q : H b with
      | none => rfl
      | some u =>
        have eb : b = a := isA b (by rw [q]; exact fun z => nomatch z)
        rw [eb, ha] at hb
        cases hb
        have z : Data.seq vs.toArray _ = Data.dict es ep := hd
        cases z
    have nsT : ∀ {b : Addr} {m : Str → Option Value}, s₁.heap.Ns b m → (hidT s₁.heap H).Ns b m := by
      rintro b m ⟨o, es, ep, e, d, r⟩
      exact ⟨o, es, ep, hidT_get e (free e d), d, r⟩
    have kT : K.In (hidT s₁.heap H) := by
      intro b o e
      refine hidT_get (inK b o e) ?_
      cases q : H b with
      | none => rfl
      | some u =>
        have eb : b = a := isA b (by rw [q]; exact fun z => nomatch z)
        have nl := notK (by rw [← eb, q]; exact fun z => nomatch z)
        rw [← eb, e] at nl
        cases nl
    have md : Mod K mg (hidT s₁.heap H) := by
      obtain ⟨mc, l1, l2⟩ := lim
      exact ⟨kT, nsT gl, ⟨mb, nsT bl, bb⟩, mc, nsT l1, l2⟩
    have e0 : Env0 P w K mg (hidT s₁.heap H) callerA [] s₁ H := by
      refine ⟨rfl, md, fun b o e => of_hidT e, ?_, trivial, ?_, hok, .of_eq gens⟩
      · exact Nat.le_of_eq (hidT_size _ _)
      · intro b hb
        exact absurd (show b ∈ ([] : List Addr) from hb) (List.not_mem_nil)
    have ran := (F _ kT (nsT gl)).runG callerA [] s₁ H ⟨[.ref a], []⟩ [.ref a] [.ref a] _ _ rfl room e0 (bind s₁ (.ref a)) (.cons rfl .nil) (hsp H sq)
    refine codeAny_mono ran ?_
    intro r s' h
    cases r with
    | error e => exact False.elim h
    | ok fl =>
      cases fl with
      | next => exact False.elim h
      | brk => exact False.elim h
      | cont => exact False.elim h
      | ret u =>
        obtain ⟨v, H', os, bare, un, hok', r', q⟩ := h
        have ev : v = .bl true := q
        subst ev
        obtain rfl : u = Value.bool true := r'
        refine ⟨rfl, OldK.of_keep ?_, os, bare⟩
        intro b o e
        rcases only b with z | ⟨ob, xs, z⟩
        · exact un.keep b o e z (fun y => absurd (show b ∈ ([] : List Addr) from y) List.not_mem_nil) List.not_mem_nil
        · have z2 := un.frzs b ob _ z
          have e1 := (hok b _ z).1
          have e2 := (hok' b _ z2).1
          rw [e] at e1
          cases e1
          exact e2
  cases hk : K.lookup a with
  | some o =>
    have e := inK a o hk
    rw [ha] at e
    cases e
    refine main (fun _ => none) (fun _ => Or.inl rfl) (Or.inr ?_) ?_ (fun b z => absurd rfl z) (fun z => absurd rfl z)
    · exact ⟨_, vs.toArray, _, hk, rfl, rfl, rfl, by rw [List.size_toArray, lenV]; exact short, by simpa using rv⟩
    · intro b u z
      have z' : (none : Option HO) = some u := z
      cases z'
  | none =>
    let o₀ : Obj := { cls := .type "list", data := .seq vs.toArray }
    let H₀ : Hp := fun b => if b = a then some (.frz o₀ (.lst (ns.map V.int))) else none
    have at_a : H₀ a = some (.frz o₀ (.lst (ns.map V.int))) := if_pos rfl
    have off : ∀ b, b ≠ a → H₀ b = none := fun b hb => if_neg hb
    refine main H₀ ?_ (Or.inl (Or.inr ⟨o₀, at_a⟩)) ?_ ?_ (fun _ => hk)
    · intro b
      by_cases hb : b = a
      · rw [hb]
        exact Or.inr ⟨_, _, at_a⟩
      · exact Or.inl (off b hb)
    · intro b u z
      by_cases hb : b = a
      · rw [hb, at_a] at z
        cases z
        rw [hb]
        exact ⟨ha, by rw [List.length_map]; exact short, vs, _, rv, ha⟩
      · rw [off b hb] at z
        cases z
    · intro b z
      by_cases hb : b = a
      · exact hb
      · exact absurd (off b hb) z

theorem walkG {l : PySem.W.OpenLaw} {n k : Nat} {q : Program} {loose : List Str} {XP : (Str → Option Value) → Heap → Prop} {YP : World → Heap → Prop} {d : DefRec}
    {K : Params → PySem.W.Frag} {sp : PySem.W.Frag → Sp} {x : Str} (hn : l.most = some n) (hn2 : n ≤ sizeLine) (hdf : d.params.defaults = []) (room : Room k callerA)
    (hY : ∀ (w : World) (h : Heap), YP w h → (K w.params).In h)
    (F : ∀ (w : World) (mg : Str → Option Value) (fa : Addr) (h : Heap), (K w.params).In h → h.Ns mainGlobals mg → mg d.name = some (.ref fa) →
      ∃ fd : FuncData, (∀ (s : Shared) (u : Value), BindsTo s fd ⟨[u], []⟩ [(x, u)]) ∧
        ∀ base : Heap, (K w.params).In base → base.Ns mainGlobals mg → FnG l.prog w (K w.params) mg base k fa fd [x] (sp (K w.params)))
    (hsp : ∀ (K : PySem.W.Frag) (H : Hp) (a : Addr) (ns : List Int), ns.length ≤ n → (∀ z ∈ ns, Builtin.Int.intBits z ≤ 1048576) → SqL K H a (ns.map V.int) →
      sp K [.ref a] H (fun v _ => v = .bl true) fun _ _ _ => False) :
    PySem.W.WalkO q loose XP YP l.row.toRowW d [] (fun f vs => PySem.call f vs) := by
  refine Att.attach_callB hn hdf ?_
  intro w s₀ s₁ mg mb fa o pm cd doc a vs ns G Y ho hd hcd hmg hobj hints hlen hbits hg
  have inK := hY w _ Y
  obtain ⟨fd, hb, hF⟩ := F w mg fa _ inK G.T.g hmg
  exact enterG inK G.T.g G.T.b G.T.builtins G.T.nolimit hg hobj hints (Nat.le_trans hlen hn2) room hF hb fun H hS => hsp _ H a ns hlen hbits hS

/-! ### data in the heap -/
def keyD : Key → PyData
  | .inl i => .int i
  | .inr x => .str x
mutual
/-- v holds the data d; f: no list of it stands at the place of sys.modules -/
inductive D (f : Bool) (H : Hp) : V → PyData → Prop
  | non : D f H .non .none
  | bl (b : Bool) : D f H (.bl b) (.bool b)
  | int (i : Int) : D f H (.int i) (.int i)
  | str (x : Str) : D f H (.str x) (.str x)
  | lst {a : Addr} {xs : List V} {ds : List PyData} : H a = some (.lst xs) → (f = true → a ≠ sysModules) → DA f H xs ds → D f H (.ref a) (.list ds)
  | tup {a : Addr} {xs : List V} {ds : List PyData} : H a = some (.tup xs) → DA f H xs ds → D f H (.ref a) (.tuple ds)
  | dct {a : Addr} {kvs : List (Key × V)} {ds : List PyData} : H a = some (.dK kvs) → DA f H (kvs.map (·.2)) ds → D f H (.ref a) (.dict ((kvs.map fun p => keyD p.1).zip ds))
inductive DA (f : Bool) (H : Hp) : List V → List PyData → Prop
  | nil : DA f H [] []
  | cons {v : V} {vs : List V} {d : PyData} {ds : List PyData} : D f H v d → DA f H vs ds → DA f H (v :: vs) (d :: ds)
end
theorem DA.length {f : Bool} {H : Hp} : ∀ {vs : List V} {ds : List PyData}, DA f H vs ds → vs.length = ds.length
  | _, _, .nil => rfl
  | _, _, .cons _ t => by rw [List.length_cons, List.length_cons, t.length]
theorem DA.get {f : Bool} {H : Hp} : ∀ {vs : List V} {ds : List PyData} (i : Nat) {v : V}, DA f H vs ds → vs[i]? = some v → ∃ d, ds[i]? = some d ∧ D f H v d
  | _, _, _, _, .nil, e => by simp at e
  | _, _, 0, _, .cons h _, e => by
    simp at e
    subst e
    exact ⟨_, rfl, h⟩
  | _, _, i + 1, v, .cons _ t, e => by
    obtain ⟨d, e1, h⟩ := DA.get i (v := v) t (by simpa using e)
    exact ⟨d, by simpa using e1, h⟩
theorem DA.append {f : Bool} {H : Hp} : ∀ {vs ws : List V} {ds es : List PyData}, DA f H vs ds → DA f H ws es → DA f H (vs ++ ws) (ds ++ es)
  | _, _, _, _, .nil, h => h
  | _, _, _, _, .cons h t, g => .cons h (t.append g)
theorem DA.take {f : Bool} {H : Hp} : ∀ {vs : List V} {ds : List PyData} (n : Nat), DA f H vs ds → DA f H (vs.take n) (ds.take n)
  | _, _, 0, _ => .nil
  | _, _, _ + 1, .nil => .nil
  | _, _, n + 1, .cons h t => .cons h (t.take n)
theorem DA.drop {f : Bool} {H : Hp} : ∀ {vs : List V} {ds : List PyData} (n : Nat), DA f H vs ds → DA f H (vs.drop n) (ds.drop n)
  | _, _, 0, h => h
  | _, _, _ + 1, .nil => .nil
  | _, _, n + 1, .cons _ t => t.drop n
theorem DA.rev {f : Bool} {H : Hp} : ∀ {vs : List V} {ds : List PyData}, DA f H vs ds → DA f H vs.reverse ds.reverse
  | _, _, .nil => .nil
  | _, _, .cons h t => by
    rw [List.reverse_cons, List.reverse_cons]
    exact t.rev.append (.cons h .nil)
mutual
theorem D.same {f : Bool} {H H' : Hp} (s : Same H H') : ∀ {v : V} {d : PyData}, D f H v d → D f H' v d
  | _, _, .non => .non
  | _, _, .bl b => .bl b
  | _, _, .int i => .int i
  | _, _, .str x => .str x
  | _, _, .lst e n t => .lst (s _ _ e) n (DA.same s t)
  | _, _, .tup e t => .tup (s _ _ e) (DA.same s t)
  | _, _, .dct e t => .dct (s _ _ e) (DA.same s t)
theorem DA.same {f : Bool} {H H' : Hp} (s : Same H H') : ∀ {vs : List V} {ds : List PyData}, DA f H vs ds → DA f H' vs ds
  | _, _, .nil => .nil
  | _, _, .cons a b => .cons (D.same s a) (DA.same s b)
end
mutual
theorem D.weak {f : Bool} {H : Hp} : ∀ {v : V} {d : PyData}, D f H v d → D false H v d
  | _, _, .non => .non
  | _, _, .bl b => .bl b
  | _, _, .int i => .int i
  | _, _, .str x => .str x
  | _, _, .lst e _ t => .lst e (fun z => nomatch z) (DA.weak t)
  | _, _, .tup e t => .tup e (DA.weak t)
  | _, _, .dct e t => .dct e (DA.weak t)
theorem DA.weak {f : Bool} {H : Hp} : ∀ {vs : List V} {ds : List PyData}, DA f H vs ds → DA false H vs ds
  | _, _, .nil => .nil
  | _, _, .cons a b => .cons (D.weak a) (DA.weak b)
end

/-! ### the data are read by the machine -/
theorem readsAll_app {h : Heap} : ∀ {vs : List Value} {ds : List PyData} {as : List Addr}, ReadsAll h vs ds as → True := fun _ => trivial
theorem pairs_keys {P : Program} {w : World} {h : Heap} : ∀ {es : List DictEntry} {kvs : List (Key × Value)}, Pairs (mixKind P w) es kvs →
    ReadsAll h (es.map (·.key)) (kvs.map fun p => keyD p.1) []
  | _, _, .nil => .nil
  | _, _, .cons (kv := kv) (e := e) hk _ t => by
    have r : Reads h e.key (keyD kv.1) [] := by
      rcases keyIs_shape (show keyIs kv.1 e.key = true from hk) with ⟨i, tk, e1, e2⟩ | ⟨x, tk, e1, e2⟩
      · rw [e1, e2]; exact Reads.int i tk
      · rw [e1, e2]; exact Reads.str x tk
    exact ReadsAll.cons r (pairs_keys t)
theorem pairs_vals {P : Program} {w : World} : ∀ {es : List DictEntry} {kvs : List (Key × Value)}, Pairs (mixKind P w) es kvs → es.map (·.val) = kvs.map (·.2)
  | _, _, .nil => rfl
  | _, _, .cons _ hv t => by rw [List.map_cons, List.map_cons, hv, pairs_vals t]
theorem kv_keys : ∀ {kvs : List (Key × V)} {vs : List (Key × Value)}, KV kvs vs → kvs.map (fun p => keyD p.1) = vs.map fun p => keyD p.1
  | _, _, .nil => rfl
  | _, _, .cons h t => by rw [List.map_cons, List.map_cons, h.1, kv_keys t]
theorem kv_vals : ∀ {kvs : List (Key × V)} {vs : List (Key × Value)}, KV kvs vs → Vals (kvs.map (·.2)) (vs.map (·.2))
  | _, _, .nil => .nil
  | _, _, .cons h t => .cons h.2 (kv_vals t)
section
variable {X : Cx} {pins : List (Addr × Obj)} {σ : L2.St} {H : Hp} {s : Shared}
mutual
theorem D.reads {f : Bool} (I : Inv X pins σ H s) : ∀ {v : V} {d : PyData}, D f H v d → ∀ u, RelV v u → ∃ as, Reads s.heap u d as ∧ (f = true → sysModules ∉ as)
  | _, _, .non, u, r => by
    cases r
    exact ⟨_, Reads.none, fun _ => List.not_mem_nil⟩
  | _, _, .bl b, u, r => by
    cases r
    exact ⟨_, Reads.bool b, fun _ => List.not_mem_nil⟩
  | _, _, .int i, u, r => by
    obtain ⟨t, rfl⟩ := r
    exact ⟨_, Reads.int i t, fun _ => List.not_mem_nil⟩
  | _, _, .str x, u, r => by
    obtain ⟨t, rfl⟩ := r
    exact ⟨_, Reads.str x t, fun _ => List.not_mem_nil⟩
  | _, _, .lst (a := a) (xs := xs) e n t, u, r => by
    cases (show u = Value.ref a from r)
    obtain ⟨_, its, k, rv, ho⟩ := (show ObjOk X.prog X.w H s.heap a (.lst xs) from I.hok a _ e)
    obtain ⟨as, ra, na⟩ := DA.reads I t its rv
    refine ⟨_, Reads.list ho rfl rfl ra, fun hf z => ?_⟩
    rcases List.mem_cons.mp z with z | z
    · exact n hf z.symm
    · exact na hf z
  | _, _, .tup (a := a) (xs := xs) e t, u, r => by
    cases (show u = Value.ref a from r)
    obtain ⟨_, its, rv, o, ho, hc, k, hd⟩ := (show ObjOk X.prog X.w H s.heap a (.tup xs) from I.hok a _ e)
    obtain ⟨as, ra, na⟩ := DA.reads I t its rv
    exact ⟨_, Reads.tuple ho hc hd ra, na⟩
  | _, _, .dct (a := a) (kvs := kvs) (ds := ds) e t, u, r => by
    cases (show u = Value.ref a from r)
    obtain ⟨_, ns, vs, kv, o, es, ep, ho, ex, hd, _, pr, _⟩ := (show ObjOk X.prog X.w H s.heap a (.dK kvs) from I.hok a _ e)
    obtain ⟨as, ra, na⟩ := DA.reads I t _ (kv_vals kv)
    have hl : (kvs.map fun p => keyD p.1).length = ds.length := by
      have := t.length
      rw [List.length_map] at this
      rw [List.length_map]
      exact this
    have r1 := pairs_keys (h := s.heap) pr
    rw [← kv_keys kv] at r1
    rw [← pairs_vals pr] at ra
    refine ⟨_, Reads.dict ho ex.1 hd (as := []) (bs := as) ?_ ?_, fun hf z => ?_⟩
    · rw [List.map_fst_zip (Nat.le_of_eq hl)]
      exact r1
    · rw [List.map_snd_zip (Nat.le_of_eq hl.symm)]
      exact ra
    · rcases List.mem_cons.mp z with z | z
      · rw [← z] at ns
        exact absurd ns (by decide)
      · exact na hf (by simpa using z)
theorem DA.reads {f : Bool} (I : Inv X pins σ H s) : ∀ {vs : List V} {ds : List PyData}, DA f H vs ds → ∀ us, Vals vs us → ∃ as, ReadsAll s.heap us ds as ∧ (f = true → sysModules ∉ as)
  | _, _, .nil, us, r => by
    cases r
    exact ⟨_, ReadsAll.nil, fun _ => List.not_mem_nil⟩
  | _, _, .cons h t, us, r => by
    cases r with
    | cons r1 r2 =>
      obtain ⟨as, q1, n1⟩ := D.reads I h _ r1
      obtain ⟨bs, q2, n2⟩ := DA.reads I t _ r2
      exact ⟨_, ReadsAll.cons q1 q2, fun hf z => (List.mem_append.mp z).elim (n1 hf) (n2 hf)⟩
end
end

/-! ### repr -/
/-- what repr takes -/
structure Ok (d : PyData) : Prop where
  sh : d.showable = true
  dp : d.depth ≤ 100
  ln : d.shown.length ≤ sizeLine
def rRepr : List V → Hp → VK → Prop := fun xs H Q => ∃ (v : V) (d : PyData) (f : Bool), xs = [v] ∧ D f H v d ∧ (d.hasDict = true → f = true) ∧ Ok d ∧ Q (.str d.shown) H
theorem call_repr {X : Cx} {k : Nat} (hgd : X.A.guards = some []) (room : Room k X.A) : CallR X (.builtin "repr") rRepr := by
  intro pins s σ H xs us Q I r h
  obtain ⟨v, d, f, rfl, hd, hf, ok, q⟩ := h
  obtain ⟨u, rfl, ru⟩ := vals1 r
  cases hd with
  | non =>
    cases ru
    exact PySem.P.repr_of_none ⟨.str _, H, I.tok _, ⟨_, rfl⟩, by simpa only [PyData.shown] using q⟩
  | bl b =>
    cases ru
    exact PySem.P.repr_of_bool ⟨.str _, H, I.tok _, ⟨_, rfl⟩, by simpa only [PyData.shown] using q⟩
  | int i =>
    obtain ⟨t, rfl⟩ := ru
    have hz : i.natAbs.log2 < 1920 := by simpa only [PyData.showable, decide_eq_true_eq] using ok.sh
    exact PySem.P.repr_of_int hz ⟨.str _, H, I.tok _, ⟨_, rfl⟩, by simpa only [PyData.shown] using q⟩
  | str x =>
    obtain ⟨t, rfl⟩ := ru
    have hz : (reprText x).length ≤ sizeLine := by simpa only [PyData.shown] using ok.ln
    exact PySem.P.repr_of_str ⟨.str _, H, I.tok _, ⟨_, rfl⟩, by simpa only [PyData.shown] using q⟩ hz
  | lst e n t =>
    cases ru
    obtain ⟨as, rd, na⟩ := D.reads I (.lst e n t) _ rfl
    have hu := room.un
    have hdp := ok.dp
    exact repr_of_reads' rd ok.sh (fun z => na (hf z)) hgd (by omega) (fun _ _ e => e) (fun h' tk t2 hk => ⟨.str _, H, I.kept (t' := t2) hk, ⟨_, rfl⟩, q⟩) ok.ln
  | tup e t =>
    cases ru
    obtain ⟨as, rd, na⟩ := D.reads I (.tup e t) _ rfl
    have hu := room.un
    have hdp := ok.dp
    exact repr_of_reads' rd ok.sh (fun z => na (hf z)) hgd (by omega) (fun _ _ e => e) (fun h' tk t2 hk => ⟨.str _, H, I.kept (t' := t2) hk, ⟨_, rfl⟩, q⟩) ok.ln
  | dct e t =>
    cases ru
    obtain ⟨as, rd, na⟩ := D.reads I (.dct e t) _ rfl
    have hu := room.un
    have hdp := ok.dp
    exact repr_of_reads' rd ok.sh (fun z => na (hf z)) hgd (by omega) (fun _ _ e => e) (fun h' tk t2 hk => ⟨.str _, H, I.kept (t' := t2) hk, ⟨_, rfl⟩, q⟩) ok.ln
end Lw

namespace Lw
open PySem PySem.Spec PyProof.Rows L2

/-! ### powers of great numbers -/
def CPowW (i j : Int) : Prop := 0 ≤ j ∧ (Builtin.Int.intBits i : Int) * j ≤ 2 ^ 27
theorem op_powW {X : Cx} : OpR X (binaryOp .Pow) (rI CPowW fun i j => .int (i ^ j.toNat)) :=
  opI fun _ _ _ _ _ _ _ hc q => pow_int hc.1 hc.2 q

/-! ### a tuple turned about -/
section
variable {prog : Program} {w : World} {A : Around} {E : Value → Shared → Prop} {s : Shared}
theorem places_back (n : Nat) : Builtin.Slice.slicePlaces ((n : Int) - 1) (-1) (-1) = n := by
  unfold Builtin.Slice.slicePlaces
  rw [if_neg (by decide)]
  by_cases h : n = 0
  · subst h
    rfl
  · rw [if_pos (by omega)]
    have e : (((n : Int) - 1 - -1 - 1) / (- -1)) = (n : Int) - 1 := by
      rw [show (- -1 : Int) = 1 from rfl, Int.ediv_one]
      omega
    rw [e]
    omega
theorem pick_back (xs : Array Value) : ((List.range xs.size).filterMap fun (k : Nat) => xs[((xs.size : Int) - 1 + (k : Int) * (-1)).toNat]?) = xs.toList.reverse := by
  have e : ∀ k ∈ List.range xs.size, xs[((xs.size : Int) - 1 + (k : Int) * (-1)).toNat]? = xs.toList.reverse[k]? := by
    intro k hk
    have hk' : k < xs.size := List.mem_range.mp hk
    have e1 : ((xs.size : Int) - 1 + (k : Int) * (-1)).toNat = xs.size - 1 - k := by omega
    rw [e1, List.getElem?_reverse (by rw [Array.length_toList]; exact hk'), Array.length_toList, Array.getElem?_toList]
  have fm : ∀ (l : List Nat) (f g : Nat → Option Value), (∀ k ∈ l, f k = g k) → l.filterMap f = l.filterMap g := by
    intro l f g
    induction l with
    | nil => intro _; rfl
    | cons k l ih =>
      intro h
      rw [List.filterMap_cons, List.filterMap_cons, h k List.mem_cons_self, ih fun j hj => h j (List.mem_cons_of_mem _ hj)]
  rw [fm _ _ _ e]
  have e2 : xs.size = xs.toList.reverse.length := by rw [List.length_reverse, Array.length_toList]
  rw [e2]
  generalize xs.toList.reverse = ys
  induction ys with
  | nil => rfl
  | cons y ys ih =>
    rw [List.length_cons, List.range_succ_eq_map, List.filterMap_cons]
    show y :: _ = _
    rw [List.filterMap_map]
    exact congrArg (y :: ·) ih
theorem getItem_back {t sl : Addr} {items : Array Value} {tk : Tok} {Q : Value → Shared → Prop} (ht : IsTup s.heap t items) (hs : s.heap.IsSliceOf sl .none .none (.int (-1) tk))
    (h : Q (.ref s.heap.objs.size) { s with heap := s.heap.push { cls := .type "tuple", data := .seq items.toList.reverse.toArray } }) (hz : items.size ≤ sizeLine) :
    wpAny (model prog w) A (getItem (.ref t) (.ref sl)) Q E s := by
  have room : sizeOk (.seq items.toList.reverse.toArray) := by
    show items.toList.reverse.toArray.size ≤ sizeLine
    rw [List.size_toArray, List.length_reverse, Array.length_toList]
    exact hz
  obtain ⟨os, hos, hcs, hds⟩ := id hs
  have hTs : s.TypeIs (.ref sl) "slice" := ⟨os, hos, hcs⟩
  unfold getItem
  try with_reducible refine wpAny_holding ?_
  first
    | refine wpAny_bind (wpAny_pure ?_)
    | skip
  refine wpAny_bind (wpAny_sequenceKey ht.typeIs (by decide) ?_)
  refine wpAny_bind (wpAny_callSpecial?_slot (name := Str.ofString "__getitem__") ht.typeIs
    PyProof.Rows.slot_tuple_getitem (wpAny_call_entry PyProof.Rows.slot_tuple_getitem ht.typeIs entry_tuple_getitem ?_ (args_tuple_getitem _ _)))
  show wpAny _ _ (Builtin.Tuple.tupleItemsOf (.ref t) >>= _) _ _ s
  refine wpAny_bind (tupleItemsOf_ ht ?_)
  refine wpAny_bind (wpAny_typeOf hTs ?_)
  rw [if_pos (by decide)]
  refine wpAny_bind (m := Builtin.Slice.sliceApplied (.ref sl) (pure (items.size : Int))) ?_
  unfold Builtin.Slice.sliceApplied Builtin.Slice.sliceFields
  refine wpAny_bind (wpAny_bind (wpAny_field hos hds (x := Value.none) rfl (wpAny_bind
    (wpAny_field hos hds (x := Value.none) rfl (wpAny_bind (wpAny_field hos hds (x := .int (-1) tk) rfl (wpAny_pure ?_)))))))
  refine wpAny_bind (slicePart_int ?_)
  show wpAny _ _ (if ((-1 : Int) == 0) = true then _ else _) _ _ s
  rw [if_neg (by decide)]
  refine wpAny_bind (slicePart_none (wpAny_bind (slicePart_none (wpAny_bind (wpAny_pure ?_)))))
  show wpAny _ _ (pure ((items.size : Int) - 1, (-1 : Int), Builtin.Slice.slicePlaces ((items.size : Int) - 1) (-1) (-1))) _ _ s
  rw [places_back]
  refine wpAny_pure ?_
  show wpAny _ _ (if (((items.size : Int) - 1 == 0) && ((-1 : Int) == 1) && (items.size == items.size)) = true then _ else _) _ _ s
  rw [if_neg (by simp), pick_back]
  first
    | exact wpAny_bind (m := Builtin.Tuple.tupleExact _) (wpAny_newObj_type (wpAny_pure ⟨_, rfl, wpAny_pure h⟩) room)
    | exact wpAny_bind (m := Builtin.Tuple.tupleExact _)
        (wpAny_newObj_type (wpAny_bind (wpAny_pure (wpAny_pure ⟨_, rfl, wpAny_pure h⟩))) room)
end
section
variable {X : Cx}
def tRevT (K : PySem.W.Frag) (te : TE) : TE := fun σ H Q => te σ H fun x H1 => ∃ a xs, x = .ref a ∧ SqT K H1 a xs ∧ ∀ p, H1 p = none → Q (.ref p) (upd H1 p (.tup xs.reverse))
theorem vals_rev : ∀ {xs : List V} {us : List Value}, Vals xs us → Vals xs.reverse us.reverse
  | _, _, .nil => .nil
  | _, _, .cons h t => by
    rw [List.reverse_cons, List.reverse_cons]
    exact (vals_rev t).append (.cons h .nil)
theorem pe_revT {e : Expr} {te : TE} {k : Nat} {p1 p2 p3 pos : Pos} (he : PE X e te) :
    PE X (.Subscript e (.Slice none none (some (.UnaryOp .USub (.Constant (.int 1) k p1) p2)) p3) pos) (tRevT X.K te) := by
  refine ⟨fun pins s σ H Q I h => Subscript_ (thn (he.run pins s σ H _ I h) ?_)⟩
  rintro v s1 ⟨x, H1, I1, r1, a, xs, rfl, hx, q⟩
  cases r1
  have hst : PO X (some (.UnaryOp .USub (.Constant (.int 1) k p1) p2)) (tPart (tUn (rU fun i => .int (-i)) (tC (.int 1)))) :=
    po_some (pe_un un_neg pe_int)
  refine wpAny_Slice (thn (po_none.run pins s1 σ H1 (fun o H2 => o = none ∧ H2 = H1) I1 ⟨rfl, rfl⟩) ?_)
  rintro vl s2 ⟨l, H2, I2, pl, el, e2⟩
  subst el e2
  refine thn (po_none.run pins s2 σ H2 (fun o H3 => o = none ∧ H3 = H2) I2 ⟨rfl, rfl⟩) ?_
  rintro vu s3 ⟨u, H3, I3, pu, eu, e3⟩
  subst eu e3
  refine thn (hst.run pins s3 σ H3 (fun o H4 => o = some (-1) ∧ H4 = H3) I3 ⟨1, rfl, -1, rfl, rfl, rfl⟩) ?_
  rintro vs s4 ⟨o, H4, I4, ps, eo, e4⟩
  subst eo e4
  cases pl
  cases pu
  cases ps with
  | int i tk =>
    have I5 : Inv X pins σ H4 { s4 with heap := s4.heap.push { cls := .type "slice", data := .fields #[.none, .none, .int (-1) tk] } } :=
      I4.kept (t' := s4.toks) fun b ob q => Heap.get?_push_of_some _ q
    obtain ⟨its, r, ht, hz⟩ := I5.tuple hx
    have hlen := r.length
    show wpAny (model X.prog X.w) X.A (subscriptTail e (.Slice none none (some (.UnaryOp .USub (.Constant (.int 1) k p1) p2)) p3) (.ref a)
      (.ref s4.heap.objs.size)) (EP X pins σ Q) X.xe { s4 with heap := s4.heap.push { cls := .type "slice", data := .fields #[.none, .none, .int (-1) tk] } }
    refine tail_any (ops := [.ref a, .ref s4.heap.objs.size]) ht.typeIs PyProof.Rows.slot_tuple_getitem.lookup ?_ (by with_unfolding_all rfl)
    refine getItem_back ht (Heap.IsSliceOf.new _ _ _ _) ?_ (by rw [List.size_toArray]; omega)
    refine ⟨.ref _, _, I5.laid (t' := s4.toks) (o := .tup xs.reverse) (fun b ob q => Heap.get?_push_of_some _ q) (Nat.le_refl _) ?_, rfl, q _ (I5.hok.fresh (Nat.le_refl _))⟩
    exact ⟨by rw [List.length_reverse]; exact hz, its.reverse, vals_rev r, IsTup.new _ _⟩
/-! ### tuples cut and put together: one way out -/
theorem cut_whole {xs : List V} {lo hi : Option Int} (h : HT.sIx xs.length 0 lo = 0 ∧ HT.sIx xs.length xs.length hi = xs.length) : cutV xs lo hi = xs := by
  unfold cutV
  rw [h.1, h.2, List.drop_zero, Nat.sub_zero]
  exact List.take_length
def rSlU : V → Option Int → Option Int → Hp → VK → Prop := fun x lo hi H Q => ∃ a xs, x = .ref a ∧ H a = some (.tup xs) ∧
  ∀ p H', Same H H' → H' p = some (.tup (cutV xs lo hi)) → (p = a ∨ H p = none) → Q (.ref p) H'
theorem upd_grow {H : Hp} {p : Addr} {o : HO} (h : H p = none) : Same H (upd H p o) := fun b u q => by
  rw [upd_ne (ne_of_none q h)]
  exact q
theorem sl_U : SlR X rSlU := by
  intro pins s σ H x v vl vu lo hi sl Q I rx hs pl pu h
  obtain ⟨a, xs, rfl, hx, q⟩ := h
  refine sl_tupA pins s σ H _ v vl vu lo hi sl Q I rx hs pl pu ⟨a, xs, rfl, SqT.of hx, fun hw => ?_, fun _ p np => ?_⟩
  · exact q a H (Same.refl H) (by rw [cut_whole hw]; exact hx) (Or.inl rfl)
  · exact q p _ (upd_grow np) upd_same (Or.inr np)
def rCatU : R2 := fun x y H Q => ∃ a b xs ys, x = .ref a ∧ y = .ref b ∧ H a = some (.tup xs) ∧ H b = some (.tup ys) ∧ xs.length + ys.length ≤ sizeLine ∧
  ∀ p H', Same H H' → H' p = some (.tup (xs ++ ys)) → (p = a ∨ p = b ∨ H p = none) → Q (.ref p) H'
theorem op_catU : OpR X (binaryOp .Add) rCatU := by
  intro pins s σ H x y v u Q I rx ry h
  obtain ⟨a, b, xs, ys, rfl, rfl, ha, hb, hz, q⟩ := h
  refine op_catA pins s σ H _ _ v u Q I rx ry ⟨a, b, xs, ys, rfl, rfl, SqT.of ha, SqT.of hb, hz, fun e => ?_, fun _ e => ?_, fun _ _ p np => ?_⟩
  · exact q b H (Same.refl H) (by rw [e]; exact hb) (Or.inr (Or.inl rfl))
  · exact q a H (Same.refl H) (by rw [e, List.append_nil]; exact ha) (Or.inl rfl)
  · exact q p _ (upd_grow np) upd_same (Or.inr (Or.inr np))
def cutD (ds : List PyData) (lo hi : Option Int) : List PyData := (ds.drop (HT.sIx ds.length 0 lo)).take (HT.sIx ds.length ds.length hi - HT.sIx ds.length 0 lo)
theorem DA.cut {f : Bool} {H : Hp} {xs : List V} {ds : List PyData} (h : DA f H xs ds) (lo hi : Option Int) : DA f H (cutV xs lo hi) (cutD ds lo hi) := by
  unfold cutV cutD
  rw [h.length]
  exact (h.drop _).take _
theorem cutD_mem {ds : List PyData} {lo hi : Option Int} {x : PyData} (h : x ∈ cutD ds lo hi) : x ∈ ds := List.mem_of_mem_drop (List.mem_of_mem_take h)
theorem cutV_le (xs : List V) (lo hi : Option Int) : (cutV xs lo hi).length ≤ xs.length := cutV_length xs lo hi
end
end Lw

namespace Lw
open PySem PySem.Spec PyProof.Rows L2

/-! ### kinds of data -/
def tyD : PyData → String
  | .none => "NoneType"
  | .bool _ => "bool"
  | .int _ => "int"
  | .str _ => "str"
  | .list _ => "list"
  | .tuple _ => "tuple"
  | .dict _ => "dict"
theorem D.ty {f : Bool} {K : PySem.W.Frag} {H : Hp} {v : V} {d : PyData} (h : D f H v d) : TyX K H v (.type (tyD d)) := by
  cases h with
  | non => exact .base .non
  | bl b => exact .base (.bl b)
  | int i => exact .base (.int i)
  | str x => exact .base (.str x)
  | lst e n t => exact .base (.lst e)
  | tup e t => exact .base (.tup e)
  | dct e t => exact .base (.dK e)
def isIntD : PyData → Bool
  | .int _ => true
  | .bool _ => true
  | _ => false
def isBoolD : PyData → Bool
  | .bool _ => true
  | _ => false
def isTupD : PyData → Bool
  | .tuple _ => true
  | _ => false
def isStrD : PyData → Bool
  | .str _ => true
  | _ => false
section
variable {K : PySem.W.Frag} {H : Hp} {f : Bool} {v : V} {d : PyData} {Q : VK}
theorem kit_int (d : PyData) : PySem.W.kitOne K (.type (tyD d)) (.type "int") = some (isIntD d) := by
  cases d with
  | none => exact kit_ty (by decide +kernel : kitB "NoneType" "int" = some false)
  | bool b => exact kit_ty (by decide +kernel : kitB "bool" "int" = some true)
  | int i => exact kit_ty (by decide +kernel : kitB "int" "int" = some true)
  | str x => exact kit_ty (by decide +kernel : kitB "str" "int" = some false)
  | list xs => exact kit_ty (by decide +kernel : kitB "list" "int" = some false)
  | tuple xs => exact kit_ty (by decide +kernel : kitB "tuple" "int" = some false)
  | dict kvs => exact kit_ty (by decide +kernel : kitB "dict" "int" = some false)
theorem kit_bool (d : PyData) : PySem.W.kitOne K (.type (tyD d)) (.type "bool") = some (isBoolD d) := by
  cases d with
  | none => exact kit_ty (by decide +kernel : kitB "NoneType" "bool" = some false)
  | bool b => exact kit_ty (by decide +kernel : kitB "bool" "bool" = some true)
  | int i => exact kit_ty (by decide +kernel : kitB "int" "bool" = some false)
  | str x => exact kit_ty (by decide +kernel : kitB "str" "bool" = some false)
  | list xs => exact kit_ty (by decide +kernel : kitB "list" "bool" = some false)
  | tuple xs => exact kit_ty (by decide +kernel : kitB "tuple" "bool" = some false)
  | dict kvs => exact kit_ty (by decide +kernel : kitB "dict" "bool" = some false)
theorem kit_tup (d : PyData) : PySem.W.kitOne K (.type (tyD d)) (.type "tuple") = some (isTupD d) := by
  cases d with
  | none => exact kit_ty (by decide +kernel : kitB "NoneType" "tuple" = some false)
  | bool b => exact kit_ty (by decide +kernel : kitB "bool" "tuple" = some false)
  | int i => exact kit_ty (by decide +kernel : kitB "int" "tuple" = some false)
  | str x => exact kit_ty (by decide +kernel : kitB "str" "tuple" = some false)
  | list xs => exact kit_ty (by decide +kernel : kitB "list" "tuple" = some false)
  | tuple xs => exact kit_ty (by decide +kernel : kitB "tuple" "tuple" = some true)
  | dict kvs => exact kit_ty (by decide +kernel : kitB "dict" "tuple" = some false)
theorem kit_str (d : PyData) : PySem.W.kitOne K (.type (tyD d)) (.type "str") = some (isStrD d) := by
  cases d with
  | none => exact kit_ty (by decide +kernel : kitB "NoneType" "str" = some false)
  | bool b => exact kit_ty (by decide +kernel : kitB "bool" "str" = some false)
  | int i => exact kit_ty (by decide +kernel : kitB "int" "str" = some false)
  | str x => exact kit_ty (by decide +kernel : kitB "str" "str" = some true)
  | list xs => exact kit_ty (by decide +kernel : kitB "list" "str" = some false)
  | tuple xs => exact kit_ty (by decide +kernel : kitB "tuple" "str" = some false)
  | dict kvs => exact kit_ty (by decide +kernel : kitB "dict" "str" = some false)
end
/-- a new thing is laid -/
theorem same_new {H : Hp} {p : Addr} {o : HO} (h : H p = none) : Same H (upd H p o) := fun b u q => by
  rw [upd_ne (ne_of_none q h)]
  exact q

/-! ### draws -/
/-- the hand that draws: at most n draws were mixed -/
def Hd (H : Hp) (a : Addr) (n : Nat) : Prop := ∃ g m c : Int, H a = some (.lst [.int g, .int m, .int c]) ∧ 0 ≤ m ∧ m < 2305843009213693921 ∧ 0 ≤ c ∧ c ≤ n
/-- all but what stands at a is as it was -/
def Kp (a : Addr) (H H' : Hp) : Prop := ∀ b o, b ≠ a → H b = some o → H' b = some o
theorem Kp.refl (a : Addr) (H : Hp) : Kp a H H := fun _ _ _ h => h
theorem Kp.trans {a : Addr} {H H1 H2 : Hp} (x : Kp a H H1) (y : Kp a H1 H2) : Kp a H H2 := fun b o n h => y b o n (x b o n h)
theorem Kp.of_same {a : Addr} {H H' : Hp} (x : Same H H') : Kp a H H' := fun b o _ h => x b o h
theorem Kp.upd {a : Addr} {H H' : Hp} {o : HO} (x : Kp a H H') : Kp a H (L2.upd H' a o) := fun b u n h => by
  rw [upd_ne n]
  exact x b u n h
theorem Hd.same {H H' : Hp} {a : Addr} {n : Nat} (x : Hd H a n) (s : Same H H') : Hd H' a n := by
  obtain ⟨g, m, c, e, r⟩ := x
  exact ⟨g, m, c, s _ _ e, r⟩
theorem Hd.mono {H : Hp} {a : Addr} {n k : Nat} (x : Hd H a n) (h : n ≤ k) : Hd H a k := by
  obtain ⟨g, m, c, e, h1, h2, h3, h4⟩ := x
  exact ⟨g, m, c, e, h1, h2, h3, by omega⟩
/-- the heap without what stands at some places -/
def remL (as : List Addr) (H : Hp) : Hp := fun b => if b ∈ as then none else H b
theorem remL_ne {as : List Addr} {b : Addr} {H : Hp} (h : b ∉ as) : remL as H b = H b := if_neg h
theorem remL_some {as : List Addr} {b : Addr} {H : Hp} {o : HO} (h : remL as H b = some o) : b ∉ as ∧ H b = some o := by
  by_cases e : b ∈ as
  · rw [show remL as H b = none from if_pos e] at h
    cases h
  · rw [remL_ne e] at h
    exact ⟨e, h⟩
theorem remL_same {as : List Addr} {H : Hp} : Same (remL as H) H := fun b o h => (remL_some h).2
theorem same_remL {as : List Addr} {H H' : Hp} (k : Same H H') : Same (remL as H) (remL as H') := fun b o h => by
  obtain ⟨n, e⟩ := remL_some h
  rw [remL_ne n]
  exact k b o e
theorem Kp.remL {as : List Addr} {a : Addr} {H H' : Hp} (ha : a ∈ as) (k : Kp a H H') : Same (Lw.remL as H) (Lw.remL as H') := fun b o h => by
  obtain ⟨n, e⟩ := remL_some h
  rw [remL_ne n]
  exact k b o (fun z => n (z ▸ ha)) e
/-- these places are taken -/
def Trk (as : List Addr) (H : Hp) : Prop := ∀ b ∈ as, H b ≠ none
theorem Trk.same {as : List Addr} {H H' : Hp} (t : Trk as H) (k : Same H H') : Trk as H' := fun b hb z => by
  cases e : H b with
  | none => exact t b hb e
  | some o =>
    rw [k b o e] at z
    cases z
theorem Trk.kp {as : List Addr} {a : Addr} {n : Nat} {H H' : Hp} (t : Trk as H) (k : Kp a H H') (h : Hd H' a n) : Trk as H' := fun b hb z => by
  by_cases e0 : b = a
  · obtain ⟨g, m, c, e, _⟩ := h
    rw [e0, e] at z
    cases z
  · cases e : H b with
    | none => exact t b hb e
    | some o =>
      rw [k b o e0 e] at z
      cases z
theorem Trk.new {as : List Addr} {H : Hp} {p : Addr} (t : Trk as H) (h : H p = none) : p ∉ as := fun z => t p z h
theorem remL_new {as : List Addr} {H : Hp} {p : Addr} {o : HO} (t : Trk as H) (h : H p = none) : remL as (upd H p o) p = some o := by
  rw [remL_ne (t.new h), upd_same]

/-! ### how large data are -/
theorem int_short {i : Int} (h : i.natAbs < 10 ^ 62) : (PyData.shown (.int i)).length ≤ 64 := by
  have e := int_text_length_le10 (k := 62) (by decide) h
  show (Str.ofString (toString i)).length ≤ 64
  rw [PySem.ofString_length]
  omega
structure Bd (n m : Nat) (d : PyData) : Prop where
  lf : d.leavesShort 64 = true
  sh : d.showable = true
  dp : d.depth ≤ n
  wt : d.weight ≤ m
theorem Bd.mono {n m n' m' : Nat} {d : PyData} (h : Bd n m d) (hn : n ≤ n') (hm : m ≤ m') : Bd n' m' d := ⟨h.lf, h.sh, Nat.le_trans h.dp hn, Nat.le_trans h.wt hm⟩
theorem Bd.ok {n m : Nat} {d : PyData} (h : Bd n m d) (hn : n ≤ 100) (hm : m ≤ 250000) : Ok d := by
  refine ⟨h.sh, Nat.le_trans h.dp hn, ?_⟩
  have h1 := PyData.shown_le 64 (by decide) d h.lf
  have h2 : (64 + 2) * d.weight + 64 ≤ 16777216 := by
    have := h.wt
    omega
  exact Nat.le_trans h1 h2
theorem all_of {n m : Nat} : ∀ {ds : List PyData}, (∀ x ∈ ds, Bd n m x) → PyData.leavesShortAll 64 ds = true ∧ PyData.showableAll ds = true ∧ PyData.depthAll ds ≤ n ∧ PyData.weightAll ds ≤ ds.length * (m + 1)
  | [], _ => by
    refine ⟨rfl, rfl, ?_, ?_⟩
    · show PyData.depthAll [] ≤ n
      simp only [PyData.depthAll]
      exact Nat.zero_le _
    · simp only [PyData.weightAll]
      exact Nat.zero_le _
  | x :: ds, h => by
    have hx := h x List.mem_cons_self
    obtain ⟨a, b, c, d⟩ := all_of (ds := ds) fun y hy => h y (List.mem_cons_of_mem _ hy)
    refine ⟨?_, ?_, ?_, ?_⟩
    · simp only [PyData.leavesShortAll, hx.lf, a, Bool.and_self]
    · simp only [PyData.showableAll, hx.sh, b, Bool.and_self]
    · simp only [PyData.depthAll]
      have := hx.dp
      omega
    · simp only [PyData.weightAll, List.length_cons, Nat.succ_mul]
      have := hx.wt
      omega
theorem Bd.tuple {n m k : Nat} {ds : List PyData} (h : ∀ x ∈ ds, Bd n m x) (hk : ds.length * (m + 1) ≤ k) : Bd (n + 1) k (.tuple ds) := by
  obtain ⟨a, b, c, d⟩ := all_of h
  exact ⟨by simpa only [PyData.leavesShort] using a, by simpa only [PyData.showable] using b, by simp only [PyData.depth]; omega, by simp only [PyData.weight]; omega⟩
theorem Bd.list {n m k : Nat} {ds : List PyData} (h : ∀ x ∈ ds, Bd n m x) (hk : ds.length * (m + 1) ≤ k) : Bd (n + 1) k (.list ds) := by
  obtain ⟨a, b, c, d⟩ := all_of h
  exact ⟨by simpa only [PyData.leavesShort] using a, by simpa only [PyData.showable] using b, by simp only [PyData.depth]; omega, by simp only [PyData.weight]; omega⟩
theorem Bd.int {n : Nat} {i : Int} (h : i.natAbs < 10 ^ 62) : Bd n 210 (.int i) := by
  have hl : i.natAbs.log2 < 206 := PySem.Flt.log2_lt_of (by decide) (Nat.lt_of_lt_of_le h (by decide +kernel))
  refine ⟨?_, ?_, ?_, ?_⟩
  · simp only [PyData.leavesShort, decide_eq_true_eq]
    exact int_short h
  · simp only [PyData.showable, decide_eq_true_eq]
    omega
  · simp only [PyData.depth]
    exact Nat.zero_le _
  · simp only [PyData.weight]
    split <;> omega
theorem Bd.flat0 {n m : Nat} {d : PyData} (h : d = .none ∨ (∃ b, d = .bool b) ∨ d = .str "" ∨ d = .str "0" ∨ d = .tuple [] ∨ d = .list [] ∨ d = .dict []) (hn : 1 ≤ n) (hm : 1 ≤ m) : Bd n m d := by
  have z : Bd 1 1 d := by
    rcases h with rfl | ⟨b, rfl⟩ | rfl | rfl | rfl | rfl | rfl
    all_goals exact ⟨by decide +kernel +revert, by decide +kernel +revert, by decide +kernel +revert, by decide +kernel +revert⟩
  exact z.mono hn hm
/-! ### rows of data, by their whole weight -/
structure BA (n t : Nat) (ds : List PyData) : Prop where
  lf : PyData.leavesShortAll 64 ds = true
  sh : PyData.showableAll ds = true
  dp : PyData.depthAll ds ≤ n
  wt : PyData.weightAll ds ≤ t
theorem BA.mono {n t n' t' : Nat} {ds : List PyData} (h : BA n t ds) (hn : n ≤ n') (ht : t ≤ t') : BA n' t' ds := ⟨h.lf, h.sh, Nat.le_trans h.dp hn, Nat.le_trans h.wt ht⟩
theorem BA.nil {n t : Nat} : BA n t [] := ⟨rfl, rfl, by simp only [PyData.depthAll]; exact Nat.zero_le _, by simp only [PyData.weightAll]; exact Nat.zero_le _⟩
theorem wa_append : ∀ (ds es : List PyData), PyData.weightAll (ds ++ es) = PyData.weightAll ds + PyData.weightAll es
  | [], es => by simp only [List.nil_append, PyData.weightAll, Nat.zero_add]
  | d :: ds, es => by
    have := wa_append ds es
    simp only [List.cons_append, PyData.weightAll]
    omega
theorem da_append : ∀ (ds es : List PyData), PyData.depthAll (ds ++ es) = max (PyData.depthAll ds) (PyData.depthAll es)
  | [], es => by simp only [List.nil_append, PyData.depthAll, Nat.zero_max]
  | d :: ds, es => by
    have := da_append ds es
    simp only [List.cons_append, PyData.depthAll]
    omega
theorem la_append : ∀ (ds es : List PyData), PyData.leavesShortAll 64 (ds ++ es) = (PyData.leavesShortAll 64 ds && PyData.leavesShortAll 64 es)
  | [], es => by simp only [List.nil_append, PyData.leavesShortAll, Bool.true_and]
  | d :: ds, es => by simp only [List.cons_append, PyData.leavesShortAll, la_append ds es, Bool.and_assoc]
theorem sa_append : ∀ (ds es : List PyData), PyData.showableAll (ds ++ es) = (PyData.showableAll ds && PyData.showableAll es)
  | [], es => by simp only [List.nil_append, PyData.showableAll, Bool.true_and]
  | d :: ds, es => by simp only [List.cons_append, PyData.showableAll, sa_append ds es, Bool.and_assoc]
theorem BA.append {n t u : Nat} {ds es : List PyData} (h : BA n t ds) (g : BA n u es) : BA n (t + u) (ds ++ es) := by
  refine ⟨?_, ?_, ?_, ?_⟩
  · rw [la_append, h.lf, g.lf]
    rfl
  · rw [sa_append, h.sh, g.sh]
    rfl
  · rw [da_append]
    have := h.dp
    have := g.dp
    omega
  · rw [wa_append]
    have := h.wt
    have := g.wt
    omega
theorem BA.parts {n t : Nat} {ds es : List PyData} (h : BA n t (ds ++ es)) : BA n t ds ∧ BA n t es := by
  have h1 := h.lf
  have h2 := h.sh
  have h3 := h.dp
  have h4 := h.wt
  rw [la_append, Bool.and_eq_true] at h1
  rw [sa_append, Bool.and_eq_true] at h2
  rw [da_append] at h3
  rw [wa_append] at h4
  exact ⟨⟨h1.1, h2.1, by omega, by omega⟩, ⟨h1.2, h2.2, by omega, by omega⟩⟩
theorem BA.take {n t : Nat} {ds : List PyData} (h : BA n t ds) (k : Nat) : BA n t (ds.take k) := by
  rw [← List.take_append_drop k ds] at h
  exact h.parts.1
theorem BA.drop {n t : Nat} {ds : List PyData} (h : BA n t ds) (k : Nat) : BA n t (ds.drop k) := by
  rw [← List.take_append_drop k ds] at h
  exact h.parts.2
theorem BA.cut {n t : Nat} {ds : List PyData} (h : BA n t ds) (lo hi : Option Int) : BA n t (cutD ds lo hi) := (h.drop _).take _
theorem BA.one {n m : Nat} {d : PyData} (h : Bd n m d) : BA n (m + 1) [d] := by
  refine ⟨?_, ?_, ?_, ?_⟩
  · simp only [PyData.leavesShortAll, h.lf, Bool.and_self]
  · simp only [PyData.showableAll, h.sh, Bool.and_self]
  · simp only [PyData.depthAll]
    have := h.dp
    omega
  · simp only [PyData.weightAll]
    have := h.wt
    omega
theorem BA.rev {n t : Nat} : ∀ {ds : List PyData}, BA n t ds → BA n t ds.reverse
  | [], h => h
  | d :: ds, h => by
    have e : d :: ds = [d] ++ ds := rfl
    have p := (e ▸ h : BA n t ([d] ++ ds)).parts
    have hw := h.wt
    simp only [PyData.weightAll] at hw
    have r : BA n (PyData.weightAll ds) ds.reverse := BA.rev ⟨p.2.lf, p.2.sh, p.2.dp, Nat.le_refl _⟩
    have o : BA n (d.weight + 1) [d] := ⟨p.1.lf, p.1.sh, p.1.dp, by simp only [PyData.weightAll]; omega⟩
    rw [List.reverse_cons]
    exact (r.append o).mono (Nat.le_refl _) (by omega)
theorem BA.tuple {n t : Nat} {ds : List PyData} (h : BA n t ds) : Bd (n + 1) t (.tuple ds) :=
  ⟨by simpa only [PyData.leavesShort] using h.lf, by simpa only [PyData.showable] using h.sh, by simp only [PyData.depth]; have := h.dp; omega, by simp only [PyData.weight]; exact h.wt⟩
theorem BA.list {n t : Nat} {ds : List PyData} (h : BA n t ds) : Bd (n + 1) t (.list ds) :=
  ⟨by simpa only [PyData.leavesShort] using h.lf, by simpa only [PyData.showable] using h.sh, by simp only [PyData.depth]; have := h.dp; omega, by simp only [PyData.weight]; exact h.wt⟩
/-- v is a tuple of the data ds, apart from some places -/
def Tp (as : List Addr) (H : Hp) (b : Addr) (ds : List PyData) : Prop := b ∉ as ∧ ∃ xs, H b = some (.tup xs) ∧ DA true (remL as H) xs ds
theorem Tp.same {as : List Addr} {H H' : Hp} {b : Addr} {ds : List PyData} (h : Tp as H b ds) (s : Same H H') : Tp as H' b ds := by
  obtain ⟨n, xs, e, t⟩ := h
  exact ⟨n, xs, s _ _ e, t.same (same_remL s)⟩
theorem Tp.kp {as : List Addr} {a : Addr} {H H' : Hp} {b : Addr} {ds : List PyData} (h : Tp as H b ds) (ha : a ∈ as) (k : Kp a H H') : Tp as H' b ds := by
  obtain ⟨n, xs, e, t⟩ := h
  exact ⟨n, xs, k _ _ (fun z => n (z ▸ ha)) e, t.same (k.remL ha)⟩
theorem Tp.d {as : List Addr} {H : Hp} {b : Addr} {ds : List PyData} (h : Tp as H b ds) : D true (remL as H) (.ref b) (.tuple ds) := by
  obtain ⟨n, xs, e, t⟩ := h
  exact .tup (by rw [remL_ne n]; exact e) t
end Lw

namespace Lw
open PySem PySem.Spec PyProof.Rows L2

/-! ### rows of ints, by their order -/
abbrev lex := HT.lexLt
theorem lex_cons (x y : Int) (xs ys : List Int) : lex (x :: xs) (y :: ys) = if x = y then lex xs ys else decide (x < y) := rfl
theorem lex_irr : ∀ x : List Int, lex x x = false
  | [] => rfl
  | a :: x => by
    rw [lex_cons, if_pos rfl]
    exact lex_irr x
theorem lex_asym : ∀ x y : List Int, lex x y = true → lex y x = false
  | [], [], h => by cases h
  | [], _ :: _, _ => rfl
  | _ :: _, [], h => by cases h
  | a :: x, b :: y, h => by
    rw [lex_cons] at h ⊢
    by_cases e : a = b
    · subst e
      rw [if_pos rfl] at h ⊢
      exact lex_asym x y h
    · rw [if_neg e, decide_eq_true_eq] at h
      rw [if_neg (fun z => e z.symm), decide_eq_false_iff_not]
      omega
theorem lex_tr : ∀ x y z : List Int, lex y x = false → lex z y = false → lex z x = false
  | [], [], [], _, _ => rfl
  | [], [], _ :: _, _, _ => rfl
  | [], _ :: _, [], _, h => by cases h
  | [], _ :: _, _ :: _, _, _ => rfl
  | _ :: _, [], _, h, _ => by cases h
  | _ :: _, _ :: _, [], _, h => by cases h
  | a :: x, b :: y, c :: z, h1, h2 => by
    rw [lex_cons] at h1 h2 ⊢
    by_cases e1 : b = a
    · subst e1
      rw [if_pos rfl] at h1
      by_cases e2 : c = b
      · subst e2
        rw [if_pos rfl] at h2 ⊢
        exact lex_tr x y z h1 h2
      · rw [if_neg e2] at h2 ⊢
        exact h2
    · rw [if_neg e1, decide_eq_false_iff_not] at h1
      by_cases e2 : c = b
      · subst e2
        rw [if_neg e1, decide_eq_false_iff_not]
        omega
      · rw [if_neg e2, decide_eq_false_iff_not] at h2
        rw [if_neg (show ¬ c = a by omega), decide_eq_false_iff_not]
        omega
theorem lex_eq : ∀ x y : List Int, lex x y = false → lex y x = false → x = y
  | [], [], _, _ => rfl
  | [], _ :: _, h, _ => by cases h
  | _ :: _, [], _, h => by cases h
  | a :: x, b :: y, h1, h2 => by
    rw [lex_cons] at h1 h2
    by_cases e : a = b
    · subst e
      rw [if_pos rfl] at h1 h2
      rw [lex_eq x y h1 h2]
    · rw [if_neg e, decide_eq_false_iff_not] at h1
      rw [if_neg (fun z => e z.symm), decide_eq_false_iff_not] at h2
      omega
theorem swo_key {α : Type} (k : α → List Int) : SrtO.Swo fun v u => lex (k v) (k u) :=
  ⟨fun x y h => lex_asym _ _ h, fun x y z h1 h2 => lex_tr _ _ _ h1 h2⟩

/-- v is a tuple of the ints ns -/
def TI (h : Heap) (v : Value) (ns : List Int) : Prop := ∃ (a : Addr) (o : Obj) (its : Array Value) (n : Nat), v = .ref a ∧ h.get? a = some o ∧ o.cls = .type "tuple" ∧ o.data = .seq its n ∧ IntsAre its.toList ns
theorem TI.keeps {h h' : Heap} {v : Value} {ns : List Int} (t : TI h v ns) (k : ∀ b o, h.get? b = some o → o.cls = .type "tuple" → h'.get? b = some o) : TI h' v ns := by
  obtain ⟨a, o, its, n, e, ho, hc, r⟩ := t
  exact ⟨a, o, its, n, e, k a o ho hc, hc, r⟩
section
variable {prog : Program} {w : World} {A : Around} {E : Value → Shared → Prop} {s : Shared} {Q : Bool → Shared → Prop}
theorem lex_walk {b : Bool} : ∀ {xs ys : List Value} {ns ms : List Int} {fin : Bool} (i : Nat), IntsAre xs ns → IntsAre ys ms → fin = decide (ns.length < ms.length) → Q (lex ns ms) s → PySem.W.KatLex prog w A b fin Q (xs.zip ys) i s
  | _, _, _, _, fin, i, .nil, .nil, hf, h => by
    subst hf
    exact PySem.W.kat_nil h
  | _, _, _, _, fin, i, .nil, .cons (ns := ms) m t hy, hf, h => by
    have e : fin = true := by
      rw [hf]
      exact decide_eq_true (by simp)
    rw [e]
    exact PySem.W.kat_nil (i := i) h
  | _, _, _, _, fin, i, .cons (ns := ns) m t hy, .nil, hf, h => by
    have e : fin = false := by
      rw [hf]
      exact decide_eq_false (by simp)
    rw [e]
    exact PySem.W.kat_nil (i := i) h
  | _, _, _, _, fin, i, .cons (ns := ns) x t hx, .cons (ns := ms) y u hy, hf, h => by
    refine PySem.W.kat_cons (SeqAt.EqAt.int_int x t y u prog w _ _ ?_)
    refine PySem.W.kat_go (fun e1 => ?_) (fun e1 => ?_)
    · have ex : x = y := by simpa using e1
      have h' : Q (lex ns ms) s := by
        rw [show lex (x :: ns) (y :: ms) = lex ns ms by rw [lex_cons, if_pos ex]] at h
        exact h
      refine PySem.W.kat_yes (lex_walk (i + 1) hx hy ?_ h')
      rw [hf]
      exact decide_eq_decide.mpr (by simp)
    · have ex : ¬ x = y := by simpa using e1
      have h' : Q (decide (x < y)) s := by
        rw [show lex (x :: ns) (y :: ms) = decide (x < y) by rw [lex_cons, if_neg ex]] at h
        exact h
      exact PySem.W.kat_no (TS.oneLt_ints _ h')
/-- the three ways in which two such tuples are compared -/
theorem ti_tuples {x y : Value} {ns ms : List Int} (hx : TI s.heap x ns) (hy : TI s.heap y ms) (h : Q (lex ns ms) s) : wpAny (model prog w) A (keyLt' (tuples' true) x y) Q E s := by
  obtain ⟨a, o, its, n, rfl, ho, hc, hd, hi⟩ := hx
  obtain ⟨b, p, jts, m, rfl, hp, hc2, hd2, hj⟩ := hy
  refine PySem.W.kat_lt ho hd hp hd2 (lex_walk 0 hi hj ?_ h)
  have e1 := hi.length
  have e2 := hj.length
  rw [Array.length_toList] at e1 e2
  rw [← e1, ← e2]
theorem ti_general {x y : Value} {ns ms : List Int} (hu : A.units < cLine) (hx : TI s.heap x ns) (hy : TI s.heap y ms) (h : Q (lex ns ms) s) : wpAny (model prog w) A (keyLt' general' x y) Q E s := by
  obtain ⟨a, o, its, n, rfl, ho, hc, hd, hi⟩ := hx
  obtain ⟨b, p, jts, m, rfl, hp, hc2, hd2, hj⟩ := hy
  show wpAny _ _ (oneLt' false (.ref a) (.ref b)) Q E s
  exact PySem.W.kat_one _ _ (HT.lt_tupInts ⟨o, ho, hc, n, hd⟩ ⟨p, hp, hc2, m, hd2⟩ hi hj hu h)
theorem ti_one {x y : Value} {ns ms : List Int} (hu : A.units < cLine) (hx : TI s.heap x ns) (hy : TI s.heap y ms) (h : Q (lex ns ms) s) : wpAny (model prog w) A (keyLt' oneType' x y) Q E s := by
  obtain ⟨a, ⟨cls, dd, data, sl⟩, its, n, rfl, ho, hc, hd, hi⟩ := hx
  obtain ⟨b, ⟨cls2, dd2, data2, sl2⟩, jts, m, rfl, hp, hc2, hd2, hj⟩ := hy
  simp only at hc hd hc2 hd2
  subst hc hd hc2 hd2
  rw [keyLt'_oneType, oneLt'_eq]
  simp only [if_true]
  refine wpAny_bind (wpAny_cRoomFor hu ?_)
  refine wpAny_bind (wpAny_callSpecialIfBound?_slot ⟨_, ho, rfl⟩ PySem.F.slot_tuple_lt (call_meets PySem.F.slot_tuple_lt ⟨_, ho, rfl⟩ PySem.F.entry_tuple_lt (PySem.F.args_tuple_lt_2 _ _)
    (HT.tuple_lt_ints a b its jts n m dd dd2 sl sl2 ns ms hi hj) ⟨ho, hp, ?_⟩))
  exact wpAny_truthy_bool h
end
section
variable {M : Model} {A : Around} {E : Value → Shared → Prop} {s : Shared}
/-- the first part of a tuple -/
def fstH (h : Heap) : Value → Option Value
  | .ref a => match h.get? a with
    | some o => match o.data with
      | .seq its _ => its[0]?
      | _ => none
    | none => none
  | _ => none
theorem fst_ti {h : Heap} {a : Addr} {o : Obj} {its : Array Value} {n : Nat} (ho : h.get? a = some o) (hd : o.data = .seq its n) : fstH h (.ref a) = its[0]? := by
  unfold fstH
  simp only [ho, hd]
theorem fst_some {h : Heap} {v : Value} {ns : List Int} (t : TI h v ns) : (fstH h v).isSome = true ↔ ns ≠ [] := by
  obtain ⟨a, o, its, n, e, ho, hc, hd, hi⟩ := t
  subst e
  rw [fst_ti ho hd, ← Array.getElem?_toList]
  generalize its.toList = l at hi
  cases hi with
  | nil => simp
  | cons x t r => simp
theorem firsts_run {k : Value → List Int} : ∀ (vs : List Value) {Q : List (Option Value) → Shared → Prop}, (∀ v ∈ vs, TI s.heap v (k v)) → Q (vs.map (fstH s.heap)) s → wpAny M A (vs.mapM firstOfTuple') Q E s
  | [], _, _, h => by
    rw [List.mapM_nil]
    exact wpAny_pure h
  | v :: vs, Q, hp, h => by
    obtain ⟨a, o, its, n, e, ho, hc, hd, hi⟩ := hp v List.mem_cons_self
    subst e
    rw [List.mapM_cons]
    refine wpAny_bind ?_
    rw [PySem.W.kas_first_eq]
    refine wpAny_bind (PySem.W.Looks.here (show PySem.W.Looks M s.heap (typeOf (.ref a)) o.cls from (PySem.W.Looks.ld ho).andThen .now) ?_)
    rw [hc, if_neg (by first | decide | simp)]
    refine wpAny_bind (listItems_at ho hd (wpAny_pure ?_))
    refine wpAny_bind (firsts_run vs (Q := fun bs s' => wpAny M A (pure (its[0]? :: bs)) Q E s') (fun u hu => hp u (List.mem_cons_of_mem _ hu)) (wpAny_pure ?_))
    rw [List.map_cons, fst_ti ho hd] at h
    exact h
theorem types_tup {k : Value → List Int} {vs : List Value} (h : ∀ v ∈ vs, TI s.heap v (k v)) (h0 : 0 < vs.length) {Q : Option Value → Shared → Prop} (hq : Q (some (.type "tuple")) s) : wpAny M A (oneTypeOnly' vs.toArray) Q E s := by
  rw [oneTypeOnly'_eq, List.mapM_toArray, map_eq_pure_bind]
  refine wpAny_bind (wpAny_bind (PySem.W.kas_mapM (r := Value.type "tuple") _ (fun v hv Q' hq' => ?_) (wpAny_pure ?_)))
  · obtain ⟨a, o, its, n, e, ho, hc, _⟩ := h v hv
    subst e
    have l : PySem.W.Looks M s.heap (typeOf (.ref a)) o.cls := (PySem.W.Looks.ld ho).andThen .now
    rw [hc] at l
    exact l.here hq'
  · have all : ((List.map (fun _ => Value.type "tuple") vs).toArray.all fun x => x == Value.type "tuple") = true := by
      simp only [List.all_toArray, List.all_map, List.all_eq_true]
      intro _ _
      rfl
    have at0 : (List.map (fun _ => Value.type "tuple") vs).toArray[0]? = some (Value.type "tuple") := by
      match vs, h0 with
      | v :: vs, _ => simp
    rw [at0]
    simp only [all, if_true]
    exact wpAny_pure hq
end
section
variable {prog : Program} {w : World} {A : Around} {E : Value → Shared → Prop} {s : Shared}
theorem tups_sortable {a : Addr} {vs : List Value} {k : Value → List Int} (hu : A.units < cLine) (h0 : 0 < vs.length) (hp : ∀ v ∈ vs, TI s.heap v (k v)) (ha : ∀ o, s.heap.get? a = some o → o.cls ≠ .type "tuple") :
    SrtO.SortableO prog w A s a vs fun v u => lex (k v) (k u) := by
  intro h' keep
  have hp' : ∀ v ∈ vs, TI h' v (k v) := fun v hm => (hp v hm).keeps fun b o e c => keep b o (fun z => by subst z; exact ha o e c) e
  by_cases hall : ∀ v ∈ vs, k v ≠ []
  · refine ⟨tuples' true, fun Q E hq => ?_, fun p q hm hm' => ti_tuples (hp' _ hm) (hp' _ hm') ⟨rfl, rfl⟩⟩
    have ks : ∀ us : List Value, (∀ v ∈ us, TI h' v (k v) ∧ k v ≠ []) → ∃ fs : List Value, PySem.W.KatTups h' us fs ∧ fs.length = us.length ∧ ∀ f ∈ fs, ∃ x t, f = Value.int x t := by
      intro us
      induction us with
      | nil => intro _; exact ⟨[], PySem.W.KatTups.nil, rfl, fun f hf => by cases hf⟩
      | cons u us ih =>
        intro hus
        obtain ⟨fs, f1, f2, f3⟩ := ih fun v hv => hus v (List.mem_cons_of_mem _ hv)
        obtain ⟨⟨b, o, its, n, e, ho, hc, hd, hi⟩, hne⟩ := hus u List.mem_cons_self
        subst e
        obtain ⟨x, t, hx⟩ : ∃ x t, its[0]? = some (Value.int x t) := by
          rw [← Array.getElem?_toList]
          generalize its.toList = l at hi
          generalize k (.ref b) = ns at hi hne
          cases hi with
          | nil => exact absurd rfl hne
          | cons x t r => exact ⟨x, t, rfl⟩
        refine ⟨.int x t :: fs, PySem.W.KatTups.cons ho hc hd hx f1, by rw [List.length_cons, List.length_cons, f2], fun f hf => ?_⟩
        rcases List.mem_cons.mp hf with e | hf
        · exact ⟨x, t, e⟩
        · exact f3 f hf
    obtain ⟨fs, f1, f2, f3⟩ := ks vs fun v hv => ⟨hp' v hv, hall v hv⟩
    refine PySem.W.kat_kind (T := .type "int") f1 (by omega) (fun f hm => ?_) (by rfl) ?_
    · obtain ⟨x, t, rfl⟩ := f3 f hm
      exact PySem.W.Looks.now
    · have e : (Value.type "int" != Value.type "tuple") = true := by
        first
          | decide +kernel
          | rfl
      rw [e]
      exact hq
  · have notall : ¬ ((vs.map (fstH h')).toArray.all fun x => x.isSome) = true := fun z => hall fun v hv => by
      rw [List.all_toArray, List.all_eq_true] at z
      exact (fst_some (hp' v hv)).mp (z _ (List.mem_map.mpr ⟨v, hv, rfl⟩))
    by_cases h1 : (((vs.map (fstH h')).toArray[0]?).bind id).isSome = true
    · refine ⟨general', fun Q E hq => ?_, fun p q hm hm' => ti_general hu (hp' _ hm) (hp' _ hm') ⟨rfl, rfl⟩⟩
      rw [keyKind'_eq, List.mapM_toArray, map_eq_pure_bind]
      refine wpAny_bind (wpAny_bind (firsts_run (s := { s with heap := h' }) (k := k) vs hp' (wpAny_pure ?_)))
      rw [if_neg notall, if_pos h1]
      exact wpAny_pure hq
    · refine ⟨oneType', fun Q E hq => ?_, fun p q hm hm' => ti_one hu (hp' _ hm) (hp' _ hm') ⟨rfl, rfl⟩⟩
      rw [keyKind'_eq, List.mapM_toArray, map_eq_pure_bind]
      refine wpAny_bind (wpAny_bind (firsts_run (s := { s with heap := h' }) (k := k) vs hp' (wpAny_pure ?_)))
      rw [if_neg notall, if_neg h1]
      exact wpAny_bind (types_tup (s := { s with heap := h' }) hp' h0 (wpAny_pure hq))
end
/-! ### sorted of a tuple -/
section
variable {prog : Program} {w : World} {A : Around} {E : Value → Shared → Prop} {s : Shared}
theorem collect_tup {l : Addr} {vs : List Value} {Q : List Value → Shared → Prop} (hl : IsTup s.heap l vs.toArray) (hsz : vs.length ≤ sizeLine)
    (h : Q vs { s with heap := (s.heap.push (seqObj "list" #[] 0)).update s.heap.objs.size (Obj.mapSeq (· ++ vs.toArray)) }) : wpAny (model prog w) A (collect (.ref l)) Q E s := by
  obtain ⟨o, ho, hc, n, hd⟩ := id hl
  unfold collect
  refine wpAny_bind (wpAny_runValue (codeAny_builtin entry_proto_collect' ?_))
  show wpAny _ _ (do again (.builtin "list.__iadd__" ⟨[← newList [], .ref l], []⟩)) _ _ s
  refine wpAny_bind (wpAny_newList (wpAny_pure ⟨Code.quiet_builtin _ (by decide +kernel), codeAny_builtin entry_list_iadd' ?_⟩))
  show wpAny _ _ (Builtin.List.listExtendWith (.ref s.heap.objs.size) (.ref l) (.ref s.heap.objs.size)) _ _ { s with heap := s.heap.push (seqObj "list" #[] 0) }
  unfold Builtin.List.listExtendWith
  have old : (s.heap.push (seqObj "list" #[] 0)).get? l = some o := Heap.get?_push_of_some _ ho
  refine wpAny_bind (wpAny_typeOf (T := "tuple") ⟨o, old, hc⟩ ?_)
  have yes : (Value.type "tuple" == Value.type "tuple") = true := by rfl
  rw [if_pos (by rw [yes]; simp)]
  refine wpAny_bind (listItems_at old hd ?_)
  refine wpAny_bind (listItems_at (xs := #[]) (n := 0) (Heap.get?_push_size _ rfl) rfl ?_)
  rw [if_neg (by simp)]
  refine wpAny_bind (listUpdate_at (xs := #[]) (n := 0) (Heap.get?_push_size _ rfl) rfl ?_ (Nat.zero_le _)
    (by show (#[] ++ vs.toArray).size ≤ sizeLine + 1; simp only [Array.size_append, List.size_toArray, List.length_nil]; omega))
  refine wpAny_pure ?_
  show wpAny (model prog w) A (do
      let o ← load s.heap.objs.size
      match o.data with
      | .seq xs _ => pure xs.toList
      | _ => unsupported "internal:collect") Q E { s with heap := (s.heap.push (seqObj "list" #[] 0)).update s.heap.objs.size (Obj.mapSeq (· ++ vs.toArray)) }
  refine wpAny_bind (wpAny_load (get?_update_seq (Heap.get?_push_size _ rfl) _) ?_)
  show wpAny _ _ (pure ((#[] : Array Value) ++ vs.toArray).toList) Q E _
  have e : ((#[] : Array Value) ++ vs.toArray).toList = vs := by simp
  rw [e]
  exact wpAny_pure h
/-- sorted(t, reverse=True), t a tuple or a list of tuples of ints -/
theorem sorted_tups {l : Addr} {vs : List Value} {k : Value → List Int} {Q : Value → Shared → Prop} (hu : A.units + 2 < cLine) (hl : IsTup s.heap l vs.toArray ∨ s.heap.IsList l vs.toArray) (hz : vs.length ≤ sizeLine) (hp : ∀ v ∈ vs, TI s.heap v (k v))
    (h : ∀ out : List Value, out.Perm vs → out.Pairwise (fun x y => lex (k x) (k y) = false) → Q (.ref (s.heap.objs.size + 1)) { s with heap := sortedAll s.heap vs out.toArray }) :
    wpAny (model prog w) A (call (.builtin "sorted") [.ref l] [(Str.ofString "reverse", .bool true)]) Q E s := by
  have fin : ∀ out : List Value, SrtO.Srtd (fun v u => lex (k v) (k u)) out → SrtO.Stb (fun v u => lex (k v) (k u)) out (if true = true then vs.reverse else vs) →
      Q (.ref (s.heap.objs.size + 1)) { s with heap := sortedAll s.heap vs (if true = true then out.toArray.reverse else out.toArray) } := by
    intro out h1 h2
    rw [if_pos rfl] at h2 ⊢
    have e : out.toArray.reverse = out.reverse.toArray := by simp
    rw [e]
    refine h _ (((List.reverse_perm out).trans h2.perm).trans (List.reverse_perm vs)) ?_
    exact List.pairwise_reverse.mpr h1
  have sortable : 2 ≤ vs.length → ∀ (h₁ : Heap) (a : Addr), h₁.get? a = some (seqObj "list" vs.toArray 0) → (∀ b o, s.heap.get? b = some o → b ≠ a ∧ h₁.get? b = some o) →
      SrtO.SortableO prog w A.in1.in1 { s with heap := h₁ } a vs fun v u => lex (k v) (k u) := by
    intro h2 h₁ a ha kk
    refine tups_sortable (s := { s with heap := h₁ }) (by show A.units + 1 + 1 < cLine; omega) (by omega) (fun v hm => (hp v hm).keeps fun b o e _ => (kk b o e).2) fun o e => ?_
    have e' : some o = some (seqObj "list" vs.toArray 0) := e.symm.trans ha
    cases e'
    exact fun c => absurd (Value.type.inj c) (by decide)
  rcases hl with hl | hl
  · refine call_function_entry_kw kind_sorted plain_sorted entry_sorted (args_sorted_rev _ _) ?_
    unfold Builtin.«sorted»
    refine wpAny_bind (m := checkCount "sorted" 1 1 _) (wpAny_pure ?_)
    refine wpAny_bind (collect_tup hl hz ?_)
    refine wpAny_bind (wpAny_newList ?_ hz)
    have sz : ((s.heap.push (seqObj "list" #[] 0)).update s.heap.objs.size (Obj.mapSeq (· ++ vs.toArray))).objs.size = s.heap.objs.size + 1 := by
      rw [Heap.size_update, size_push']
    have new : (((s.heap.push (seqObj "list" #[] 0)).update s.heap.objs.size (Obj.mapSeq (· ++ vs.toArray))).push (seqObj "list" vs.toArray 0)).get? (s.heap.objs.size + 1) = some (seqObj "list" vs.toArray 0) := by
      rw [← sz]
      exact Heap.get?_push_size _ rfl
    have keep : ∀ b o, s.heap.get? b = some o → b ≠ s.heap.objs.size + 1 ∧ (((s.heap.push (seqObj "list" #[] 0)).update s.heap.objs.size (Obj.mapSeq (· ++ vs.toArray))).push (seqObj "list" vs.toArray 0)).get? b = some o := by
      intro b o q
      have lt : b < s.heap.objs.size := Heap.lt_size q
      refine ⟨Nat.ne_of_lt (Nat.lt_succ_of_lt lt), Heap.get?_push_of_some _ ?_⟩
      rw [Heap.get?_update_ne _ _ _ _ (Nat.ne_of_lt lt)]
      exact Heap.get?_push_of_some _ q
    show wpAny _ _ _ _ _ { s with heap := ((s.heap.push (seqObj "list" #[] 0)).update s.heap.objs.size (Obj.mapSeq (· ++ vs.toArray))).push (seqObj "list" vs.toArray 0) }
    rw [sz]
    refine wpAny_bind (wpAny_holding (wpAny_call_entry_kw slot_list_sort ⟨_, new, rfl⟩ entry_list_sort ?_ (args_list_sort_rev _ _)))
    refine SrtR.list_sort_ordR (swo_key k) new hz (fun h2 => sortable h2 _ _ new keep) fun out hs hb => ⟨_, rfl, ?_⟩
    exact wpAny_pure ⟨_, rfl, fin out hs hb⟩
  · exact SrtR.sorted_ordK (fun _ => rfl) (args_sorted_rev _ _) (fun _ => args_list_sort_rev _ _) (swo_key k) hl hz sortable fin
end
section
variable {X : Cx}
def rSortTR (K : PySem.W.Frag) : List V → List V → Hp → VK → Prop := fun vs zs H Q => ∃ (a : Addr) (xs : List V) (k : V → List Int), vs = [V.ref a] ∧ zs = [V.bl true] ∧ (SqT K H a xs ∨ SqL K H a xs) ∧
  (∀ x ∈ xs, ∃ t, x = V.ref t ∧ H t = some (.tup ((k x).map V.int))) ∧
  ∀ ys p, ys.Perm xs → ys.Pairwise (fun x y => lex (k x) (k y) = false) → H p = none → Q (.ref p) (upd H p (.lst ys))
theorem cr_sortTR {r : Nat} (room : Room r X.A) : CallRK X (.builtin "sorted") [Str.ofString "reverse"] (rSortTR X.K) := by
  intro pins s σ H vs zs us ws Q I r rz h
  obtain ⟨a, xs, k, rfl, rfl, hs, hx, q⟩ := h
  obtain rfl := Vals.ref1 r
  obtain ⟨w1, rfl, e1⟩ := vals1 rz
  obtain rfl : w1 = Value.bool true := e1
  obtain ⟨its, rv, hl, hz⟩ : ∃ its : List Value, Vals xs its ∧ (IsTup s.heap a its.toArray ∨ s.heap.IsList a its.toArray) ∧ xs.length ≤ sizeLine := by
    rcases hs with hs | hs
    · obtain ⟨its, rv, p, hz⟩ := I.tuple hs
      exact ⟨its, rv, .inl p, hz⟩
    · obtain ⟨its, rv, p, hz⟩ := I.list hs
      exact ⟨its, rv, .inr p.isList, hz⟩
  obtain ⟨e1, e2⟩ := refs_back rv fun x m => by
    obtain ⟨t, e, _⟩ := hx x m
    exact ⟨t, e⟩
  refine sorted_tups (k := fun u => k (backV u)) (by have := room.un; omega) hl (by rw [← rv.length]; exact hz) (fun v hv => ?_) fun out h1 h2 => ?_
  · obtain ⟨t, rfl⟩ := e2 v hv
    have hm : V.ref t ∈ xs := by
      rw [e1]
      exact List.mem_map.mpr ⟨_, hv, rfl⟩
    obtain ⟨t', e, ht⟩ := hx _ hm
    cases e
    obtain ⟨_, its2, r2, o, ho, hc, n, hd⟩ := I.hok _ _ ht
    exact ⟨t, o, its2.toArray, n, rfl, ho, hc, hd, intsAre_of r2⟩
  · have h3 : ∀ u ∈ out, ∃ b, u = Value.ref b := fun u hu => e2 u (h1.mem_iff.mp hu)
    obtain ⟨n, hn⟩ := PyProof.Rows.sortedAll_at s.heap its out.toArray
    have hb : (out.map backV).Perm xs := by
      rw [e1]
      exact h1.map backV
    refine ⟨.ref _, upd H (s.heap.objs.size + 1) (.lst (out.map backV)), I.laid (t' := s.toks) (fun _ _ => PyProof.Rows.sortedAll_old) (Nat.le_succ _) ⟨?_, out, n, vals_back h3, hn⟩, rfl, q _ _ hb (List.pairwise_map.mpr h2) (I.hok.fresh (Nat.le_succ _))⟩
    rw [hb.length_eq]
    exact hz
end
end Lw

namespace Lw
open PySem PySem.Spec PyProof.Rows L2

/-! ### comprehensions over a tuple, over a range -/
/-- what a comprehension's reading asks behind its source -/
def LcEnd (J : It) (g : TG) (tt : TT) (te : TE) (vs : List Nat) (σ : L2.St) (H1 : Hp) (D : Addr) (Qd : Hp → Prop) : Prop :=
  ∃ W : Nat → Nat → Hp → Prop, (∃ m, W 0 m (upd H1 D (.lst []))) ∧ ∀ i m H, W i m H →
    (J.stop i H ∧ Qd H) ∨ (J.go i H ∧ ∃ Nx : Hp → Prop, (∀ H', Nx H' → ∃ m', m' < m ∧ W (i + 1) m' H') ∧ ∀ x H', J.yld i H x H' → g x (wipe σ vs) H' fun σ2 H2 => wipe σ2 vs = wipe σ vs ∧ tt σ2 H2 fun b H3 =>
      if b = true then te σ2 H3 fun y H4 => ∃ acc, H4 D = some (.lst acc) ∧ acc.length < sizeLine ∧ Nx (upd H4 D (.lst (acc ++ [y]))) else Nx H3)
theorem lc_tup {K : PySem.W.Frag} {a : Addr} {xs : List V} {g : TG} {tt : TT} {te : TE} {vs : List Nat} {σ : L2.St} {H1 : Hp} {D : Addr} {Qd : Hp → Prop} (Pv : Nat → Hp → Prop) (h0 : Pv 0 (upd H1 D (.lst []))) (hl : ∀ i H, i ≤ xs.length → Pv i H → SqT K H a xs)
    (hs : ∀ i x H, xs[i]? = some x → Pv i H → g x (wipe σ vs) H fun σ2 H2 => wipe σ2 vs = wipe σ vs ∧ tt σ2 H2 fun b H3 =>
      if b = true then te σ2 H3 fun y H4 => ∃ acc, H4 D = some (.lst acc) ∧ acc.length < sizeLine ∧ Pv (i + 1) (upd H4 D (.lst (acc ++ [y]))) else Pv (i + 1) H3) (hd : ∀ H, Pv xs.length H → Qd H) :
    LcEnd (Itt K a) g tt te vs σ H1 D Qd := by
  refine ⟨fun i m H => m = xs.length - i ∧ i ≤ xs.length ∧ Pv i H, ⟨xs.length, by simp, Nat.zero_le _, h0⟩, ?_⟩
  rintro i m H ⟨rfl, hi, p⟩
  have q := hl i H hi p
  by_cases lt : i < xs.length
  · refine Or.inr ⟨⟨xs, xs[i], q, by simp [lt]⟩, Pv (i + 1), ?_, ?_⟩
    · intro H' p'
      exact ⟨xs.length - (i + 1), by omega, rfl, lt, p'⟩
    · rintro x H' ⟨e, y⟩
      subst e
      exact hs i x _ (y xs q) p
  · have e : i = xs.length := by omega
    subst e
    exact Or.inl ⟨⟨xs, q, Nat.le_refl _⟩, hd H p⟩
theorem lc_range {lo : Int} {n : Nat} {g : TG} {tt : TT} {te : TE} {vs : List Nat} {σ : L2.St} {H1 : Hp} {D : Addr} {Qd : Hp → Prop} (Pv : Nat → Hp → Prop) (h0 : Pv 0 (upd H1 D (.lst [])))
    (hs : ∀ i H, i < n → Pv i H → g (.int (lo + i)) (wipe σ vs) H fun σ2 H2 => wipe σ2 vs = wipe σ vs ∧ tt σ2 H2 fun b H3 =>
      if b = true then te σ2 H3 fun y H4 => ∃ acc, H4 D = some (.lst acc) ∧ acc.length < sizeLine ∧ Pv (i + 1) (upd H4 D (.lst (acc ++ [y]))) else Pv (i + 1) H3) (hd : ∀ H, Pv n H → Qd H) :
    LcEnd (Itr lo n) g tt te vs σ H1 D Qd := by
  refine ⟨fun i m H => m = n - i ∧ i ≤ n ∧ Pv i H, ⟨n, by simp, Nat.zero_le _, h0⟩, ?_⟩
  rintro i m H ⟨rfl, hi, p⟩
  by_cases lt : i < n
  · refine Or.inr ⟨lt, Pv (i + 1), ?_, ?_⟩
    · intro H' p'
      exact ⟨n - (i + 1), by omega, rfl, lt, p'⟩
    · rintro x H' ⟨e, y⟩
      subst e y
      exact hs i _ lt p
  · have e : i = n := by omega
    subst e
    exact Or.inl ⟨Nat.le_refl _, hd H p⟩

/-! ### the k-th greatest -/
section
variable {α : Type}
def above (key : α → List Int) (xs : List α) (v : α) : Nat := (xs.filter fun x => lex (key v) (key x)).length
def below (key : α → List Int) (xs : List α) (v : α) : Nat := (xs.filter fun x => lex (key x) (key v)).length
structure IsKth (key : α → List Int) (xs : List α) (k : Nat) (v : α) : Prop where
  up : above key xs v < k
  dn : below key xs v + k ≤ xs.length
theorem filter_false {p : α → Bool} {l : List α} (h : ∀ x ∈ l, p x = false) : l.filter p = [] :=
  List.filter_eq_nil_iff.mpr fun x hx => by
    rw [h x hx]
    exact Bool.false_ne_true
theorem kth_parts {key : α → List Int} {xs A B : List α} {v : α} (hp : (A ++ v :: B).Perm xs) (hs : (A ++ v :: B).Pairwise fun x y => lex (key x) (key y) = false) : IsKth key xs (A.length + 1) v := by
  obtain ⟨h1, h2, h3⟩ := List.pairwise_append.mp hs
  obtain ⟨h4, h5⟩ := List.pairwise_cons.mp h2
  have up : ∀ x ∈ v :: B, lex (key v) (key x) = false := by
    intro x hx
    rcases List.mem_cons.mp hx with z | hx
    · rw [z]
      exact lex_irr _
    · exact h4 x hx
  have dn : ∀ x ∈ A, lex (key x) (key v) = false := fun x hx => h3 x hx _ List.mem_cons_self
  have n1 : above key xs v = ((A ++ v :: B).filter fun x => lex (key v) (key x)).length := (hp.filter _).length_eq.symm
  have n2 : below key xs v = ((A ++ v :: B).filter fun x => lex (key x) (key v)).length := (hp.filter _).length_eq.symm
  rw [List.filter_append, filter_false up, List.append_nil] at n1
  rw [List.filter_append, filter_false dn, List.nil_append, List.filter_cons_of_neg (by rw [lex_irr]; exact Bool.false_ne_true)] at n2
  have f1 := List.length_filter_le (fun x => lex (key v) (key x)) A
  have f2 := List.length_filter_le (fun x => lex (key x) (key v)) B
  have hl := hp.length_eq
  rw [List.length_append, List.length_cons] at hl
  exact ⟨by omega, by omega⟩
theorem kth_of_sorted {key : α → List Int} {xs ys : List α} {k : Nat} {v : α} (hp : ys.Perm xs) (hs : ys.Pairwise fun x y => lex (key x) (key y) = false) (h : ys[k]? = some v) : IsKth key xs (k + 1) v := by
  obtain ⟨hk, hv⟩ := List.getElem?_eq_some_iff.mp h
  have e : ys = ys.take k ++ v :: ys.drop (k + 1) := by
    rw [← hv, ← List.drop_eq_getElem_cons hk]
    exact (List.take_append_drop k ys).symm
  have lt : (ys.take k).length = k := by
    rw [List.length_take]
    omega
  have r := kth_parts (key := key) (xs := xs) (A := ys.take k) (v := v) (B := ys.drop (k + 1)) (by rw [← e]; exact hp) (by rw [← e]; exact hs)
  rw [lt] at r
  exact r
theorem filter_le {p q : α → Bool} : ∀ {l : List α}, (∀ x, p x = true → q x = true) → (l.filter p).length ≤ (l.filter q).length
  | [], _ => Nat.le_refl _
  | x :: l, h => by
    have ih := filter_le (l := l) h
    cases hp : p x with
    | true =>
      rw [List.filter_cons_of_pos hp, List.filter_cons_of_pos (h x hp), List.length_cons, List.length_cons]
      omega
    | false =>
      rw [List.filter_cons_of_neg (by rw [hp]; exact Bool.false_ne_true)]
      cases hq : q x with
      | true =>
        rw [List.filter_cons_of_pos hq, List.length_cons]
        omega
      | false =>
        rw [List.filter_cons_of_neg (by rw [hq]; exact Bool.false_ne_true)]
        exact ih
theorem filter_split {p : α → Bool} : ∀ l : List α, (l.filter p).length + (l.filter fun x => !p x).length = l.length
  | [] => rfl
  | x :: l => by
    have ih := filter_split (p := p) l
    cases hp : p x with
    | true =>
      rw [List.filter_cons_of_pos hp, List.filter_cons_of_neg (by rw [hp]; decide), List.length_cons, List.length_cons]
      omega
    | false =>
      rw [List.filter_cons_of_neg (by rw [hp]; decide), List.filter_cons_of_pos (by rw [hp]; rfl), List.length_cons, List.length_cons]
      omega
theorem kth_less {key : α → List Int} {xs : List α} {k : Nat} {u v : α} (hu : IsKth key xs k u) (hv : IsKth key xs k v) : lex (key u) (key v) = false := by
  cases h : lex (key u) (key v) with
  | false => rfl
  | true =>
    exfalso
    have O := swo_key key
    have e1 : (xs.filter fun x => !lex (key x) (key v)).length ≤ above key xs u := by
      refine filter_le fun x hx => ?_
      have hx' : lex (key x) (key v) = false := by simpa using hx
      exact O.ltle (x := u) (y := v) (z := x) h hx'
    have e2 := filter_split (p := fun x => lex (key x) (key v)) xs
    have e3 : (xs.filter fun x => lex (key x) (key v)).length = below key xs v := rfl
    have := hu.up
    have := hv.dn
    omega
theorem kth_same {key : α → List Int} {xs : List α} {k : Nat} {u v : α} (hu : IsKth key xs k u) (hv : IsKth key xs k v) : key u = key v := lex_eq _ _ (kth_less hu hv) (kth_less hv hu)
end
end Lw

namespace Lw
open PySem PySem.Spec PyProof.Rows L2

/-! ### a text once or not at all -/
def rMulS : R2 := fun x y H Q => ∃ (z : Str) (b : Bool), x = .str z ∧ y = .int (if b = true then 1 else 0) ∧ Q (.str (if b = true then z else Str.empty)) H
theorem op_mulS {X : Cx} : OpR X (binaryOp .Mult) rMulS := by
  intro pins s σ H x y v u Q I rx ry h
  obtain ⟨z, b, rfl, rfl, q⟩ := h
  obtain ⟨t, rfl⟩ := rx
  obtain ⟨t', rfl⟩ := ry
  cases b with
  | false => exact PySem.P.mul_str_none (by decide) (by decide) ⟨.str Str.empty, H, I.tok _, ⟨_, rfl⟩, q⟩
  | true =>
    refine PySem.P.mul_str (by decide) (fun _ e => ?_) (fun _ e => ?_) ?_
    · exact absurd e (by simp)
    · exact absurd e (by simp)
    · exact ⟨.str z, H, I, ⟨_, rfl⟩, q⟩

/-! ### a tuple once, or several times -/
theorem tuple_mul1 (l : Addr) (items : Array Value) (n : Nat) (dd : Option Addr) (sl : Array (Option Value)) (u : Tok) :
    Meets (Builtin.«tuple.__mul__» ⟨[.ref l, .int 1 u], []⟩) (fun _ R s => s.heap.get? l = some { cls := .type "tuple", dict := dd, data := .seq items n, slots := sl } ∧ R (.ok (.ret (Value.ref l))) s) :=
  .of_wp fun prog w A R s h => by
    obtain ⟨hp, g, d, tk, os⟩ := s
    obtain ⟨hl, h⟩ := h
    have f1 := AutoSeq1.idx_int
    wp_walk using wpAny_loadPart' hl
    exact ⟨_, rfl, h⟩
def rRepU : R2 := fun x y H Q => ∃ l k xs, x = .ref l ∧ y = .int k ∧ H l = some (.tup xs) ∧ xs ≠ [] ∧ 1 ≤ k ∧ k ≤ 1000 ∧ xs.length ≤ 1000 ∧
  ∀ p H', Same H H' → H' p = some (.tup (List.replicate k.toNat xs).flatten) → (p = l ∨ H p = none) → Q (.ref p) H'
theorem op_repU {X : Cx} : OpR X (binaryOp .Mult) rRepU := by
  intro pins s σ H x y v u Q I rx ry h
  obtain ⟨l, k, xs, rfl, rfl, hT, hne, h1, h2, hz, q⟩ := h
  by_cases hk : k = 1
  · subst hk
    cases rx
    obtain ⟨t, rfl⟩ := ry
    obtain ⟨its, r, ⟨⟨cls, dd, data, sl⟩, ho, hc, n, hd⟩, hs⟩ := I.tuple (SqT.of hT)
    simp only at hc hd
    subst hc hd
    refine wpAny_binaryOp_repeat_ref (T := "tuple") (U := "int") (by decide) ⟨_, ho, rfl⟩ (fun s' => typeIs_int s' 1 t) noFill_tuple_mul F.fills_int_mul F.slot_int_rmul repeat_tuple F.slot_int_index.lookup
      (call_meets F.slot_int_rmul (typeIs_int s 1 t) F.entry_int_rmul (F.args_int_rmul_2 _ _) (int_rmul_tuple 1 t l its.toArray n dd sl)
        ⟨ho, rfl, ⟨_, ho, rfl⟩, call_meets F.slot_tuple_mul ⟨_, ho, rfl⟩ F.entry_tuple_mul (F.args_tuple_mul_2 _ _) (tuple_mul1 l its.toArray n dd sl t) ⟨ho, ?_⟩⟩)
    refine ⟨.ref l, H, I, rfl, q l H (Same.refl H) ?_ (Or.inl rfl)⟩
    have e : (List.replicate (1 : Int).toNat xs).flatten = xs := by
      show (List.replicate 1 xs).flatten = xs
      simp
    rw [e]
    exact hT
  · exact op_repT pins s σ H _ _ v u Q I rx ry ⟨l, k, xs, rfl, rfl, SqT.of hT, hne, by omega, h2, hz, fun p np => q p _ (upd_grow np) upd_same (Or.inr np)⟩

/-! ### len, the written part told -/
def rLen (K : PySem.W.Frag) : List V → Hp → VK → Prop := fun xs H Q => ∃ p ys, xs = [V.ref p] ∧ (SqL K H p ys ∨ SqT K H p ys) ∧ Q (.int ys.length) H
theorem call_lenK {X : Cx} {K : PySem.W.Frag} (h : X.K = K := by rfl) : CallR X (.builtin "len") (rLen K) := by
  subst h
  exact call_len_seq
def rIsiKK (K : PySem.W.Frag) : List V → Hp → VK → Prop := rIsi K
theorem call_isiKK {X : Cx} {K : PySem.W.Frag} (h : X.K = K := by rfl) : CallR X (.builtin "isinstance") (rIsi K) := by
  subst h
  exact call_isi

/-! ### texts of letters -/
def Lt (z : Str) : Prop := ∀ c ∈ z.cps.toList, 97 ≤ c ∧ c ≤ 122
theorem app_cps (x y : Str) : (x ++ y).cps.toList = x.cps.toList ++ y.cps.toList := by
  show (x.cps ++ y.cps).toList = _
  simp
theorem len_cps (z : Str) : z.length = z.cps.toList.length := by
  show z.cps.size = _
  simp
theorem lt_app {x y : Str} (hx : Lt x) (hy : Lt y) : Lt (x ++ y) := by
  intro c hc
  rw [app_cps] at hc
  rcases List.mem_append.mp hc with h | h
  · exact hx c h
  · exact hy c h
theorem lt_one {c : Nat} (h : 97 ≤ c ∧ c ≤ 122) : Lt ⟨#[c]⟩ := by
  intro d hd
  have e : d = c := by simpa using hd
  rw [e]
  exact h
theorem lt_empty : Lt Str.empty := by
  intro c hc
  exact absurd hc (by decide +revert)
theorem lt_cut {z : Str} (h : Lt z) (lo hi : Option Int) : Lt (cutS z lo hi) := by
  intro c hc
  have hc' : c ∈ (z.cps.toList.drop (HT.sIx z.length 0 lo)).take (HT.sIx z.length z.length hi - HT.sIx z.length 0 lo) := by
    have : (cutS z lo hi).cps.toList = (z.cps.toList.drop (HT.sIx z.length 0 lo)).take (HT.sIx z.length z.length hi - HT.sIx z.length 0 lo) := by
      unfold cutS
      simp
    rw [← this]
    exact hc
  exact h c (List.mem_of_mem_drop (List.mem_of_mem_take hc'))
theorem cut_len (z : Str) (lo hi : Option Int) : (cutS z lo hi).length = min (HT.sIx z.length z.length hi - HT.sIx z.length 0 lo) (z.length - HT.sIx z.length 0 lo) := by
  rw [len_cps (cutS z lo hi)]
  unfold cutS
  show ((z.cps.toList.drop (HT.sIx z.length 0 lo)).take (HT.sIx z.length z.length hi - HT.sIx z.length 0 lo)).toArray.toList.length = _
  rw [List.toList_toArray, List.length_take, List.length_drop, ← len_cps]
theorem cut_two (z : Str) (i : Nat) : (cutS z none (some (i : Int))).length + (cutS z (some (i : Int)) none).length = z.length := by
  rw [cut_len, cut_len, HT.sIx_none, HT.sIx_none, HT.sIx_nat, HT.sIx_nat]
  omega
theorem join_lt : ∀ {ys : List Str}, (∀ y ∈ ys, Lt y) → Lt (Str.join Str.empty ys) ∧ (Str.join Str.empty ys).length = (ys.map (·.length)).sum
  | [], _ => ⟨lt_empty, rfl⟩
  | [y], h => ⟨h y List.mem_cons_self, by simp [Str.join]⟩
  | x :: y :: r, h => by
    obtain ⟨h1, h2⟩ := join_lt (ys := y :: r) fun z hz => h z (List.mem_cons_of_mem _ hz)
    have e : Str.join Str.empty (x :: y :: r) = x ++ Str.empty ++ Str.join Str.empty (y :: r) := rfl
    refine ⟨by rw [e]; exact lt_app (lt_app (h x List.mem_cons_self) lt_empty) h1, ?_⟩
    rw [e, strLen_append, strLen_append, h2]
    simp only [List.map_cons, List.sum_cons]
    have : Str.empty.length = 0 := rfl
    omega
theorem bd_str {n : Nat} {z : Str} (h : Lt z) {m : Nat} (hm : z.length ≤ m) : Bd n m (.str z) := by
  refine ⟨?_, rfl, ?_, ?_⟩
  · simp only [PyData.leavesShort, List.all_eq_true, decide_eq_true_eq]
    intro c hc
    have := (h c hc).2
    exact Nat.lt_of_le_of_lt this (by decide)
  · simp only [PyData.depth]
    exact Nat.zero_le _
  · simp only [PyData.weight]
    exact hm
end Lw

namespace Lw
open PySem PySem.Spec PyProof.Rows L2

/-! ### a tuple beside none -/
def rNe0 : R2 := fun x y H Q => ∃ a b xs, x = .ref a ∧ y = .ref b ∧ H a = some (.tup xs) ∧ H b = some (.tup []) ∧ Q (.bl (!decide (xs.length = 0))) H
def rEq0 : R2 := fun x y H Q => ∃ a b xs, x = .ref a ∧ y = .ref b ∧ H a = some (.tup xs) ∧ H b = some (.tup []) ∧ Q (.bl (decide (xs.length = 0))) H
theorem op_ne0 {X : Cx} {k : Nat} (room : Room k X.A) : OpR X (compareOp .NotEq) rNe0 := by
  intro pins s σ H x y v u Q I rx ry h
  obtain ⟨a, b, xs, rfl, rfl, ha, hb, q⟩ := h
  cases rx
  cases ry
  obtain ⟨its, r1, p1, _⟩ := I.tuple (SqT.of ha)
  obtain ⟨its2, r2, p2, _⟩ := I.tuple (SqT.of hb)
  cases r2
  have hl := r1.length
  refine SeqAt.RcNeAt.tuples (e := fun _ => true) p1 p2 room.units0 (fun j h1 h2 => absurd h2 (Nat.not_lt_zero j)) X.prog X.w X.xe _ ?_
  have e : (!((List.range (min its.toArray.size ([] : List Value).toArray.size)).all (fun _ => true) && its.toArray.size == ([] : List Value).toArray.size)) = !decide (xs.length = 0) := by
    rw [List.size_toArray, ← hl]
    show (!(((List.range (min xs.length 0)).all fun _ => true) && (xs.length == 0))) = _
    rw [Nat.min_zero]
    show (!(true && (xs.length == 0))) = _
    rw [Bool.true_and]
    rfl
  rw [e]
  exact ⟨.bl (!decide (xs.length = 0)), H, I, rfl, q⟩
theorem op_eq0 {X : Cx} {k : Nat} (room : Room k X.A) : OpR X (compareOp .Eq) rEq0 := by
  intro pins s σ H x y v u Q I rx ry h
  obtain ⟨a, b, xs, rfl, rfl, ha, hb, q⟩ := h
  cases rx
  cases ry
  obtain ⟨its, r1, p1, _⟩ := I.tuple (SqT.of ha)
  obtain ⟨its2, r2, p2, _⟩ := I.tuple (SqT.of hb)
  cases r2
  have hl := r1.length
  refine SeqAt.RcAt.tuples (e := fun _ => true) p1 p2 room.units0 (fun j h1 h2 => absurd h2 (Nat.not_lt_zero j)) X.prog X.w X.xe _ ?_
  have e : ((List.range (min its.toArray.size ([] : List Value).toArray.size)).all (fun _ => true) && its.toArray.size == ([] : List Value).toArray.size) = decide (xs.length = 0) := by
    rw [List.size_toArray, ← hl]
    show (((List.range (min xs.length 0)).all fun _ => true) && (xs.length == 0)) = _
    rw [Nat.min_zero]
    show (true && (xs.length == 0)) = _
    rw [Bool.true_and]
    rfl
  rw [e]
  exact ⟨.bl (decide (xs.length = 0)), H, I, rfl, q⟩

/-! ### more of how large data are -/
theorem len_le_wa : ∀ ds : List PyData, ds.length ≤ PyData.weightAll ds
  | [] => Nat.zero_le _
  | d :: ds => by
    have := len_le_wa ds
    simp only [PyData.weightAll, List.length_cons]
    omega
theorem Bd.small {n : Nat} {i : Int} (h : i.natAbs < 16) : Bd n 5 (.int i) := by
  have hl : i.natAbs.log2 < 4 := PySem.Flt.log2_lt_of (by decide) h
  have b := Bd.int (n := n) (i := i) (Nat.lt_trans h (by decide +kernel))
  refine ⟨b.lf, b.sh, b.dp, ?_⟩
  simp only [PyData.weight]
  split <;> omega
theorem Bd.ofTup {n m : Nat} {ds : List PyData} (h : Bd n m (.tuple ds)) : BA n m ds ∧ ∀ x ∈ ds, Bd (n - 1) m x := by
  have h1 := h.lf
  have h2 := h.sh
  have h3 := h.dp
  have h4 := h.wt
  simp only [PyData.leavesShort] at h1
  simp only [PyData.showable] at h2
  simp only [PyData.depth] at h3
  simp only [PyData.weight] at h4
  refine ⟨⟨h1, h2, by omega, h4⟩, ?_⟩
  have all : ∀ es : List PyData, PyData.leavesShortAll 64 es = true → PyData.showableAll es = true → PyData.depthAll es + 1 ≤ n → PyData.weightAll es ≤ m → ∀ x ∈ es, Bd (n - 1) m x := by
    intro es
    induction es with
    | nil =>
      intro _ _ _ _ x hx
      cases hx
    | cons e es ih =>
      intro a b c d x hx
      simp only [PyData.leavesShortAll, Bool.and_eq_true] at a
      simp only [PyData.showableAll, Bool.and_eq_true] at b
      simp only [PyData.depthAll] at c
      simp only [PyData.weightAll] at d
      rcases List.mem_cons.mp hx with z | z
      · rw [z]
        exact ⟨a.1, b.1, by omega, by omega⟩
      · exact ih a.2 b.2 (by omega) (by omega) x z
  exact all ds h1 h2 h3 h4
theorem D.tupOf {f : Bool} {H : Hp} {v : V} {ds : List PyData} (h : D f H v (.tuple ds)) : ∃ a xs, v = .ref a ∧ H a = some (.tup xs) ∧ DA f H xs ds := by
  cases h with
  | tup e t => exact ⟨_, _, rfl, e, t⟩
theorem Tp.of {as : List Addr} {H : Hp} {v : V} {ds : List PyData} (h : D true (remL as H) v (.tuple ds)) : ∃ b, v = .ref b ∧ Tp as H b ds := by
  obtain ⟨b, xs, e, g, t⟩ := h.tupOf
  obtain ⟨n, g'⟩ := remL_some g
  exact ⟨b, e, n, xs, g', t⟩

/-! ### a list of a tuple's parts, its place not that of sys.modules -/
theorem call_listN {X : Cx} : CallR X (.type "list") (fun vs H Q => ∃ b ys, vs = [.ref b] ∧ H b = some (.tup ys) ∧ ∀ l, H l = none → l ≠ sysModules → Q (.ref l) (upd H l (.lst ys))) := by
  intro pins s σ H vs us Q I rv ⟨b, ys, e, hb, q⟩
  subst e
  obtain ⟨u, rfl, ru⟩ := vals1 rv
  cases ru
  obtain ⟨its, rr, pl, hz⟩ := I.tuple (SqT.of hb)
  have hlen := rr.length
  obtain ⟨o, ho, hc, n, hd⟩ := pl
  have far : s.heap.objs.size ≠ sysModules := by
    have h1 : mainGlobals < X.base.objs.size := I.ok.mod.glob.lt
    have h2 := Nat.le_trans I.ok.bsz I.sz
    exact Nat.ne_of_gt (Nat.lt_of_lt_of_le (Nat.lt_trans (by decide) h1) h2)
  refine call_list_seq b (.inr rfl) ho hc hd (fun h' c kp e => ?_) (by rw [List.size_toArray]; omega)
  have new := q _ (I.hok.fresh (Nat.le_refl _)) far
  exact ⟨.ref s.heap.objs.size, _, I.laid (o := .lst ys) (t' := s.toks) kp (Nat.le_refl _) ⟨hz, its, c, rr, e⟩, rfl, new⟩

/-! ### places that were free -/
theorem Kp.free {a p : Addr} {H H' : Hp} {o : HO} (k : Kp a H H') (h : H p = none) : Kp a H (L2.upd H' p o) := fun b u n e => by
  have nb : b ≠ p := fun z => by
    rw [z, h] at e
    cases e
  rw [upd_ne nb]
  exact k b u n e
theorem Kp.none {a p : Addr} {n : Nat} {H H' : Hp} (k : Kp a H H') (g : Hd H' a n) (h : H' p = Option.none) : H p = Option.none := by
  have np : p ≠ a := fun z => by
    obtain ⟨_, _, _, e, _⟩ := g
    rw [z, e] at h
    cases h
  cases e : H p with
  | none => rfl
  | some o =>
    rw [k p o np e] at h
    cases h
theorem Tp.cut {as : List Addr} {H H' : Hp} {b p : Addr} {xs : List V} {ds : List PyData} {lo hi : Option Int} (nb : b ∉ as) (da : DA true (remL as H) xs ds) (tr : Trk as H) (s : Same H H') (e : H' p = some (.tup (cutV xs lo hi))) (o : p = b ∨ H p = Option.none) : Tp as H' p (cutD ds lo hi) := by
  refine ⟨?_, _, e, (da.cut lo hi).same (same_remL s)⟩
  rcases o with rfl | o
  · exact nb
  · exact tr.new o
theorem Tp.cat {as : List Addr} {H H' : Hp} {b c p : Addr} {xs ys : List V} {ds es : List PyData} (nb : b ∉ as) (nc : c ∉ as) (da : DA true (remL as H) xs ds) (db : DA true (remL as H) ys es) (tr : Trk as H) (s : Same H H') (e : H' p = some (.tup (xs ++ ys))) (o : p = b ∨ p = c ∨ H p = Option.none) : Tp as H' p (ds ++ es) := by
  refine ⟨?_, _, e, (da.append db).same (same_remL s)⟩
  rcases o with rfl | rfl | o
  · exact nb
  · exact nc
  · exact tr.new o
theorem remL_less {a : Addr} {as : List Addr} {H : Hp} : Same (remL (a :: as) H) (remL as H) := fun b o e => by
  obtain ⟨n, g⟩ := remL_some e
  rw [remL_ne (fun z => n (List.mem_cons_of_mem _ z))]
  exact g
/-- some rest of a goal, known later -/
theorem later {a b : TS} {k : Ends} {σ : L2.St} {H : Hp} {P : Hp → Prop} (h2 : ∀ H, P H → b k σ H) (h1 : (∀ H, P H → b k σ H) → tSeq a b k σ H) : tSeq a b k σ H := h1 h2
theorem Hd.at {H : Hp} {a p : Addr} {n : Nat} {o : HO} (h : Hd H a n) (np : p ≠ a) : Hd (upd H p o) a n := by
  obtain ⟨g, m, c, e, r⟩ := h
  exact ⟨g, m, c, by rw [upd_ne np.symm]; exact e, r⟩
theorem Hd.new {H : Hp} {a p : Addr} {n : Nat} (h : Hd H a n) (e : H p = Option.none) : p ≠ a := fun z => by
  obtain ⟨_, _, _, g, _⟩ := h
  rw [z, g] at e
  cases e
theorem Trk.at {as : List Addr} {H : Hp} {p : Addr} {o : HO} (t : Trk as H) : Trk as (upd H p o) := fun b hb z => by
  by_cases e : b = p
  · rw [e, upd_same] at z
    cases z
  · rw [upd_ne e] at z
    exact t b hb z
theorem Trk.cons {as : List Addr} {H : Hp} {p : Addr} (t : Trk as H) (h : H p ≠ Option.none) : Trk (p :: as) H := fun b hb => by
  rcases List.mem_cons.mp hb with e | e
  · rw [e]
    exact h
  · exact t b e
theorem remL_in {as : List Addr} {H : Hp} {p : Addr} {o : HO} (h : p ∈ as) : Same (remL as H) (remL as (upd H p o)) := fun b u e => by
  obtain ⟨n, g⟩ := remL_some e
  have nb : b ≠ p := fun z => n (z ▸ h)
  rw [remL_ne n, upd_ne nb]
  exact g
theorem da_of {H : Hp} {p : PyData → Prop} : ∀ {vs : List V}, (∀ v ∈ vs, ∃ d, D true H v d ∧ p d) → ∃ ds, DA true H vs ds ∧ ∀ d ∈ ds, p d
  | [], _ => ⟨[], .nil, fun d hd => by cases hd⟩
  | v :: vs, h => by
    obtain ⟨d, h1, h2⟩ := h v List.mem_cons_self
    obtain ⟨ds, h3, h4⟩ := da_of (vs := vs) fun u hu => h u (List.mem_cons_of_mem _ hu)
    refine ⟨d :: ds, .cons h1 h3, fun e he => ?_⟩
    rcases List.mem_cons.mp he with z | z
    · rw [z]
      exact h2
    · exact h4 e z
/-- none, or a small number -/
def Spot (v : V) : Prop := v = .non ∨ ∃ k : Nat, v = .int k ∧ k < 16
theorem Spot.d {H : Hp} {v : V} (h : Spot v) : ∃ d, D true H v d ∧ Bd 1 5 d := by
  rcases h with e | ⟨k, e, hk⟩
  · subst e
    exact ⟨.none, .non, Bd.flat0 (.inl rfl) (by decide) (by decide)⟩
  · subst e
    exact ⟨.int k, .int _, Bd.small (by omega)⟩
end Lw

namespace Lw
open PySem PySem.Spec PyProof.Rows L2

/-! ### one tuple of ints above another -/
theorem toks_lex : ∀ ms ns : List Int, PyProof.Rows.lexLt itemOrd (PySem.W.keyToksAll (ms.map PyData.int)) (PySem.W.keyToksAll (ns.map PyData.int)) = lex ms ns
  | [], [] => by decide
  | [], n :: ns => by
    simp only [List.map_nil, List.map_cons, PySem.W.keyToksAll]
    exact lex_diff (O := itemOrd) (by decide)
  | m :: ms, [] => by
    simp only [List.map_nil, List.map_cons, PySem.W.keyToksAll]
    exact lex_diff (O := itemOrd) (by decide)
  | m :: ms, n :: ns => by
    have ih := toks_lex ms ns
    simp only [List.map_cons, PySem.W.keyToksAll, PySem.W.keyToks, List.singleton_append]
    rw [PyProof.Rows.lex_self (O := itemOrd), lex_cons]
    by_cases e : m = n
    · subst e
      rw [PyProof.Rows.lex_self (O := itemOrd), if_pos rfl]
      exact ih
    · rw [PyProof.Rows.lex_diff (O := itemOrd) (by intro z; exact e (Sum.inl.inj z)), if_neg e]
      rfl
theorem alike_ints : ∀ ms ns : List Int, PySem.W.alikeAll (ms.map PyData.int) (ns.map PyData.int) = true
  | [], ns => by cases ns <;> simp only [List.map_nil, List.map_cons, PySem.W.alikeAll]
  | m :: ms, [] => by simp only [List.map_nil, List.map_cons, PySem.W.alikeAll]
  | m :: ms, n :: ns => by simp only [List.map_cons, PySem.W.alikeAll, PySem.W.alike, alike_ints ms ns, Bool.and_self]
theorem da_ints {f : Bool} {H : Hp} : ∀ ns : List Int, DA f H (ns.map V.int) (ns.map PyData.int)
  | [] => .nil
  | n :: ns => .cons (.int n) (da_ints ns)
theorem depth_ints : ∀ ns : List Int, PyData.depthAll (ns.map PyData.int) = 0
  | [] => by simp [PyData.depthAll]
  | n :: ns => by simp [PyData.depthAll, PyData.depth, depth_ints ns]
def rGtT : R2 := fun x y H Q => ∃ a b ns ms, x = .ref a ∧ y = .ref b ∧ H a = some (.tup (List.map V.int ns)) ∧ H b = some (.tup (List.map V.int ms)) ∧ Q (.bl (lex ms ns)) H
theorem op_gtT {X : Cx} {k : Nat} (room : Room k X.A) : OpR X (compareOp .Gt) rGtT := by
  intro pins s σ H x y v u Q I rx ry h
  obtain ⟨a, b, ns, ms, rfl, rfl, ha, hb, q⟩ := h
  obtain ⟨as, r1, _⟩ := D.reads (f := false) I (.tup ha (da_ints ns)) v rx
  obtain ⟨bs, r2, _⟩ := D.reads (f := false) I (.tup hb (da_ints ms)) u ry
  refine PySem.W.gt_data r1 r2 (by simp only [PySem.W.alike]; exact alike_ints ns ms) (by intro z; cases z) ?_ ?_
  · simp only [PyData.depth, depth_ints]
    have := room.units
    omega
  · have e : PySem.W.dataLt (.tuple (ms.map PyData.int)) (.tuple (ns.map PyData.int)) = lex ms ns := by
      simp only [PySem.W.dataLt, PySem.W.keyToks]
      exact toks_lex ms ns
    rw [e]
    exact ⟨.bl (lex ms ns), H, I, rfl, q⟩

/-! ### a tuple of ints taken out of a list -/
theorem plain_ints : ∀ ns : List Int, PyData.plainAll (ns.map PyData.int) = true
  | [] => by simp only [List.map_nil, PyData.plainAll]
  | n :: ns => by simp only [List.map_cons, PyData.plainAll, PyData.plain, plain_ints ns, Bool.and_self]
def rRemT : V → List V → Hp → VK → Prop := fun x vs H Q => ∃ (l : Addr) (xs : List V) (kk : List (List Int)) (b : Addr) (ns : List Int) (j : Nat), x = .ref l ∧ vs = [.ref b] ∧ H l = some (.lst xs) ∧
  DA false H xs (kk.map fun m => .tuple (m.map PyData.int)) ∧ H b = some (.tup (ns.map V.int)) ∧ kk[j]? = some ns ∧ (∀ m, m < j → kk[m]? ≠ some ns) ∧ Q .non (upd H l (.lst (xs.eraseIdx j)))
theorem eqv_ints : ∀ ms ns : List Int, PyData.eqvAll (ms.map PyData.int) (ns.map PyData.int) = decide (ms = ns)
  | [], [] => by simp [PyData.eqvAll]
  | [], n :: ns => by simp [PyData.eqvAll]
  | m :: ms, [] => by simp [PyData.eqvAll]
  | m :: ms, n :: ns => by
    have ih := eqv_ints ms ns
    simp only [List.map_cons, PyData.eqvAll, ih]
    have e : PyData.eqv (.int m) (.int n) = (m == n) := by first | rfl | (simp only [PyData.eqv]; done) | (simp [PyData.eqv]; done)
    rw [e]
    by_cases h1 : m = n
    · subst h1
      simp
    · have : (m == n) = false := by simpa using h1
      rw [this, Bool.false_and]
      exact (decide_eq_false (fun z => h1 (List.cons.inj z).1)).symm
theorem eqv_tup (ms ns : List Int) : PyData.eqv (.tuple (ms.map PyData.int)) (.tuple (ns.map PyData.int)) = decide (ms = ns) := by
  have e : PyData.eqv (.tuple (ms.map PyData.int)) (.tuple (ns.map PyData.int)) = PyData.eqvAll (ms.map PyData.int) (ns.map PyData.int) := by simp [PyData.eqv]
  rw [e]
  exact eqv_ints ms ns
theorem plain_rows : ∀ kk : List (List Int), PyData.plainAll (kk.map fun m => PyData.tuple (m.map PyData.int)) = true
  | [] => by simp only [List.map_nil, PyData.plainAll]
  | m :: kk => by simp only [List.map_cons, PyData.plainAll, PyData.plain, plain_ints m, plain_rows kk, Bool.and_self]
theorem mt_remT {X : Cx} {k : Nat} (room : Room k X.A) : MtM X "list.remove" rRemT := by
  intro pins s σ H x vs v us Q I rx rv h
  obtain ⟨l, xs, kk, b, ns, j, rfl, rfl, hl, da, hb, hj, hno, q⟩ := h
  cases rx
  obtain ⟨u, rfl, ru⟩ := rv.one
  obtain ⟨z, its, n, r, hlen, e⟩ := I.lstM hl
  obtain ⟨as, r1, _⟩ := DA.reads I da its r
  obtain ⟨bs, r2, _⟩ := D.reads (f := false) I (.tup hb (da_ints ns)) u ru
  refine PySem.SeqAt.remove_list_data (vs := its.toArray) (j := j) ⟨_, e, rfl, n, rfl⟩ r1 r2 (plain_rows kk) (by simp only [PyData.plain]; exact plain_ints ns) ?_ ?_ (by rw [List.size_toArray]; omega) ?_
  · simp only [PyData.depth, depth_ints]
    have := room.units
    omega
  · refine List.findIdx?_eq_some_iff_getElem.mpr ?_
    obtain ⟨h1, h2⟩ := List.getElem?_eq_some_iff.mp hj
    refine ⟨by rw [List.length_map]; exact h1, ?_, fun m hm => ?_⟩
    · rw [List.getElem_map, eqv_tup, h2]
      exact decide_eq_true rfl
    · rw [List.getElem_map, eqv_tup]
      have := hno m hm
      rw [List.getElem?_eq_getElem (by omega)] at this
      have h3 : ¬ kk[m] = ns := fun z => this (by rw [z])
      rw [decide_eq_false h3]
      exact Bool.false_ne_true
  · refine ⟨.non, _, I.lset (its' := its.eraseIdx j) (t' := s.toks) hl e ?_ (r.eraseIdx j) ?_, rfl, q⟩
    · show its.toArray.eraseIdxIfInBounds j = (its.eraseIdx j).toArray
      rw [List.eraseIdxIfInBounds_toArray]
    · have := List.length_eraseIdx_le xs j
      omega
theorem units1 {X : Cx} {k : Nat} (room : Room k X.A) : X.A.units + 1 < cLine := by
  have := room.units
  omega
theorem atI0 {x : V} {xs : List V} : atI (x :: xs) 0 = some x := atI_nat (j := 0) rfl
theorem FnOk.never {P : Program} {w : World} {K : PySem.W.Frag} {mg : Str → Option Value} {base : Heap} {k : Nat} {f : Addr} {fd : FuncData} {ps : List Str} : FnOk P w K mg base CX0 k f fd ps (fun _ _ _ _ => False) :=
  ⟨fun _ _ _ _ h => h.elim, fun _ _ _ _ _ _ _ _ _ _ _ _ _ h => h.elim⟩
theorem later2 {a b : TS} {k : Ends} {σ : L2.St} {H : Hp} {P : L2.St → Hp → Prop} (h2 : ∀ σ H, P σ H → b k σ H) (h1 : (∀ σ H, P σ H → b k σ H) → tSeq a b k σ H) : tSeq a b k σ H := h1 h2
theorem gName_set {i : Nat} {v : V} {σ : L2.St} {H : Hp} {k : L2.St → Hp → Prop} (h : k (σ.set i (some v)) H) : gName i v σ H k := h
theorem hd_tup {H : Hp} {a p : Addr} {n : Nat} {o : HO} (h : Hd H a n) (e : H p = some o) (ho : ∀ xs, o ≠ .lst xs) : p ≠ a := fun z => by
  obtain ⟨_, _, _, g, _⟩ := h
  rw [z, g] at e
  cases e
  exact ho _ rfl
end Lw

namespace Lw
open PySem PySem.Spec PyProof.Rows L2

/-! ### the k-th of keys: which keys it can be -/
theorem split3 (ns : List Int) : ∀ ks : List (List Int), (ks.filter fun x => lex ns x).length + (ks.filter fun x => lex x ns).length + (ks.filter fun x => decide (x = ns)).length = ks.length
  | [] => rfl
  | m :: ks => by
    have ih := split3 ns ks
    by_cases e : m = ns
    · subst e
      rw [List.filter_cons_of_neg (by rw [lex_irr]; exact Bool.false_ne_true), List.filter_cons_of_neg (by rw [lex_irr]; exact Bool.false_ne_true), List.filter_cons_of_pos (by exact decide_eq_true rfl), List.length_cons, List.length_cons]
      omega
    · have e3 : ¬ decide (m = ns) = true := by simpa using e
      rw [List.filter_cons_of_neg (p := fun x => decide (x = ns)) e3]
      cases h1 : lex ns m with
      | true =>
        have h2 := lex_asym _ _ h1
        rw [List.filter_cons_of_pos (p := fun x => lex ns x) h1, List.filter_cons_of_neg (p := fun x => lex x ns) (by rw [h2]; exact Bool.false_ne_true), List.length_cons, List.length_cons]
        omega
      | false =>
        cases h2 : lex m ns with
        | true =>
          rw [List.filter_cons_of_neg (p := fun x => lex ns x) (by rw [h1]; exact Bool.false_ne_true), List.filter_cons_of_pos (p := fun x => lex x ns) h2, List.length_cons, List.length_cons]
          omega
        | false => exact absurd (lex_eq _ _ h2 h1) e
theorem kth_mem {ks : List (List Int)} {k : Nat} {ns : List Int} (h : IsKth id ks k ns) : ns ∈ ks := by
  have s := split3 ns ks
  have up := h.up
  have dn := h.dn
  simp only [above, below, id] at up dn
  have pos : 0 < (ks.filter fun x => decide (x = ns)).length := by omega
  obtain ⟨x, hx⟩ := List.exists_mem_of_length_pos pos
  obtain ⟨h1, h2⟩ := List.mem_filter.mp hx
  have e : x = ns := of_decide_eq_true h2
  exact e ▸ h1
theorem top_iff {ks : List (List Int)} {ns : List Int} : IsKth id ks 1 ns ↔ ns ∈ ks ∧ ∀ m ∈ ks, lex ns m = false := by
  constructor
  · intro h
    refine ⟨kth_mem h, fun m hm => ?_⟩
    have up := h.up
    simp only [above, id] at up
    have z : (ks.filter fun x => lex ns x) = [] := List.eq_nil_of_length_eq_zero (by omega)
    have := List.filter_eq_nil_iff.mp z m hm
    simpa using this
  · rintro ⟨h1, h2⟩
    have s := split3 ns ks
    have z : ks.filter (fun x => lex ns x) = [] := filter_false h2
    have pos : 0 < (ks.filter fun x => decide (x = ns)).length := List.length_pos_of_mem (List.mem_filter.mpr ⟨h1, decide_eq_true rfl⟩)
    refine ⟨?_, ?_⟩
    · simp only [above, id]
      rw [z]
      exact Nat.zero_lt_one
    · simp only [below, id]
      omega
theorem low_iff {ks : List (List Int)} {ns : List Int} : IsKth id ks ks.length ns ↔ ns ∈ ks ∧ ∀ m ∈ ks, lex m ns = false := by
  constructor
  · intro h
    refine ⟨kth_mem h, fun m hm => ?_⟩
    have dn := h.dn
    simp only [below, id] at dn
    have z : (ks.filter fun x => lex x ns) = [] := List.eq_nil_of_length_eq_zero (by omega)
    have := List.filter_eq_nil_iff.mp z m hm
    simpa using this
  · rintro ⟨h1, h2⟩
    have s := split3 ns ks
    have z : ks.filter (fun x => lex x ns) = [] := filter_false h2
    have pos : 0 < (ks.filter fun x => decide (x = ns)).length := List.length_pos_of_mem (List.mem_filter.mpr ⟨h1, decide_eq_true rfl⟩)
    refine ⟨?_, ?_⟩
    · simp only [above, id]
      omega
    · simp only [below, id]
      rw [z]
      show 0 + ks.length ≤ ks.length
      omega
theorem lex_nil (m : List Int) : lex m [] = false := by cases m <;> rfl
theorem kth_perm {ks ms : List (List Int)} {k : Nat} {ns : List Int} (h : IsKth id ks k ns) (p : ks.Perm ms) : IsKth id ms k ns := by
  have e1 : above id ms ns = above id ks ns := (p.filter _).length_eq.symm
  have e2 : below id ms ns = below id ks ns := (p.filter _).length_eq.symm
  exact ⟨by rw [e1]; exact h.up, by rw [e2, ← p.length_eq]; exact h.dn⟩
/-- with none put in, the k-th is the same -/
theorem kth_add_none {ks : List (List Int)} {k : Nat} {ns : List Int} (h : IsKth id ks k ns) : IsKth id (ks ++ [[]]) k ns := by
  have up := h.up
  have dn := h.dn
  simp only [above, below, id] at up dn
  have f : ([([] : List Int)].filter fun x => lex x ns).length ≤ 1 := List.length_filter_le _ _
  refine ⟨?_, ?_⟩
  · simp only [above, id, List.filter_append, List.length_append]
    rw [List.filter_cons_of_neg (by rw [lex_nil]; exact Bool.false_ne_true)]
    exact up
  · simp only [below, id, List.filter_append, List.length_append, List.length_singleton]
    omega
theorem low_none (ks : List (List Int)) : IsKth id (ks ++ [[]]) (ks.length + 1) [] := by
  have e : (ks ++ [([] : List Int)]).length = ks.length + 1 := by rw [List.length_append, List.length_singleton]
  rw [← e]
  exact low_iff.mpr ⟨List.mem_append_right _ (List.mem_singleton_self _), fun m _ => lex_nil m⟩
/-- the greatest of greatests -/
theorem top_top {ks : List (List Int)} {t o r : List Int} (h : IsKth id ks 1 t) (g : IsKth id [t, o] 1 r) : IsKth id (ks ++ [o]) 1 r := by
  obtain ⟨h1, h2⟩ := top_iff.mp h
  obtain ⟨g1, g2⟩ := top_iff.mp g
  refine top_iff.mpr ⟨?_, fun m hm => ?_⟩
  · rcases List.mem_cons.mp g1 with e | e
    · rw [e]
      exact List.mem_append_left _ h1
    · exact List.mem_append_right _ e
  · rcases List.mem_append.mp hm with y | y
    · exact lex_tr _ _ _ (h2 m y) (g2 t List.mem_cons_self)
    · exact g2 m (List.mem_cons_of_mem _ y)
/-- the least of leasts -/
theorem low_low {ks : List (List Int)} {t o r : List Int} (h : IsKth id ks ks.length t) (g : IsKth id [o, t] 2 r) : IsKth id (ks ++ [o]) (ks ++ [o]).length r := by
  obtain ⟨h1, h2⟩ := low_iff.mp h
  obtain ⟨g1, g2⟩ := (low_iff (ks := [o, t])).mp g
  refine low_iff.mpr ⟨?_, fun m hm => ?_⟩
  · rcases List.mem_cons.mp g1 with e | e
    · rw [e]
      exact List.mem_append_right _ (List.mem_singleton_self _)
    · rw [List.mem_singleton.mp e]
      exact List.mem_append_left _ h1
  · rcases List.mem_append.mp hm with y | y
    · exact lex_tr _ _ _ (g2 t (List.mem_cons_of_mem _ List.mem_cons_self)) (h2 m y)
    · rw [List.mem_singleton.mp y]
      exact g2 o List.mem_cons_self
/-! ### two of them -/
theorem low2 {x y r : List Int} (h : IsKth id [x, y] 2 r) : (r = x ∨ r = y) ∧ lex x r = false ∧ lex y r = false := by
  obtain ⟨h1, h2⟩ := (low_iff (ks := [x, y])).mp h
  refine ⟨?_, h2 x List.mem_cons_self, h2 y (List.mem_cons_of_mem _ List.mem_cons_self)⟩
  rcases List.mem_cons.mp h1 with e | e
  · exact .inl e
  · exact .inr (List.mem_singleton.mp e)
theorem top2 {x y r : List Int} (h : IsKth id [x, y] 1 r) : (r = x ∨ r = y) ∧ lex r x = false ∧ lex r y = false := by
  obtain ⟨h1, h2⟩ := top_iff.mp h
  refine ⟨?_, h2 x List.mem_cons_self, h2 y (List.mem_cons_of_mem _ List.mem_cons_self)⟩
  rcases List.mem_cons.mp h1 with e | e
  · exact .inl e
  · exact .inr (List.mem_singleton.mp e)
/-- the greatest with a part of its own least is that part -/
theorem absorb_top {o t l r : List Int} (h : IsKth id [o, t] 2 l) (g : IsKth id [o, l] 1 r) : r = o := by
  obtain ⟨_, h2, _⟩ := low2 h
  obtain ⟨g1, g2, _⟩ := top2 g
  rcases g1 with e | e
  · exact e
  · rw [e] at g2 ⊢
    exact lex_eq _ _ g2 h2
/-- the least with a part of its own greatest is that part -/
theorem absorb_low {o t g r : List Int} (h : IsKth id [t, o] 1 g) (k : IsKth id [g, o] 2 r) : r = o := by
  obtain ⟨_, _, h3⟩ := top2 h
  obtain ⟨k1, _, k3⟩ := low2 k
  rcases k1 with e | e
  · rw [e] at k3 ⊢
    exact lex_eq _ _ h3 k3
  · exact e
/-- least goes over greatest -/
theorem least_over {ks ls : List (List Int)} {o t r : List Int} (h : IsKth id ks 1 t) (g : IsKth id [o, t] 2 r) (hl : ls.length = ks.length) (hi : ∀ (i : Nat) (m l : List Int), ks[i]? = some m → ls[i]? = some l → IsKth id [m, o] 2 l) : IsKth id ls 1 r := by
  obtain ⟨h1, h2⟩ := top_iff.mp h
  obtain ⟨g1, g2, g3⟩ := low2 g
  refine top_iff.mpr ⟨?_, fun l hm => ?_⟩
  · obtain ⟨i, hi1⟩ := List.getElem?_of_mem h1
    have lt := (List.getElem?_eq_some_iff.mp hi1).1
    have e := List.getElem?_eq_getElem (l := ls) (i := i) (by omega)
    obtain ⟨a1, a2, a3⟩ := low2 (hi i _ _ hi1 e)
    have er : ls[i] = r := by
      have x : lex ls[i] r = false := by
        rcases a1 with z | z
        · rw [z]; exact g3
        · rw [z]; exact g2
      have y : lex r ls[i] = false := by
        rcases g1 with z | z
        · rw [z]; exact a3
        · rw [z]; exact a2
      exact lex_eq _ _ x y
    rw [← er]
    exact List.getElem_mem _
  · obtain ⟨i, hi1⟩ := List.getElem?_of_mem hm
    have lt := (List.getElem?_eq_some_iff.mp hi1).1
    have e := List.getElem?_eq_getElem (l := ks) (i := i) (by omega)
    obtain ⟨a1, a2, a3⟩ := low2 (hi i _ _ e hi1)
    have mt := h2 _ (List.getElem_mem (l := ks) (n := i) (by omega))
    rcases g1 with z | z
    · rw [z]; exact a3
    · rw [z]; exact lex_tr _ _ _ a2 mt
/-- greatest goes over least -/
theorem top_over {ks ls : List (List Int)} {o t r : List Int} (h : IsKth id ks ks.length t) (g : IsKth id [o, t] 1 r) (hl : ls.length = ks.length) (hi : ∀ (i : Nat) (m l : List Int), ks[i]? = some m → ls[i]? = some l → IsKth id [o, m] 1 l) : IsKth id ls ls.length r := by
  obtain ⟨h1, h2⟩ := low_iff.mp h
  obtain ⟨g1, g2, g3⟩ := top2 g
  refine low_iff.mpr ⟨?_, fun l hm => ?_⟩
  · obtain ⟨i, hi1⟩ := List.getElem?_of_mem h1
    have lt := (List.getElem?_eq_some_iff.mp hi1).1
    have e := List.getElem?_eq_getElem (l := ls) (i := i) (by omega)
    obtain ⟨a1, a2, a3⟩ := top2 (hi i _ _ hi1 e)
    have er : ls[i] = r := by
      have x : lex ls[i] r = false := by
        rcases g1 with z | z
        · rw [z]; exact a2
        · rw [z]; exact a3
      have y : lex r ls[i] = false := by
        rcases a1 with z | z
        · rw [z]; exact g2
        · rw [z]; exact g3
      exact lex_eq _ _ x y
    rw [← er]
    exact List.getElem_mem _
  · obtain ⟨i, hi1⟩ := List.getElem?_of_mem hm
    have lt := (List.getElem?_eq_some_iff.mp hi1).1
    have e := List.getElem?_eq_getElem (l := ks) (i := i) (by omega)
    obtain ⟨a1, a2, a3⟩ := top2 (hi i _ _ e hi1)
    have mt := h2 _ (List.getElem_mem (l := ks) (n := i) (by omega))
    rcases g1 with z | z
    · rw [z]; exact a2
    · rw [z]; exact lex_tr _ _ _ mt a3
/-! ### the greatest of the leasts of all lots of k -/
theorem sub_filter {p : List Int → Bool} {A B : List (List Int)} (h : A.Sublist B) : (A.filter p).length ≤ (B.filter p).length := (h.filter p).length_le
/-- a lot of k has one that does not stand above the k-th -/
theorem lot_one {ks L : List (List Int)} {k : Nat} {ns : List Int} (h : IsKth id ks k ns) (hs : L.Sublist ks) (hk : L.length = k) : ∃ m ∈ L, lex ns m = false := by
  have up := h.up
  simp only [above, id] at up
  have u2 := sub_filter (p := fun x => lex ns x) hs
  by_cases c : ∃ m ∈ L, lex ns m = false
  · exact c
  · have all : L.filter (fun x => lex ns x) = L := List.filter_eq_self.mpr fun m hm => by
      cases e : lex ns m with
      | true => rfl
      | false => exact absurd ⟨m, hm, e⟩ c
    rw [all] at u2
    omega
theorem kth_lots {ks ls : List (List Int)} {lots : List (List (List Int))} {k : Nat} {ns : List Int} (h : IsKth id ks k ns) (hall : ∀ L, L.Sublist ks → L.length = k → L ∈ lots) (hsub : ∀ L ∈ lots, L.Sublist ks ∧ L.length = k)
    (hl : ls.length = lots.length) (hi : ∀ (i : Nat) (L : List (List Int)) (l : List Int), lots[i]? = some L → ls[i]? = some l → IsKth id L L.length l) : IsKth id ls 1 ns := by
  have dn := h.dn
  simp only [below, id] at dn
  refine top_iff.mpr ⟨?_, fun l hm => ?_⟩
  · have hf := filter_split (p := fun x => lex x ns) ks
    let F := ks.filter fun x => !lex x ns
    have lF : k ≤ F.length := by
      show k ≤ (ks.filter fun x => !lex x ns).length
      omega
    have sF : (F.take k).Sublist ks := (List.take_sublist k F).trans List.filter_sublist
    have kF : (F.take k).length = k := by
      rw [List.length_take]
      omega
    obtain ⟨i, hi1⟩ := List.getElem?_of_mem (hall _ sF kF)
    have lt := (List.getElem?_eq_some_iff.mp hi1).1
    have e := List.getElem?_eq_getElem (l := ls) (i := i) (by omega)
    obtain ⟨b1, b2⟩ := low_iff.mp (hi i _ _ hi1 e)
    obtain ⟨m, hm, hmn⟩ := lot_one h sF kF
    have ge : ∀ x ∈ F.take k, lex x ns = false := fun x hx => by
      have := (List.mem_filter.mp (List.mem_of_mem_take hx)).2
      simpa using this
    have em : m = ns := lex_eq _ _ (ge m hm) hmn
    have er : ls[i] = ns := by
      refine lex_eq _ _ (ge _ b1) ?_
      rw [← em]
      exact b2 m hm
    rw [← er]
    exact List.getElem_mem _
  · obtain ⟨i, hi1⟩ := List.getElem?_of_mem hm
    have lt := (List.getElem?_eq_some_iff.mp hi1).1
    have e := List.getElem?_eq_getElem (l := lots) (i := i) (by omega)
    obtain ⟨s1, s2⟩ := hsub _ (List.getElem_mem (l := lots) (n := i) (by omega))
    obtain ⟨_, b2⟩ := low_iff.mp (hi i _ _ e hi1)
    obtain ⟨m, hm2, hmn⟩ := lot_one h s1 s2
    exact lex_tr _ _ _ (b2 m hm2) hmn
end Lw

namespace Lw
open PySem PySem.Spec PyProof.Rows L2

/-! ### a list beside an empty one -/
def rNeL0 : R2 := fun x y H Q => ∃ a b xs, x = .ref a ∧ y = .ref b ∧ H a = some (.lst xs) ∧ H b = some (.lst []) ∧ Q (.bl (!decide (xs.length = 0))) H
theorem op_neL0 {X : Cx} {k : Nat} (room : Room k X.A) : OpR X (compareOp .NotEq) rNeL0 := by
  intro pins s σ H x y v u Q I rx ry h
  obtain ⟨a, b, xs, rfl, rfl, ha, hb, q⟩ := h
  cases rx
  cases ry
  obtain ⟨its, r1, p1, _⟩ := I.list (SqL.of ha)
  obtain ⟨its2, r2, p2, _⟩ := I.list (SqL.of hb)
  cases r2
  have hl := r1.length
  by_cases e0 : xs.length = 0
  · have e1 : its.toArray.size = ([] : List Value).toArray.size := by
      rw [List.size_toArray, ← hl, e0]
      rfl
    refine SeqAt.RcNeAt.lists (e := fun _ => true) p1.isList p2.isList e1 room.units0 (fun j h1 h2 => absurd h2 (Nat.not_lt_zero j)) X.prog X.w X.xe _ ?_
    rw [decide_eq_true e0] at q
    have e : (!(List.range its.toArray.size).all (fun _ => true)) = !true := by simp
    rw [e]
    exact ⟨.bl (!true), H, I, rfl, q⟩
  · refine SeqAt.RcNeAt.lists_lengths p1.isList p2.isList ?_ room.units0 X.prog X.w X.xe _ ?_
    · rw [List.size_toArray, ← hl]
      show (xs.length != 0) = true
      simpa using e0
    · rw [decide_eq_false e0] at q
      exact ⟨.bl (!false), H, I, rfl, q⟩

/-! ### all lots of a row, as they are made -/
def lotsF {α : Type} : List (List α) → List α → List (List α)
  | acc, [] => acc
  | acc, x :: xs => lotsF (acc ++ acc.map (· ++ [x])) xs
theorem lots_map {α β : Type} (f : α → β) : ∀ (xs : List α) (acc : List (List α)), (lotsF acc xs).map (List.map f) = lotsF (acc.map (List.map f)) (xs.map f)
  | [], acc => rfl
  | x :: xs, acc => by
    show (lotsF (acc ++ acc.map (· ++ [x])) xs).map (List.map f) = lotsF (acc.map (List.map f) ++ (acc.map (List.map f)).map (· ++ [f x])) (xs.map f)
    rw [lots_map f xs]
    congr 1
    rw [List.map_append, List.map_map, List.map_map]
    congr 1
    refine List.map_congr_left fun L _ => ?_
    show (L ++ [x]).map f = L.map f ++ [f x]
    rw [List.map_append]
    rfl
theorem lots_length {α : Type} : ∀ (xs : List α) (acc : List (List α)), (lotsF acc xs).length = acc.length * 2 ^ xs.length
  | [], acc => by
    show acc.length = acc.length * 1
    omega
  | x :: xs, acc => by
    show (lotsF (acc ++ acc.map (· ++ [x])) xs).length = acc.length * 2 ^ (xs.length + 1)
    rw [lots_length xs, List.length_append, List.length_map, Nat.pow_succ]
    rw [← Nat.two_mul, Nat.mul_comm 2 acc.length, Nat.mul_assoc, Nat.mul_comm 2]
theorem lots_mem {α : Type} : ∀ (xs : List α) (acc : List (List α)) (L : List α), L ∈ lotsF acc xs ↔ ∃ A B, A ∈ acc ∧ B.Sublist xs ∧ L = A ++ B
  | [], acc, L => by
    constructor
    · intro h
      exact ⟨L, [], h, List.Sublist.slnil, (List.append_nil L).symm⟩
    · rintro ⟨A, B, h, s, e⟩
      have : B = [] := List.eq_nil_of_sublist_nil s
      rw [e, this, List.append_nil]
      exact h
  | x :: xs, acc, L => by
    show L ∈ lotsF (acc ++ acc.map (· ++ [x])) xs ↔ _
    rw [lots_mem xs]
    constructor
    · rintro ⟨A, B, h, s, e⟩
      rcases List.mem_append.mp h with y | y
      · exact ⟨A, B, y, s.cons x, e⟩
      · obtain ⟨A', h', eA⟩ := List.mem_map.mp y
        refine ⟨A', x :: B, h', s.cons_cons x, ?_⟩
        rw [e, ← eA, List.append_assoc]
        rfl
    · rintro ⟨A, B, h, s, e⟩
      cases s with
      | cons _ s' => exact ⟨A, B, List.mem_append_left _ h, s', e⟩
      | cons_cons _ s' =>
        rename_i B'
        refine ⟨A ++ [x], B', List.mem_append_right _ (List.mem_map.mpr ⟨A, h, rfl⟩), s', ?_⟩
        rw [e, List.append_assoc]
        rfl
/-- the lots of just so many -/
def lotsN {α : Type} (xs : List α) (k : Nat) : List (List α) := (lotsF [[]] xs).filter fun L => decide (L.length = k)
theorem lotsN_mem {α : Type} {xs : List α} {k : Nat} {L : List α} : L ∈ lotsN xs k ↔ L.Sublist xs ∧ L.length = k := by
  unfold lotsN
  rw [List.mem_filter, lots_mem, decide_eq_true_eq]
  constructor
  · rintro ⟨⟨A, B, h, s, e⟩, l⟩
    rw [List.mem_singleton.mp h, List.nil_append] at e
    exact ⟨e ▸ s, l⟩
  · rintro ⟨s, l⟩
    exact ⟨⟨[], L, List.mem_singleton_self _, s, rfl⟩, l⟩
theorem lotsN_map {α β : Type} (f : α → β) (xs : List α) (k : Nat) : (lotsN xs k).map (List.map f) = lotsN (xs.map f) k := by
  unfold lotsN
  have e := lots_map f xs [[]]
  rw [show ([[]] : List (List α)).map (List.map f) = [[]] from rfl] at e
  rw [← e, List.filter_map]
  congr 1
  refine List.filter_congr fun L _ => ?_
  show decide (L.length = k) = decide ((L.map f).length = k)
  rw [List.length_map]
theorem lotsN_length {α : Type} (xs : List α) (k : Nat) : (lotsN xs k).length ≤ 2 ^ xs.length := by
  have h := List.length_filter_le (fun L : List α => decide (L.length = k)) (lotsF [[]] xs)
  rw [lots_length, List.length_singleton, Nat.one_mul] at h
  exact h
/-- greatests put together by five -/
theorem top_five {ls : List (List Int)} {t ns : List Int} (h : IsKth id ls 1 ns) (g : IsKth id (ls.take 5) 1 t) : IsKth id (t :: ls.drop 5) 1 ns := by
  obtain ⟨h1, h2⟩ := top_iff.mp h
  obtain ⟨g1, g2⟩ := top_iff.mp g
  refine top_iff.mpr ⟨?_, fun m hm => ?_⟩
  · rw [← List.take_append_drop 5 ls] at h1
    rcases List.mem_append.mp h1 with y | y
    · have e : ns = t := lex_eq _ _ (h2 t (List.mem_of_mem_take g1)) (g2 ns y)
      rw [e]
      exact List.mem_cons_self
    · exact List.mem_cons_of_mem _ y
  · rcases List.mem_cons.mp hm with y | y
    · rw [y]
      exact h2 t (List.mem_of_mem_take g1)
    · exact h2 m (List.mem_of_mem_drop y)
/-! ### rows side by side -/
theorem Paired.get {α β : Type} {F : α → β → Prop} : ∀ {l₁ : List α} {l₂ : List β} (i : Nat) {x : α} {y : β}, Paired F l₁ l₂ → l₁[i]? = some x → l₂[i]? = some y → F x y
  | _, _, i, x, y, .nil, h, _ => by simp at h
  | _, _, 0, x, y, .cons h t, h1, h2 => by
    have e1 := Option.some.inj h1
    have e2 := Option.some.inj h2
    subst e1 e2
    exact h
  | _, _, i + 1, x, y, .cons h t, h1, h2 => Paired.get i t h1 h2
theorem Paired.app {α β : Type} {F : α → β → Prop} : ∀ {l₁ m₁ : List α} {l₂ m₂ : List β}, Paired F l₁ l₂ → Paired F m₁ m₂ → Paired F (l₁ ++ m₁) (l₂ ++ m₂)
  | _, _, _, _, .nil, h => h
  | _, _, _, _, .cons a t, h => .cons a (Paired.app t h)
theorem Paired.take {α β : Type} {F : α → β → Prop} : ∀ {l₁ : List α} {l₂ : List β} (n : Nat), Paired F l₁ l₂ → Paired F (l₁.take n) (l₂.take n)
  | _, _, 0, _ => by rw [List.take_zero, List.take_zero]; exact .nil
  | _, _, n + 1, .nil => .nil
  | _, _, n + 1, .cons a t => .cons a (Paired.take n t)
theorem Paired.drop {α β : Type} {F : α → β → Prop} : ∀ {l₁ : List α} {l₂ : List β} (n : Nat), Paired F l₁ l₂ → Paired F (l₁.drop n) (l₂.drop n)
  | _, _, 0, h => h
  | _, _, n + 1, .nil => .nil
  | _, _, n + 1, .cons a t => Paired.drop n t
theorem Paired.of_get {α β : Type} {F : α → β → Prop} : ∀ {l₁ : List α} {l₂ : List β}, l₁.length = l₂.length → (∀ (i : Nat) (x : α) (y : β), l₁[i]? = some x → l₂[i]? = some y → F x y) → Paired F l₁ l₂
  | [], [], _, _ => .nil
  | [], _ :: _, h, _ => by cases h
  | _ :: _, [], h, _ => by cases h
  | a :: l₁, b :: l₂, h, g => .cons (g 0 a b rfl rfl) (Paired.of_get (by simpa using h) fun i x y h1 h2 => g (i + 1) x y h1 h2)
theorem Paired.flip {α β : Type} {F : α → β → Prop} : ∀ {l₁ : List α} {l₂ : List β}, Paired F l₁ l₂ → Paired (fun b a => F a b) l₂ l₁
  | _, _, .nil => .nil
  | _, _, .cons a t => .cons a (Paired.flip t)
end Lw

namespace Z
open PySem PySem.Spec PyProof.Rows L2 Lw
def topS (i : Nat) : Stmt := PySem.Challenge.pw_stilltold_k06_whole_choices_rewritten.main.body.getD i (.Pass ⟨0, 0, 0, 0⟩)
abbrev s_kth : Stmt := topS 1
abbrev s_parts : Stmt := topS 3
abbrev s_chosen : Stmt := topS 4
abbrev s_picked : Stmt := topS 5
abbrev s_rank : Stmt := topS 6
abbrev s__law_hand : Stmt := topS 8
abbrev s__law_take : Stmt := topS 9
abbrev s__law_of : Stmt := topS 10
abbrev s__law_names : Stmt := topS 11
abbrev s__law_pick : Stmt := topS 12
abbrev s__law_lots : Stmt := topS 13
abbrev s__law_turned : Stmt := topS 14
abbrev s__law_pairs : Stmt := topS 15
abbrev s__law_by_lots : Stmt := topS 16
abbrev s__law_right : Stmt := topS 17
abbrev s_law : Stmt := topS 18
theorem sc_kth : FnScope ["things", "k", "falling"] ["things", "k"] (defScope s_kth) := ⟨rfl, rfl, rfl, by decide +kernel, rfl, by decide +kernel, by decide +kernel⟩
theorem sc_parts : FnScope ["choice"] ["choice"] (defScope s_parts) := ⟨rfl, rfl, rfl, by decide +kernel, rfl, by decide +kernel, by decide +kernel⟩
theorem sc_chosen : FnScope ["choice", "held", "came"] ["choice", "held", "came"] (defScope s_chosen) := ⟨rfl, rfl, rfl, by decide +kernel, rfl, by decide +kernel, by decide +kernel⟩
theorem sc_picked : FnScope ["choice", "held", "came", "none", "word", "part"] ["choice", "held", "came", "none"] (defScope s_picked) := ⟨rfl, rfl, rfl, by decide +kernel, rfl, by decide +kernel, by decide +kernel⟩
theorem sc_rank : FnScope ["choice"] ["choice"] (defScope s_rank) := ⟨rfl, rfl, rfl, by decide +kernel, rfl, by decide +kernel, by decide +kernel⟩
theorem sc__law_hand : FnScope ["_law_script", "_law_nth", "_law_cell", "_law_great"] ["_law_script", "_law_nth"] (defScope s__law_hand) := ⟨rfl, rfl, rfl, by decide +kernel, rfl, by decide +kernel, by decide +kernel⟩
theorem sc__law_take : FnScope ["_law_hand_here", "_law_upon", "_law_digit", "_law_prime", "_law_drawn"] ["_law_hand_here", "_law_upon"] (defScope s__law_take) := ⟨rfl, rfl, rfl, by decide +kernel, rfl, by decide +kernel, by decide +kernel⟩
theorem sc__law_of : FnScope ["_law_hand_here", "_law_some"] ["_law_hand_here", "_law_some"] (defScope s__law_of) := ⟨rfl, rfl, rfl, by decide +kernel, rfl, by decide +kernel, by decide +kernel⟩
theorem sc__law_names : FnScope ["_law_hand_here", "_law_count", "_law_letters", "_law_start", "_law_leap", "_law_long", "_law_turn", "_law_stem", "_law_cut", "_law_found", "_law_letter", "_law_word"] ["_law_hand_here", "_law_count"] (defScope s__law_names) := ⟨rfl, rfl, rfl, by decide +kernel, rfl, by decide +kernel, by decide +kernel⟩
theorem sc__law_pick : FnScope ["_law_hand_here", "_law_rooms", "_law_count", "_law_left", "_law_some", "_law_way", "_law_parts", "_law_name", "_law_number", "_law_turn"] ["_law_hand_here", "_law_rooms", "_law_count", "_law_left"] (defScope s__law_pick) := ⟨rfl, rfl, rfl, by decide +kernel, rfl, by decide +kernel, by decide +kernel⟩
theorem sc__law_lots : FnScope ["_law_row", "_law_size", "_law_found", "_law_part", "_law_lot"] ["_law_row", "_law_size"] (defScope s__law_lots) := ⟨rfl, rfl, rfl, by decide +kernel, rfl, by decide +kernel, by decide +kernel⟩
theorem sc__law_turned : FnScope ["_law_hand_here", "_law_row", "_law_left", "_law_found"] ["_law_hand_here", "_law_row"] (defScope s__law_turned) := ⟨rfl, rfl, rfl, by decide +kernel, rfl, by decide +kernel, by decide +kernel⟩
theorem sc__law_pairs : FnScope ["_law_hand_here", "_law_row", "_law_other", "_law_size", "_law_nth", "_law_top", "_law_least", "_law_found", "_law_over", "_law_under_all", "_law_part"] ["_law_hand_here", "_law_row", "_law_other"] (defScope s__law_pairs) := ⟨rfl, rfl, rfl, by decide +kernel, rfl, by decide +kernel, by decide +kernel⟩
theorem sc__law_by_lots : FnScope ["_law_row", "_law_nth", "_law_parts", "_law_lot"] ["_law_row", "_law_nth"] (defScope s__law_by_lots) := ⟨rfl, rfl, rfl, by decide +kernel, rfl, by decide +kernel, by decide +kernel⟩
theorem sc__law_right : FnScope ["_law_hand_here", "_law_names_here", "_law_count", "_law_spot", "_law_some", "_law_kept", "_law_fresh", "_law_row", "_law_other", "_law_one", "_law_same", "_law_name", "_law_place", "_law_turn"] ["_law_hand_here", "_law_names_here"] (defScope s__law_right) := ⟨rfl, rfl, rfl, by decide +kernel, rfl, by decide +kernel, by decide +kernel⟩
theorem sc_law : FnScope ["_law_script", "_law_nth", "_law_hand_here", "_law_names_here", "_law_turn"] ["_law_script"] (defScope s_law) := ⟨rfl, rfl, rfl, by decide +kernel, rfl, by decide +kernel, by decide +kernel⟩
structure Txt (K : PySem.W.Frag) (mg : Str → Option Value) where
  f_kth : Addr
  fd_kth : FuncData
  F_kth : Fun K "kth" "kth" s_kth f_kth fd_kth
  g_kth : mg "kth" = some (.ref f_kth)
  b_kth : Binds K fd_kth ["things", "k"] []
  f_parts : Addr
  fd_parts : FuncData
  F_parts : Fun K "parts" "parts" s_parts f_parts fd_parts
  g_parts : mg "parts" = some (.ref f_parts)
  b_parts : Binds K fd_parts ["choice"] []
  f_chosen : Addr
  fd_chosen : FuncData
  F_chosen : Fun K "chosen" "chosen" s_chosen f_chosen fd_chosen
  g_chosen : mg "chosen" = some (.ref f_chosen)
  b_chosen : Binds K fd_chosen ["choice", "held", "came"] []
  f_picked : Addr
  fd_picked : FuncData
  F_picked : Fun K "picked" "picked" s_picked f_picked fd_picked
  g_picked : mg "picked" = some (.ref f_picked)
  b_picked : Binds K fd_picked ["choice", "held", "came", "none"] []
  f_rank : Addr
  fd_rank : FuncData
  F_rank : Fun K "rank" "rank" s_rank f_rank fd_rank
  g_rank : mg "rank" = some (.ref f_rank)
  b_rank : Binds K fd_rank ["choice"] []
  f__law_hand : Addr
  fd__law_hand : FuncData
  F__law_hand : Fun K "_law_hand" "_law_hand" s__law_hand f__law_hand fd__law_hand
  g__law_hand : mg "_law_hand" = some (.ref f__law_hand)
  b__law_hand : Binds K fd__law_hand ["_law_script", "_law_nth"] []
  f__law_take : Addr
  fd__law_take : FuncData
  F__law_take : Fun K "_law_take" "_law_take" s__law_take f__law_take fd__law_take
  g__law_take : mg "_law_take" = some (.ref f__law_take)
  b__law_take : Binds K fd__law_take ["_law_hand_here", "_law_upon"] []
  f__law_of : Addr
  fd__law_of : FuncData
  F__law_of : Fun K "_law_of" "_law_of" s__law_of f__law_of fd__law_of
  g__law_of : mg "_law_of" = some (.ref f__law_of)
  b__law_of : Binds K fd__law_of ["_law_hand_here", "_law_some"] []
  f__law_names : Addr
  fd__law_names : FuncData
  F__law_names : Fun K "_law_names" "_law_names" s__law_names f__law_names fd__law_names
  g__law_names : mg "_law_names" = some (.ref f__law_names)
  b__law_names : Binds K fd__law_names ["_law_hand_here", "_law_count"] []
  f__law_pick : Addr
  fd__law_pick : FuncData
  F__law_pick : Fun K "_law_pick" "_law_pick" s__law_pick f__law_pick fd__law_pick
  g__law_pick : mg "_law_pick" = some (.ref f__law_pick)
  b__law_pick : Binds K fd__law_pick ["_law_hand_here", "_law_rooms", "_law_count", "_law_left"] []
  f__law_lots : Addr
  fd__law_lots : FuncData
  F__law_lots : Fun K "_law_lots" "_law_lots" s__law_lots f__law_lots fd__law_lots
  g__law_lots : mg "_law_lots" = some (.ref f__law_lots)
  b__law_lots : Binds K fd__law_lots ["_law_row", "_law_size"] []
  f__law_turned : Addr
  fd__law_turned : FuncData
  F__law_turned : Fun K "_law_turned" "_law_turned" s__law_turned f__law_turned fd__law_turned
  g__law_turned : mg "_law_turned" = some (.ref f__law_turned)
  b__law_turned : Binds K fd__law_turned ["_law_hand_here", "_law_row"] []
  f__law_pairs : Addr
  fd__law_pairs : FuncData
  F__law_pairs : Fun K "_law_pairs" "_law_pairs" s__law_pairs f__law_pairs fd__law_pairs
  g__law_pairs : mg "_law_pairs" = some (.ref f__law_pairs)
  b__law_pairs : Binds K fd__law_pairs ["_law_hand_here", "_law_row", "_law_other"] []
  f__law_by_lots : Addr
  fd__law_by_lots : FuncData
  F__law_by_lots : Fun K "_law_by_lots" "_law_by_lots" s__law_by_lots f__law_by_lots fd__law_by_lots
  g__law_by_lots : mg "_law_by_lots" = some (.ref f__law_by_lots)
  b__law_by_lots : Binds K fd__law_by_lots ["_law_row", "_law_nth"] []
  f__law_right : Addr
  fd__law_right : FuncData
  F__law_right : Fun K "_law_right" "_law_right" s__law_right f__law_right fd__law_right
  g__law_right : mg "_law_right" = some (.ref f__law_right)
  b__law_right : Binds K fd__law_right ["_law_hand_here", "_law_names_here"] []
  f_law : Addr
  fd_law : FuncData
  F_law : Fun K "law" "law" s_law f_law fd_law
  g_law : mg "law" = some (.ref f_law)
  b_law : Binds K fd_law ["_law_script"] []
  m_abs : mg "abs" = none
  m_all : mg "all" = none
  m_dict : mg "dict" = none
  m_int : mg "int" = none
  m_len : mg "len" = none
  m_list : mg "list" = none
  m_min : mg "min" = none
  m_range : mg "range" = none
  m_repr : mg "repr" = none
  m_sorted : mg "sorted" = none
  m_tuple : mg "tuple" = none
theorem Txt.k_kth {K : PySem.W.Frag} {mg : Str → Option Value} (T : Txt K mg) : PySem.W.keepIn K (.ref T.f_kth) = true := T.F_kth.kp
theorem Txt.k_parts {K : PySem.W.Frag} {mg : Str → Option Value} (T : Txt K mg) : PySem.W.keepIn K (.ref T.f_parts) = true := T.F_parts.kp
theorem Txt.k_chosen {K : PySem.W.Frag} {mg : Str → Option Value} (T : Txt K mg) : PySem.W.keepIn K (.ref T.f_chosen) = true := T.F_chosen.kp
theorem Txt.k_picked {K : PySem.W.Frag} {mg : Str → Option Value} (T : Txt K mg) : PySem.W.keepIn K (.ref T.f_picked) = true := T.F_picked.kp
theorem Txt.k_rank {K : PySem.W.Frag} {mg : Str → Option Value} (T : Txt K mg) : PySem.W.keepIn K (.ref T.f_rank) = true := T.F_rank.kp
theorem Txt.k__law_hand {K : PySem.W.Frag} {mg : Str → Option Value} (T : Txt K mg) : PySem.W.keepIn K (.ref T.f__law_hand) = true := T.F__law_hand.kp
theorem Txt.k__law_take {K : PySem.W.Frag} {mg : Str → Option Value} (T : Txt K mg) : PySem.W.keepIn K (.ref T.f__law_take) = true := T.F__law_take.kp
theorem Txt.k__law_of {K : PySem.W.Frag} {mg : Str → Option Value} (T : Txt K mg) : PySem.W.keepIn K (.ref T.f__law_of) = true := T.F__law_of.kp
theorem Txt.k__law_names {K : PySem.W.Frag} {mg : Str → Option Value} (T : Txt K mg) : PySem.W.keepIn K (.ref T.f__law_names) = true := T.F__law_names.kp
theorem Txt.k__law_pick {K : PySem.W.Frag} {mg : Str → Option Value} (T : Txt K mg) : PySem.W.keepIn K (.ref T.f__law_pick) = true := T.F__law_pick.kp
theorem Txt.k__law_lots {K : PySem.W.Frag} {mg : Str → Option Value} (T : Txt K mg) : PySem.W.keepIn K (.ref T.f__law_lots) = true := T.F__law_lots.kp
theorem Txt.k__law_turned {K : PySem.W.Frag} {mg : Str → Option Value} (T : Txt K mg) : PySem.W.keepIn K (.ref T.f__law_turned) = true := T.F__law_turned.kp
theorem Txt.k__law_pairs {K : PySem.W.Frag} {mg : Str → Option Value} (T : Txt K mg) : PySem.W.keepIn K (.ref T.f__law_pairs) = true := T.F__law_pairs.kp
theorem Txt.k__law_by_lots {K : PySem.W.Frag} {mg : Str → Option Value} (T : Txt K mg) : PySem.W.keepIn K (.ref T.f__law_by_lots) = true := T.F__law_by_lots.kp
theorem Txt.k__law_right {K : PySem.W.Frag} {mg : Str → Option Value} (T : Txt K mg) : PySem.W.keepIn K (.ref T.f__law_right) = true := T.F__law_right.kp
theorem Txt.k_law {K : PySem.W.Frag} {mg : Str → Option Value} (T : Txt K mg) : PySem.W.keepIn K (.ref T.f_law) = true := T.F_law.kp
end Z

namespace Z
open PySem PySem.Spec PyProof.Rows L2 Lw

/-! ### draws: the hand, a draw, one of some -/
section
variable {P : Program} {w : World} {K : PySem.W.Frag} {mg : Str → Option Value} {base : Heap}
theorem bit_small (b : Bool) : -(2 ^ 64) < (if b = true then (1 : Int) else 0) ∧ (if b = true then (1 : Int) else 0) < 2 ^ 64 := by cases b <;> exact ⟨by decide, by decide⟩
def sp_hand (K : PySem.W.Frag) : Sp := fun vs H Q _ => ∃ (a : Addr) (ns : List Int) (k : Nat), vs = [.ref a, .int k] ∧ SqL K H a (ns.map V.int) ∧ k ≤ 1000 ∧
  ∀ p H', Same H H' → H p = none → Hd H' p 0 → Q (.ref p) H'
theorem ok_hand (T : Txt K mg) {k : Nat} : FnOk P w K mg base CX0 (k + 1) T.f__law_hand T.fd__law_hand ["_law_script", "_law_nth"] (sp_hand K) := by
  refine T.F__law_hand.ok sc__law_hand (fun vs H Q E h => ?_) (fun cdv A outer s H vs Q E hr h => ?_)
  · obtain ⟨a, ns, k, rfl, _⟩ := h
    rfl
  obtain ⟨a, ns, k, rfl, hS, hk, q⟩ := h
  refine ⟨_, (pss_cons (ps_set (i := 2) sc__law_hand.nd rfl (.inl rfl) (pe_ifExp (pt_cmpR op_lt (pv 1) (pe_callB call_len_seq (by rfl) T.m_len (by decide +kernel) (pa_cons (pv 0) pa_nil)) (nomark _)) (pe_ix ix_list (pv 0) (pv 1) (fun _ _ => rfl)) (pe_op op_add (pe_op op_mul pe_int (pv 1)) pe_int)))
      (pss_cons (ps_set (i := 3) sc__law_hand.nd rfl (.inl rfl) (pe_op op_mul (pe_op op_mod (pe_callB call_abs (by rfl) T.m_abs (by decide +kernel) (pa_cons (pv 2) pa_nil)) (pe_op op_powW (pe_op op_pow pe_int pe_int) pe_int)) (pe_callTy call_int1 (by rfl) T.m_int (by decide +kernel) (pa_cons (pe_cmpR op_ge (pe_callB call_abs (by rfl) T.m_abs (by decide +kernel) (pa_cons (pv 2) pa_nil)) (pe_op op_pow pe_int pe_int) (nomark _)) pa_nil))))
      (pss_one (ps_ret (pe_lst (pa_cons (pv 3) (pa_cons (pe_op op_mod (pe_op op_mul (pe_op op_add (pe_op op_add (pe_op op_mod (pv 2) pe_int) (pe_op op_mul (pe_op op_mul pe_int (pv 1)) (pv 1))) pe_int) pe_int) pe_int) (pa_cons pe_int pa_nil)))))))), ?_⟩
  have p1 : CPow 10 60 := ⟨by decide, by decide, by decide⟩
  have p2 : CPowW ((10 : Int) ^ (60 : Int).toNat) 15 := ⟨by decide, by decide +kernel⟩
  have p3 : CPow 10 18 := ⟨by decide, by decide, by decide⟩
  have p4 : (0 : Int) < ((10 : Int) ^ (60 : Int).toNat) ^ (15 : Int).toNat := by decide +kernel
  have fin : ∀ (x y : Int), ∀ p, H p = none → Q (.ref p) (upd H p (.lst [.int x, .int (y % 2305843009213693921), .int 0])) := by
    intro x y p np
    refine q p _ (same_new np) np ⟨_, _, _, upd_same, ?_, ?_, Int.le_refl 0, Int.le_refl 0⟩
    · exact Int.emod_nonneg _ (by decide)
    · exact Int.emod_lt_of_pos _ (by decide)
  refine ⟨.int k, rfl, .ref a, rfl, a, _, rfl, .inl hS, _, _, rfl, rfl, _, rfl, ite2 (fun c => ?_) (fun c => ?_)⟩
  · have c' : (k : Int) < (((ns.map V.int).length : Nat) : Int) := of_decide_eq_true c
    rw [List.length_map] at c'
    have hk' : k < ns.length := by omega
    have at_k : atI (ns.map V.int) (k : Int) = some (.int ns[k]) := atI_nat (by rw [List.getElem?_map, List.getElem?_eq_getElem hk']; rfl)
    refine ⟨_, rfl, _, rfl, a, _, _, _, rfl, rfl, hS, at_k, ?_⟩
    refine ⟨_, rfl, _, rfl, _, _, rfl, rfl, p1, _, _, rfl, rfl, p2, _, _, rfl, rfl, p4, _, rfl, _, rfl, _, _, rfl, rfl, p3, _, _, rfl, rfl, .inr ⟨_, rfl, _, _, rfl, rfl, .inr ?_, ?_⟩⟩
    · exact bit_small _
    refine ⟨_, rfl, _, rfl, _, _, rfl, rfl, (by show (0 : Int) < 2305843009213693951; decide), _, rfl, _, _, rfl, rfl, .inl ⟨by decide, by decide⟩, _, rfl, _, _, rfl, rfl, .inr ⟨by omega, by omega⟩, _, _, rfl, rfl, _, _, rfl, rfl,
      _, _, rfl, rfl, .inr ⟨by decide, by decide⟩, _, _, rfl, rfl, (by show (0 : Int) < 2305843009213693921; decide), (by show 3 ≤ sizeLine; decide), ?_⟩
    exact fin _ _
  · refine ⟨_, rfl, _, _, rfl, rfl, .inl ⟨by decide, by decide⟩, _, _, rfl, rfl, ?_⟩
    refine ⟨_, rfl, _, rfl, _, _, rfl, rfl, p1, _, _, rfl, rfl, p2, _, _, rfl, rfl, p4, _, rfl, _, rfl, _, _, rfl, rfl, p3, _, _, rfl, rfl, .inr ⟨_, rfl, _, _, rfl, rfl, .inr ?_, ?_⟩⟩
    · exact bit_small _
    refine ⟨_, rfl, _, rfl, _, _, rfl, rfl, (by show (0 : Int) < 2305843009213693951; decide), _, rfl, _, _, rfl, rfl, .inl ⟨by decide, by decide⟩, _, rfl, _, _, rfl, rfl, .inr ⟨by omega, by omega⟩, _, _, rfl, rfl, _, _, rfl, rfl,
      _, _, rfl, rfl, .inr ⟨by decide, by decide⟩, _, _, rfl, rfl, (by show (0 : Int) < 2305843009213693921; decide), (by show 3 ≤ sizeLine; decide), ?_⟩
    exact fin _ _

/-- a draw below u -/
def sp_take : Sp := fun vs H Q _ => ∃ (a : Addr) (n u : Nat), vs = [.ref a, .int u] ∧ Hd H a n ∧ n ≤ 1000000 ∧ 0 < u ∧ u ≤ 1000000000000000000000000000000 ∧
  ∀ (r : Nat) H', r < u → Hd H' a (n + 1) → Kp a H H' → Q (.int r) H'
def primes : List V := [.int 2147483629, .int 2147483587, .int 2147483579, .int 2147483563, .int 2147483549, .int 2147483543, .int 2147483497]
theorem prime_at (c : Int) : ∃ q : Int, atI primes (c % 7) = some (.int q) ∧ 0 < q ∧ q < 4294967296 := by
  have h0 : 0 ≤ c % 7 := Int.emod_nonneg _ (by decide)
  have h1 : c % 7 < 7 := Int.emod_lt_of_pos _ (by decide)
  have h : c % 7 = 0 ∨ c % 7 = 1 ∨ c % 7 = 2 ∨ c % 7 = 3 ∨ c % 7 = 4 ∨ c % 7 = 5 ∨ c % 7 = 6 := by omega
  rcases h with e | e | e | e | e | e | e <;> rw [e] <;> exact ⟨_, rfl, by decide, by decide⟩
theorem ok_take (T : Txt K mg) {k : Nat} : FnOk P w K mg base CX0 (k + 1) T.f__law_take T.fd__law_take ["_law_hand_here", "_law_upon"] sp_take := by
  refine T.F__law_take.ok sc__law_take (fun vs H Q E h => ?_) (fun cdv A outer s H vs Q E hr h => ?_)
  · obtain ⟨a, n, u, rfl, _⟩ := h
    rfl
  obtain ⟨a, n, u, rfl, ⟨g, m, c, ha, m0, m1, c0, c1⟩, hn, u0, u1, q⟩ := h
  refine ⟨_, (pss_cons (ps_if (pt_cmpR op_gt (pe_ix ix_list (pv 0) pe_int (fun _ _ => rfl)) pe_int (nomark _)) (pss_cons (ps_set (i := 2) sc__law_take.nd rfl (.inl rfl) (pe_op op_mod (pe_ix ix_list (pv 0) pe_int (fun _ _ => rfl)) (pv 1)))
      (pss_cons (ps_asg (pe_op op_fdivW (pe_ix ix_list (pv 0) pe_int (fun _ _ => rfl)) (pv 1)) (pg_sub (pv 0) pe_int set_list))
      (pss_one (ps_ret (pv 2))))) pss_nil)
      (pss_cons (ps_asg (pe_op op_add (pe_ix ix_list (pv 0) pe_int (fun _ _ => rfl)) pe_int) (pg_sub (pv 0) pe_int set_list))
      (pss_cons (ps_set (i := 3) sc__law_take.nd rfl (.inl rfl) (pe_ix ix_list (pe_lst (pa_cons pe_int (pa_cons pe_int (pa_cons pe_int (pa_cons pe_int (pa_cons pe_int (pa_cons pe_int (pa_cons pe_int pa_nil)))))))) (pe_op op_mod (pe_ix ix_list (pv 0) pe_int (fun _ _ => rfl)) pe_int) (fun _ _ => rfl)))
      (pss_cons (ps_set (i := 4) sc__law_take.nd rfl (.inl rfl) (pe_op op_mod (pe_op op_pow (pe_op op_add (pe_ix ix_list (pv 0) pe_int (fun _ _ => rfl)) (pe_op op_mul pe_int (pe_ix ix_list (pv 0) pe_int (fun _ _ => rfl)))) pe_int) (pv 3)))
      (pss_one (ps_ret (pe_op op_mod (pe_op op_fdiv (pe_op op_mod (pe_op op_mul (pv 4) (pe_op op_add (pe_op op_mod (pv 4) pe_int) (pe_ix ix_list (pv 0) pe_int (fun _ _ => rfl)))) (pv 3)) pe_int) (pv 1)))))))), ?_⟩
  have u0' : (0 : Int) < (u : Int) := by omega
  refine ⟨_, rfl, a, _, 0, _, rfl, rfl, SqL.of ha, rfl, _, _, rfl, rfl, _, rfl, ite2 (fun cc => ?_) (fun cc => ?_)⟩
  · refine ⟨_, rfl, a, _, 0, _, rfl, rfl, SqL.of ha, rfl, _, rfl, _, _, rfl, rfl, u0', ?_⟩
    refine ⟨_, rfl, a, _, 0, _, rfl, rfl, SqL.of ha, rfl, _, rfl, _, _, rfl, rfl, ⟨u0', PySem.Flt.log2_lt_of (by decide) (Nat.lt_of_le_of_lt (show ((u : Nat) : Int).natAbs ≤ 1000000000000000000000000000000 by omega) (by decide +kernel))⟩, _, rfl, a, _, 0, 0, rfl, rfl, ha, rfl, _, rfl, ?_⟩
    have r0 : 0 ≤ g % (u : Int) := Int.emod_nonneg _ (by omega)
    have r1 : g % (u : Int) < (u : Int) := Int.emod_lt_of_pos _ u0'
    have e : g % (u : Int) = (((g % (u : Int)).toNat : Nat) : Int) := by omega
    show Q (.int (g % (u : Int))) _
    rw [e]
    exact q _ _ (by omega) ⟨_, _, _, upd_same, m0, m1, c0, by omega⟩ (Kp.upd (Kp.refl a H))
  · refine ⟨_, rfl, a, _, 2, _, rfl, rfl, SqL.of ha, rfl, _, _, rfl, rfl, _, rfl, a, _, 2, 2, rfl, rfl, ha, rfl, ?_⟩
    have h1 : (upd H a (.lst ([V.int g, .int m, .int c].set 2 (.int (c + 1))))) a = some (.lst [.int g, .int m, .int (c + 1)]) := upd_same
    generalize hH : upd H a (.lst ([V.int g, .int m, .int c].set 2 (.int (c + 1)))) = H1 at h1 ⊢
    have k1 : Kp a H H1 := by
      rw [← hH]
      exact Kp.upd (Kp.refl a H)
    refine ⟨(by show 7 ≤ sizeLine; decide), fun p np => ?_⟩
    have s2 : Same H1 (upd H1 p (.lst primes)) := same_new np
    have h2 := s2 _ _ h1
    obtain ⟨pr, pe, pr0, pr1⟩ := prime_at (c + 1)
    refine ⟨_, rfl, a, _, 2, _, rfl, rfl, SqL.of h2, rfl, _, _, rfl, rfl, (by show (0 : Int) < 7; decide), p, primes, _, _, rfl, rfl, SqL.of upd_same, pe, ?_⟩
    refine ⟨_, rfl, a, _, 1, _, rfl, rfl, SqL.of h2, rfl, _, rfl, a, _, 2, _, rfl, rfl, SqL.of h2, rfl, _, _, rfl, rfl, .inl ⟨by decide, by decide⟩, _, _, rfl, rfl, _, _, rfl, rfl, ⟨by decide, by decide, ?_⟩, _, rfl, _, _, rfl, rfl, pr0, ?_⟩
    · have : (m + 7919 * (c + 1)).natAbs < 18446744073709551616 := by omega
      exact this
    generalize hd : (m + 7919 * (c + 1)) ^ (3 : Int).toNat % pr = dr
    have d0 : 0 ≤ dr := by
      rw [← hd]
      exact Int.emod_nonneg _ (by omega)
    have d1 : dr < pr := by
      rw [← hd]
      exact Int.emod_lt_of_pos _ pr0
    refine ⟨_, rfl, _, rfl, _, _, rfl, rfl, (by show (0 : Int) < 1009; decide), _, rfl, a, _, 2, _, rfl, rfl, SqL.of h2, rfl, _, _, rfl, rfl, _, _, rfl, rfl, .inl ⟨by omega, by omega⟩, _, rfl, _, _, rfl, rfl, pr0, _, _, rfl, rfl, ⟨by decide, by decide⟩, _, rfl, _, _, rfl, rfl, u0', ?_⟩
    have key : ∀ z : Int, Q (.int (z % (u : Int))) (upd H1 p (.lst primes)) := by
      intro z
      have r0 : 0 ≤ z % (u : Int) := Int.emod_nonneg _ (by omega)
      have r1 : z % (u : Int) < (u : Int) := Int.emod_lt_of_pos _ u0'
      have e : z % (u : Int) = (((z % (u : Int)).toNat : Nat) : Int) := by omega
      rw [e]
      exact q _ _ (by omega) ⟨_, _, _, h2, m0, m1, by omega, by omega⟩ (k1.trans (Kp.of_same s2))
    exact key _

/-- one of some -/
def sp_of : Sp := fun vs H Q _ => ∃ (a b : Addr) (n : Nat) (xs : List V), vs = [.ref a, .ref b] ∧ Hd H a n ∧ n ≤ 1000000 ∧ H b = some (.lst xs) ∧ b ≠ a ∧ 0 < xs.length ∧ xs.length ≤ 1000 ∧
  ∀ (v : V) H', v ∈ xs → Hd H' a (n + 1) → Kp a H H' → Q v H'
theorem ok_of (T : Txt K mg) {k : Nat} : FnOk P w K mg base CX0 (k + 2) T.f__law_of T.fd__law_of ["_law_hand_here", "_law_some"] sp_of := by
  have G__law_take := ok_take (P := P) (w := w) (base := base) T (k := k)
  refine T.F__law_of.ok sc__law_of (fun vs H Q E h => ?_) (fun cdv A outer s H vs Q E hr h => ?_)
  · obtain ⟨a, b, n, xs, rfl, _⟩ := h
    rfl
  obtain ⟨a, b, n, xs, rfl, ha, hn, hb, nb, x0, x1, q⟩ := h
  refine ⟨_, (pss_one (ps_ret (pe_ix ix_list (pv 1) (pe_call G__law_take hr (by rfl) T.g__law_take T.k__law_take T.b__law_take .nil pass0 (pa_cons (pv 0) (pa_cons (pe_callB call_len_seq (by rfl) T.m_len (by decide +kernel) (pa_cons (pv 1) pa_nil)) pa_nil))) (fun _ _ => rfl)))), ?_⟩
  refine ⟨_, rfl, _, rfl, _, rfl, b, xs, rfl, .inl (SqL.of hb), a, n, xs.length, rfl, ha, hn, x0, by omega, fun r H' hr' hd kp => ?_⟩
  have hb' : H' b = some (.lst xs) := kp b _ nb hb
  refine ⟨b, xs, (r : Int), xs[r], rfl, rfl, SqL.of hb', atI_nat (List.getElem?_eq_getElem hr'), ?_⟩
  exact q _ _ (List.getElem_mem hr') hd kp
end

end Z

namespace Z
open PySem PySem.Spec PyProof.Rows L2 Lw

/-! ### names -/
section
variable {P : Program} {w : World} {K : PySem.W.Frag} {mg : Str → Option Value} {base : Heap}
def sp_ofS : Sp := fun vs H Q _ => ∃ (a : Addr) (n : Nat) (z : Str), vs = [.ref a, .str z] ∧ Hd H a n ∧ n ≤ 1000000 ∧ 0 < z.length ∧ z.length ≤ 1000 ∧
  ∀ (c : Nat) H', c ∈ z.cps.toList → Hd H' a (n + 1) → Kp a H H' → Q (.str ⟨#[c]⟩) H'
theorem ok_ofS (T : Txt K mg) {k : Nat} : FnOk P w K mg base CX0 (k + 2) T.f__law_of T.fd__law_of ["_law_hand_here", "_law_some"] sp_ofS := by
  have G__law_take := ok_take (P := P) (w := w) (base := base) T (k := k)
  refine T.F__law_of.ok sc__law_of (fun vs H Q E h => ?_) (fun cdv A outer s H vs Q E hr h => ?_)
  · obtain ⟨a, n, z, rfl, _⟩ := h
    rfl
  obtain ⟨a, n, z, rfl, ha, hn, z0, z1, q⟩ := h
  refine ⟨_, (pss_one (ps_ret (pe_ix ix_str (pv 1) (pe_call G__law_take hr (by rfl) T.g__law_take T.k__law_take T.b__law_take .nil pass0 (pa_cons (pv 0) (pa_cons (pe_callB call_len_str (by rfl) T.m_len (by decide +kernel) (pa_cons (pv 1) pa_nil)) pa_nil))) (fun _ _ => rfl)))), ?_⟩
  have zs : z.length ≤ sizeLine := Nat.le_trans z1 (by decide)
  refine ⟨_, rfl, _, rfl, _, rfl, z, rfl, zs, a, n, z.length, rfl, ha, hn, z0, by omega, fun r H' hr' hd kp => ?_⟩
  have hr2 : r < z.cps.toList.length := by
    rw [← len_cps]
    exact hr'
  refine ⟨z, (r : Int), z.cps.toList[r], rfl, rfl, zs, atI_nat (List.getElem?_eq_getElem hr2), ?_⟩
  exact q _ _ (List.getElem_mem hr2) hd kp
def abc : Str := "abcdefghijklmnopqrstuvwxyz"
theorem abc_lt : Lt abc := by
  intro c hc
  have h : ∀ c ∈ abc.cps.toList, 97 ≤ c ∧ c ≤ 122 := by decide +kernel
  exact h c hc
theorem abc_len : abc.length = 26 := by decide +kernel
theorem abc_at (i : Int) : ∃ c, atI abc.cps.toList (i % 26) = some c ∧ 97 ≤ c ∧ c ≤ 122 := by
  have h0 : 0 ≤ i % 26 := Int.emod_nonneg _ (by decide)
  have h1 : i % 26 < 26 := Int.emod_lt_of_pos _ (by decide)
  have e : i % 26 = (((i % 26).toNat : Nat) : Int) := by omega
  have hl : (i % 26).toNat < abc.cps.toList.length := by
    rw [← len_cps, abc_len]
    omega
  rw [e]
  exact ⟨_, atI_nat (List.getElem?_eq_getElem hl), abc_lt _ (List.getElem_mem hl)⟩
def sp_names : Sp := fun vs H Q _ => ∃ (a : Addr) (n c : Nat), vs = [.ref a, .int c] ∧ Hd H a n ∧ n ≤ 800000 ∧ c ≤ 100 ∧
  ∀ (p : Addr) (ws : List Str) H', H p = none → H' p = some (.lst (ws.map V.str)) → ws.length = c → (∀ z ∈ ws, Lt z ∧ z.length ≤ 8) → Hd H' a (n + 10) → Kp a H H' → Q (.ref p) H'
theorem ok_names (T : Txt K mg) {k : Nat} : FnOk P w K mg base CX0 (k + 3) T.f__law_names T.fd__law_names ["_law_hand_here", "_law_count"] sp_names := by
  have G__law_take := ok_take (P := P) (w := w) (base := base) T (k := k + 1)
  have G__law_of := ok_of (P := P) (w := w) (base := base) T (k := k)
  have G__law_ofS := ok_ofS (P := P) (w := w) (base := base) T (k := k)
  refine T.F__law_names.ok sc__law_names (fun vs H Q E h => ?_) (fun cdv A outer s H vs Q E hr h => ?_)
  · obtain ⟨a, n, c, rfl, _⟩ := h
    rfl
  obtain ⟨a, n, c, rfl, ha, hn, hc, q⟩ := h
  refine ⟨_, (pss_cons (ps_set (i := 2) sc__law_names.nd rfl (.inr rfl) pe_str)
      (pss_cons (ps_par (i := 3) (j := 4) rfl sc__law_names.nd rfl rfl (by decide) rfl rfl (pa_cons (pe_call G__law_take hr (by rfl) T.g__law_take T.k__law_take T.b__law_take .nil pass0 (pa_cons (pv 0) (pa_cons pe_int pa_nil))) (pa_cons (pe_call G__law_of hr (by rfl) T.g__law_of T.k__law_of T.b__law_of .nil pass0 (pa_cons (pv 0) (pa_cons (pe_lst (pa_cons pe_int (pa_cons pe_int (pa_cons pe_int (pa_cons pe_int (pa_cons pe_int (pa_cons pe_int pa_nil))))))) pa_nil))) pa_nil)) (by rfl))
      (pss_cons (ps_set (i := 5) sc__law_names.nd rfl (.inl rfl) (pe_call G__law_of hr (by rfl) T.g__law_of T.k__law_of T.b__law_of .nil pass0 (pa_cons (pv 0) (pa_cons (pe_lst (pa_cons pe_int (pa_cons pe_int (pa_cons pe_int (pa_cons pe_int (pa_cons pe_int (pa_cons pe_int pa_nil))))))) pa_nil))))
      (pss_cons (ps_set (i := 7) sc__law_names.nd rfl (.inl rfl) (pe_bm PySem.F.plainAttrs_str PySem.F.slot_str_join PySem.F.type_str_join mt_join pe_str (pa_cons (pe_lc (own := [("_law_turn", 6)]) (g := gName 6) (tt := tYes) rfl sc__law_names.nd (pi_range1 (by rfl) T.m_range (pa_cons (pv 5) pa_nil)) (blkOk_by (N := ["_law_hand_here", "_law_count", "_law_letters", "_law_start", "_law_leap", "_law_long", "_law_turn", "_law_stem", "_law_cut", "_law_found", "_law_letter", "_law_word"]) (sc := defScope s__law_names) (by decide +kernel)) (fun _ _ _ _ _ => (pg_name (i := 6) sc__law_names.nd rfl (Or.inl rfl))) (fun _ _ _ _ _ => pts_nil) (fun _ _ _ _ _ => (pe_call G__law_ofS hr (by rfl) T.g__law_of T.k__law_of T.b__law_of .nil pass0 (pa_cons (pv 0) (pa_cons (pv 2) pa_nil))))) pa_nil)))
      (pss_cons (ps_par (i := 8) (j := 9) rfl sc__law_names.nd rfl rfl (by decide) rfl rfl (pa_cons (pe_call G__law_take hr (by rfl) T.g__law_take T.k__law_take T.b__law_take .nil pass0 (pa_cons (pv 0) (pa_cons (pe_op op_add (pv 5) pe_int) pa_nil))) (pa_cons (pe_lst pa_nil) pa_nil)) (by rfl))
      (pss_cons (ps_for PassesOwn.never rfl (pi_range1 (by rfl) T.m_range (pa_cons (pv 1) pa_nil)) (pg_name (i := 6) sc__law_names.nd rfl (.inl rfl)) (pss_cons (ps_set (i := 10) sc__law_names.nd rfl (.inl rfl) (pe_ix ix_str (pv 2) (pe_op op_mod (pe_op op_add (pv 3) (pe_op op_mul (pv 4) (pv 6))) pe_int) (fun _ _ => rfl)))
      (pss_cons (ps_set (i := 11) sc__law_names.nd rfl (.inl rfl) (pe_op op_add_str (pe_op op_add_str (pe_slice sl_str (pv 7) po_none (po_some (pv 8))) (pv 10)) (pe_slice sl_str (pv 7) (po_some (pv 8)) po_none)))
      (pss_one (ps_expr (pe_bm PySem.F.plainAttrs_list PySem.F.slot_list_append PySem.F.type_list_append mt_append (pv 9) (pa_cons (pe_op op_add_str (pv 11) (pe_op op_mulS pe_str (pe_callTy call_int1 (by rfl) T.m_int (by decide +kernel) (pa_cons (pe_cmpR op_in_seq (pv 11) (pe_tup (pa_cons pe_str (pa_cons pe_str (pa_cons pe_str (pa_cons pe_str (pa_cons pe_str pa_nil)))))) (by rfl)) pa_nil)))) pa_nil)))))))
      (pss_one (ps_ret (pv 9))))))))), ?_⟩
  have notH : ∀ {m : Nat} {H1 : Hp} {p : Addr}, Hd H1 a m → H1 p = none → p ≠ a := fun h e z => by
    obtain ⟨g, m, cc, e', _⟩ := h
    rw [z, e'] at e
    cases e
  -- start, leap
  refine ⟨_, rfl, a, n, 26, rfl, ha, by omega, by decide, by decide, fun start H1 hs1 g1 k1 => ?_⟩
  refine ⟨_, rfl, (by show 6 ≤ sizeLine; decide), fun p2 n2 => ?_⟩
  have s2 := same_new (o := .lst [.int 1, .int 3, .int 5, .int 7, .int 9, .int 11]) n2
  refine ⟨a, p2, n + 1, _, rfl, g1.same s2, by omega, upd_same, notH g1 n2, (by decide), (by decide), fun vl H3 hl g3 k3 => ⟨_, _, rfl, ?_⟩⟩
  obtain ⟨leap, rfl, hleap⟩ : ∃ leap : Int, vl = .int leap ∧ 0 ≤ leap ∧ leap ≤ 11 := by
    simp only [List.mem_cons, List.not_mem_nil, or_false] at hl
    rcases hl with e | e | e | e | e | e
    all_goals exact ⟨_, e, by decide, by decide⟩
  have k13 : Kp a H H3 := k1.trans ((Kp.of_same s2).trans k3)
  -- long
  refine ⟨_, rfl, (by show 6 ≤ sizeLine; decide), fun p4 n4 => ?_⟩
  have s4 := same_new (o := .lst [.int 0, .int 0, .int 1, .int 2, .int 3, .int 6]) n4
  refine ⟨a, p4, n + 1 + 1, _, rfl, g3.same s4, by omega, upd_same, notH g3 n4, (by decide), (by decide), fun vg H5 hg g5 k5 => ?_⟩
  obtain ⟨long, rfl, hlong⟩ : ∃ long : Nat, vg = .int (long : Int) ∧ long ≤ 6 := by
    simp only [List.mem_cons, List.not_mem_nil, or_false] at hg
    rcases hg with e | e | e | e | e | e
    · exact ⟨0, e, by decide⟩
    · exact ⟨0, e, by decide⟩
    · exact ⟨1, e, by decide⟩
    · exact ⟨2, e, by decide⟩
    · exact ⟨3, e, by decide⟩
    · exact ⟨6, e, by decide⟩
  have k15 : Kp a H H5 := k13.trans ((Kp.of_same s4).trans k5)
  -- stem
  refine ⟨rfl, ?_⟩
  refine ⟨_, rfl, _, rfl, by omega, by omega, fun D1 n1 => ?_⟩
  have hD : H D1 = none := by
    cases e : H D1 with
    | none => rfl
    | some o =>
      have nd : D1 ≠ a := notH g5 n1
      rw [k15 D1 o nd e] at n1
      cases n1
  have nDa : D1 ≠ a := notH g5 n1
  refine Lw.lc_range (lo := 0) (n := ((long : Int)).toNat) (fun m H' => Hd H' a (n + 3 + m) ∧ Kp a H H' ∧ ∃ ys : List Str, H' D1 = some (.lst (ys.map V.str)) ∧ ys.length = m ∧ ∀ y ∈ ys, Lt y ∧ y.length = 1) ?_ ?_ ?_
  · exact ⟨g5.same (same_new n1), k15.trans (Kp.of_same (same_new n1)), [], upd_same, rfl, fun y hy => by cases hy⟩
  · rintro m H6 hm ⟨g6, k6, ys, e6, l6, p6⟩
    refine ⟨rfl, ?_⟩
    dsimp only [tYes]
    refine iteT ?_
    refine ⟨_, rfl, _, rfl, a, n + 3 + m, abc, rfl, g6, by omega, by rw [abc_len]; decide, by rw [abc_len]; decide, fun ch H7 hch g7 k7 => ?_⟩
    refine ⟨_, k7 _ _ nDa e6, ?_, ?_, ?_, ys ++ [⟨#[ch]⟩], ?_, ?_, ?_⟩
    · rw [List.length_map, l6]
      exact Nat.lt_of_le_of_lt (show m ≤ 1000 by omega) (by decide)
    · obtain ⟨g, mm, cc, e, r1, r2, r3, r4⟩ := g7
      exact ⟨g, mm, cc, by rw [upd_ne nDa.symm]; exact e, r1, r2, r3, by omega⟩
    · intro b o nb e
      have nb2 : b ≠ D1 := ne_of_none e hD
      rw [upd_ne nb2]
      exact k7 _ _ nb (k6 _ _ nb e)
    · rw [upd_same, List.map_append]
      rfl
    · rw [List.length_append, l6]
      rfl
    · intro y hy
      rcases List.mem_append.mp hy with hy | hy
      · exact p6 y hy
      · rw [List.mem_singleton.mp hy]
        exact ⟨lt_one (abc_lt _ hch), rfl⟩
  · rintro H6 ⟨g6, k6, ys, e6, l6, p6⟩
    have ll : ((long : Int)).toNat = long := by omega
    rw [ll] at g6 l6
    have sum1 : (ys.map (·.length)).sum = long := by
      have : ∀ zs : List Str, (∀ y ∈ zs, Lt y ∧ y.length = 1) → (zs.map (·.length)).sum = zs.length := by
        intro zs
        induction zs with
        | nil => intro _; rfl
        | cons z zs ih =>
          intro h
          rw [List.map_cons, List.sum_cons, ih fun y hy => h y (List.mem_cons_of_mem _ hy), (h z List.mem_cons_self).2, List.length_cons]
          omega
      rw [this ys p6, l6]
    refine ⟨_, D1, ys, rfl, rfl, .inl (SqL.of e6), ?_, ?_⟩
    · rw [sum1]
      show long + ys.length * (Str.ofString "").length ≤ 16777216
      have : (Str.ofString "").length = 0 := rfl
      rw [this]
      omega
    have je : Txt.join (Str.ofString "") ys = Str.join Str.empty ys := TL.join_eq _ _
    obtain ⟨jl, jn⟩ := join_lt (ys := ys) fun y hy => (p6 y hy).1
    rw [sum1] at jn
    rw [je]
    generalize Str.join Str.empty ys = stem at jl jn
    -- cut, found
    refine ⟨_, rfl, _, rfl, _, _, rfl, rfl, a, n + 3 + long, long + 1, rfl, g6, by omega, by omega, by omega, fun cut H7 hcut g7 k7 => ?_⟩
    refine ⟨(by show 0 ≤ sizeLine; decide), fun pf nf => ⟨_, _, rfl, ?_⟩⟩
    have k8 := (k6.trans k7).trans (Kp.of_same (same_new (o := .lst []) nf))
    have hpf : H pf = none := by
      cases e : H pf with
      | none => rfl
      | some o =>
        have nd : pf ≠ a := notH g7 nf
        rw [(k6.trans k7) pf o nd e] at nf
        cases nf
    have nfa : pf ≠ a := notH g7 nf
    refine ⟨_, rfl, _, rfl, by omega, by omega, for_range (lo := 0) (n := ((c : Int)).toNat) (fun m σ H' => (∃ y6 y10 y11, σ = [some (.ref a), some (.int (c : Int)), some (.str abc), some (.int (start : Int)), some (.int leap), some (.int (long : Int)), y6, some (.str stem), some (.int (cut : Int)), some (.ref pf), y10, y11]) ∧ Hd H' a (n + 10) ∧ Kp a H H' ∧
      ∃ ws : List Str, H' pf = some (.lst (ws.map V.str)) ∧ ws.length = m ∧ ∀ z ∈ ws, Lt z ∧ z.length ≤ 8) ?_ ?_ ?_⟩
    · exact ⟨⟨_, _, _, rfl⟩, (g7.same (same_new nf)).mono (by omega), k8, [], upd_same, rfl, fun z hz => by cases hz⟩
    · rintro m σ H9 hm ⟨⟨y6, y10, y11, rfl⟩, g9, k9, ws, e9, l9, p9⟩
      obtain ⟨ch, hch, hch2⟩ := abc_at ((start : Int) + leap * (0 + (m : Int)))
      refine ⟨_, rfl, _, rfl, _, rfl, _, rfl, _, _, rfl, rfl, .inl ⟨by omega, by omega⟩, _, _, rfl, rfl, _, _, rfl, rfl, (by show (0 : Int) < 26; decide), abc, _, ch, rfl, rfl, (by rw [abc_len]; decide), hch, ?_⟩
      have z1 := cutS_length stem none (some (cut : Int))
      have z2 := cutS_length stem (some (cut : Int)) none
      have one : (⟨#[ch]⟩ : Str).length = 1 := rfl
      have sl : stem.length ≤ sizeLine := Nat.le_trans (show stem.length ≤ 1000 by omega) (by decide)
      have small : ∀ x : Nat, x ≤ 1000 → x ≤ sizeLine := fun x h => Nat.le_trans h (by decide)
      refine ⟨_, rfl, _, rfl, _, rfl, stem, rfl, sl, _, rfl, _, _, rfl, rfl, small _ (by rw [one]; omega), _, rfl, _, rfl, _, rfl, stem, rfl, sl, _, _, rfl, rfl, small _ (by rw [strLen_append, one]; omega), ?_⟩
      have wl : (cutS stem none (some (cut : Int)) ++ ⟨#[ch]⟩ ++ cutS stem (some (cut : Int)) none).length ≤ 7 := by
        rw [strLen_append, strLen_append, one]
        have := cut_two stem cut
        omega
      have wt : Lt (cutS stem none (some (cut : Int)) ++ ⟨#[ch]⟩ ++ cutS stem (some (cut : Int)) none) := lt_app (lt_app (lt_cut jl _ _) (lt_one hch2)) (lt_cut jl _ _)
      generalize (cutS stem none (some (cut : Int)) ++ ⟨#[ch]⟩ ++ cutS stem (some (cut : Int)) none) = word at wl wt ⊢
      refine ⟨_, rfl, .inl ⟨rfl, _, SqL.of e9⟩, _, rfl, _, rfl, (by show 5 ≤ sizeLine; decide), fun pt nt => ?_⟩
      have s10 := same_new (o := .tup [.str "none", .str "cell", .str "came", .str "kth", .str "least"]) nt
      have e10 := s10 _ _ e9
      refine ⟨pt, _, rfl, .inr (SqT.of upd_same), rfl, rfl, .inr ⟨_, rfl, _, _, rfl, rfl, ?_⟩⟩
      have xs : ∀ b : Bool, (if b = true then (Str.ofString "x") else Str.empty).length ≤ 1 ∧ Lt (if b = true then (Str.ofString "x") else Str.empty) := by
        intro b
        cases b with
        | true => exact ⟨Nat.le_refl 1, lt_one (c := 120) (by decide)⟩
        | false => exact ⟨Nat.zero_le 1, lt_empty⟩
      generalize inV (V.str word) _ = bb0
      generalize hbb : (if false = true then !bb0 else bb0) = bb
      obtain ⟨x1, x2⟩ := xs bb
      refine ⟨_, _, rfl, rfl, small _ (by omega), pf, _, _, rfl, rfl, e10, ?_, ?_⟩
      · rw [List.length_map, l9]
        exact Nat.lt_of_le_of_lt (show m ≤ 1000 by omega) (by decide)
      · refine ⟨⟨_, _, _, rfl⟩, ?_, ?_, ws ++ [word ++ (if bb = true then (Str.ofString "x") else Str.empty)], ?_, ?_, ?_⟩
        · obtain ⟨g, mm, cc, e, r⟩ := g9.same s10
          exact ⟨g, mm, cc, by rw [upd_ne nfa.symm]; exact e, r⟩
        · intro b o nb e
          have nb2 : b ≠ pf := ne_of_none e hpf
          rw [upd_ne nb2]
          exact s10 _ _ (k9 _ _ nb e)
        · rw [upd_same, List.map_append]
          rfl
        · rw [List.length_append, l9]
          rfl
        · intro z hz
          rcases List.mem_append.mp hz with hz | hz
          · exact p9 z hz
          · rw [List.mem_singleton.mp hz]
            exact ⟨lt_app wt x2, by rw [strLen_append]; omega⟩
    · rintro σ H9 ⟨⟨y6, y10, y11, rfl⟩, g9, k9, ws, e9, l9, p9⟩
      have lc : ((c : Int)).toNat = c := by omega
      rw [lc] at l9
      exact ⟨_, rfl, q pf ws H9 hpf e9 l9 p9 g9 k9⟩
end

end Z

namespace Z
open PySem PySem.Spec PyProof.Rows L2 Lw

section
variable {P : Program} {w : World} {K : PySem.W.Frag} {mg : Str → Option Value} {base : Heap}
/-- rows of tuples of ints, by their key -/
def Rows (H : Hp) (key : V → List Int) (xs : List V) : Prop := ∀ x ∈ xs, ∃ t, x = V.ref t ∧ H t = some (.tup ((key x).map V.int))
theorem Rows.same {H H' : Hp} {key : V → List Int} {xs : List V} (h : Rows H key xs) (s : Same H H') : Rows H' key xs := fun x hx => by
  obtain ⟨t, e, g⟩ := h x hx
  exact ⟨t, e, s _ _ g⟩
def sp_kth (K : PySem.W.Frag) : Sp := fun vs H Q _ => ∃ (a : Addr) (xs : List V) (key : V → List Int) (k : Nat), vs = [.ref a, .int k] ∧ (SqT K H a xs ∨ SqL K H a xs) ∧ Rows H key xs ∧ 1 ≤ k ∧ k ≤ xs.length ∧
  ∀ v H', v ∈ xs → IsKth key xs k v → Same H H' → Q v H'
theorem ok_kth (T : Txt K mg) {k : Nat} : FnOk P w K mg base CX0 (k + 1) T.f_kth T.fd_kth ["things", "k"] (sp_kth K) := by
  refine T.F_kth.ok sc_kth (fun vs H Q E h => ?_) (fun cdv A outer s H vs Q E hr h => ?_)
  · obtain ⟨a, xs, key, k, rfl, _⟩ := h
    rfl
  obtain ⟨a, xs, key, k, rfl, hS, hR, k1, k2, q⟩ := h
  refine ⟨_, (pss_cons (ps_set (i := 2) sc_kth.nd rfl (.inl rfl) (pe_callBK (cr_sortTR hr) (by rfl) T.m_sorted (by decide +kernel) (pa_cons (pv 0) pa_nil) (pk_cons pe_bl pk_nil)))
      (pss_one (ps_ret (pe_ifExp (pt_chain op_le op_le pe_int (pv 1) (pe_callB call_len_seq (by rfl) T.m_len (by decide +kernel) (pa_cons (pv 2) pa_nil))) (pe_ix ix_list (pv 2) (pe_op op_sub (pv 1) pe_int) (fun _ _ => rfl)) (pe_tup pa_nil))))), ?_⟩
  refine ⟨_, rfl, a, xs, key, rfl, rfl, hS, hR, fun ys p hp hs np => ?_⟩
  have hl := hp.length_eq
  refine ⟨_, rfl, _, _, rfl, rfl, _, rfl, ?_⟩
  have c1 : decide ((1 : Int) ≤ (k : Int)) = true := decide_eq_true (by omega)
  rw [c1]
  refine iteT ⟨_, rfl, p, ys, rfl, .inl (SqL.of upd_same), _, _, rfl, rfl, _, rfl, ?_⟩
  have c2 : decide ((k : Int) ≤ (ys.length : Int)) = true := decide_eq_true (by omega)
  rw [c2]
  have e1 : (k : Int) - 1 = ((k - 1 : Nat) : Int) := by omega
  have hk : k - 1 < ys.length := by omega
  refine iteT ⟨_, rfl, _, rfl, _, _, rfl, rfl, p, ys, _, ys[k - 1], rfl, rfl, SqL.of upd_same, ?_, ?_⟩
  · rw [e1]
    exact atI_nat (List.getElem?_eq_getElem hk)
  · have r := kth_of_sorted (key := key) hp hs (List.getElem?_eq_getElem hk)
    rw [show k - 1 + 1 = k by omega] at r
    exact q _ _ (hp.mem_iff.mp (List.getElem_mem hk)) r (same_new np)
end

end Z

namespace Z
open PySem PySem.Spec PyProof.Rows L2 Lw

section
variable {P : Program} {w : World} {K : PySem.W.Frag} {mg : Str → Option Value} {base : Heap}
/-- none, or a note -/
def Sm (ns : List Int) : Prop := ns = [] ∨ ∃ x y z : Int, ns = [x, y, z] ∧ x.natAbs < 10 ^ 62 ∧ y.natAbs < 10 ^ 62 ∧ z.natAbs < 10 ^ 62
def intOf : V → Option Int
  | .int i => some i
  | _ => none
def keyH (H : Hp) : V → List Int
  | .ref t => match H t with
    | some (.tup ys) => ys.filterMap intOf
    | _ => []
  | _ => []
theorem ints_back : ∀ ns : List Int, (ns.map V.int).filterMap intOf = ns
  | [] => rfl
  | n :: ns => by
    rw [List.map_cons, List.filterMap_cons]
    show n :: _ = _
    rw [ints_back ns]
theorem keyH_at {H : Hp} {t : Addr} {ns : List Int} (h : H t = some (.tup (ns.map V.int))) : keyH H (.ref t) = ns := by
  show (match H t with | some (.tup ys) => ys.filterMap intOf | _ => []) = ns
  rw [h]
  exact ints_back ns
/-- a tuple of a note's ints, or none -/
def Nk (H : Hp) (v : V) (ns : List Int) : Prop := ∃ t, v = .ref t ∧ H t = some (.tup (ns.map V.int)) ∧ Sm ns
theorem Nk.same {H H' : Hp} {v : V} {ns : List Int} (h : Nk H v ns) (s : Same H H') : Nk H' v ns := by
  obtain ⟨t, e, g, m⟩ := h
  exact ⟨t, e, s _ _ g, m⟩
theorem Nk.key {H : Hp} {v : V} {ns : List Int} (h : Nk H v ns) : keyH H v = ns := by
  obtain ⟨t, e, g, _⟩ := h
  subst e
  exact keyH_at g
/-- how a choice with parts is written -/
inductive Wd (b : Addr) (l k : Nat) : List V → Prop
  | kth : Wd b l k [.str "kth", .int k, .ref b]
  | top : k = 1 → Wd b l k [.str "greatest", .ref b]
  | low : k = l → Wd b l k [.str "least", .ref b]
/-- a choice, and the key that it chooses -/
inductive Pick (H : Hp) (kvs : List (Key × V)) (fs : List V) : Nat → V → List Int → Prop
  | non {n : Nat} {a : Addr} : H a = some (.tup [.str "none"]) → Pick H kvs fs n (.ref a) []
  | cell {n : Nat} {a : Addr} {z : Str} {v : V} {ns : List Int} : H a = some (.tup [.str "cell", .str z]) → valV kvs (Sum.inr z) = some v → Nk H v ns → Pick H kvs fs n (.ref a) ns
  | came {n : Nat} {a : Addr} {i : Nat} {v : V} {ns : List Int} : H a = some (.tup [.str "came", .int i]) → fs[i]? = some v → Nk H v ns → Pick H kvs fs n (.ref a) ns
  | node {n : Nat} {a b : Addr} {us row : List V} {kk : List (List Int)} {k : Nat} {ns : List Int} : H a = some (.tup row) → Wd b us.length k row → H b = some (.tup us) → kk.length = us.length →
      (∀ (i : Nat) (u : V) (m : List Int), us[i]? = some u → kk[i]? = some m → Pick H kvs fs n u m) → 1 ≤ k → k ≤ us.length → us.length ≤ 100 → IsKth id kk k ns → Pick H kvs fs (n + 1) (.ref a) ns
theorem Pick.same {H H' : Hp} {kvs : List (Key × V)} {fs : List V} (s : Same H H') : ∀ {n : Nat} {v : V} {ns : List Int}, Pick H kvs fs n v ns → Pick H' kvs fs n v ns := by
  intro n v ns h
  induction h with
  | non e => exact .non (s _ _ e)
  | cell e g m => exact .cell (s _ _ e) g (m.same s)
  | came e g m => exact .came (s _ _ e) g (m.same s)
  | node e wd eb l _ h1 h2 h3 h4 ih => exact .node (s _ _ e) wd (s _ _ eb) l (fun i u m x y => ih i u m x y) h1 h2 h3 h4
theorem kth_keys {α : Type} {key : α → List Int} {xs : List α} {k : Nat} {v : α} (h : IsKth key xs k v) : IsKth id (xs.map key) k (key v) := by
  have up : above id (xs.map key) (key v) = above key xs v := by
    unfold above
    rw [List.filter_map, List.length_map]
    rfl
  have dn : below id (xs.map key) (key v) = below key xs v := by
    unfold below
    rw [List.filter_map, List.length_map]
    rfl
  refine ⟨?_, ?_⟩
  · rw [up]
    exact h.up
  · rw [dn, List.length_map]
    exact h.dn
def sp_parts : Sp := fun vs H Q _ => ∃ (a b : Addr) (l k : Nat) (row : List V), vs = [.ref a] ∧ H a = some (.tup row) ∧ Wd b l k row ∧ ∀ H', Same H H' → Q (.ref b) H'
theorem ok_parts (T : Txt K mg) {k : Nat} : FnOk P w K mg base CX0 (k + 1) T.f_parts T.fd_parts ["choice"] sp_parts := by
  refine T.F_parts.ok sc_parts (fun vs H Q E h => ?_) (fun cdv A outer s H vs Q E hr h => ?_)
  · obtain ⟨a, b, l, k, row, rfl, _⟩ := h
    rfl
  obtain ⟨a, b, l, k, row, rfl, ha, wd, q⟩ := h
  refine ⟨_, (pss_one (ps_ret (pe_ifExp (pt_cmpR op_in_seq (pe_ix ix_tup (pv 0) pe_int (fun _ _ => rfl)) (pe_tup (pa_cons pe_str (pa_cons pe_str (pa_cons pe_str pa_nil)))) (by rfl)) (pe_ix ix_tup (pv 0) (pe_un un_neg pe_int) (fun _ _ => rfl)) (pe_tup pa_nil)))), ?_⟩
  cases wd with
  | kth =>
    refine ⟨_, rfl, a, _, 0, _, rfl, rfl, SqT.of ha, rfl, (by show 3 ≤ sizeLine; decide), fun p np => ?_⟩
    have s1 := same_new (o := .tup [.str "kth", .str "greatest", .str "least"]) np
    refine ⟨p, _, rfl, .inr (SqT.of upd_same), rfl, rfl, _, rfl, ite2 (fun _ => ?_) (fun c => absurd c (by decide +kernel))⟩
    exact ⟨_, rfl, _, rfl, a, _, -1, .ref b, rfl, rfl, SqT.of (s1 _ _ ha), rfl, q _ s1⟩
  | top _ =>
    refine ⟨_, rfl, a, _, 0, _, rfl, rfl, SqT.of ha, rfl, (by show 3 ≤ sizeLine; decide), fun p np => ?_⟩
    have s1 := same_new (o := .tup [.str "kth", .str "greatest", .str "least"]) np
    refine ⟨p, _, rfl, .inr (SqT.of upd_same), rfl, rfl, _, rfl, ite2 (fun _ => ?_) (fun c => absurd c (by decide +kernel))⟩
    exact ⟨_, rfl, _, rfl, a, _, -1, .ref b, rfl, rfl, SqT.of (s1 _ _ ha), rfl, q _ s1⟩
  | low _ =>
    refine ⟨_, rfl, a, _, 0, _, rfl, rfl, SqT.of ha, rfl, (by show 3 ≤ sizeLine; decide), fun p np => ?_⟩
    have s1 := same_new (o := .tup [.str "kth", .str "greatest", .str "least"]) np
    refine ⟨p, _, rfl, .inr (SqT.of upd_same), rfl, rfl, _, rfl, ite2 (fun _ => ?_) (fun c => absurd c (by decide +kernel))⟩
    exact ⟨_, rfl, _, rfl, a, _, -1, .ref b, rfl, rfl, SqT.of (s1 _ _ ha), rfl, q _ s1⟩
def sp_rank : Sp := fun vs H Q _ => ∃ (a b : Addr) (k : Nat) (row us : List V), vs = [.ref a] ∧ H a = some (.tup row) ∧ Wd b us.length k row ∧ H b = some (.tup us) ∧ Q (.int k) H
theorem ok_rank (T : Txt K mg) {k : Nat} : FnOk P w K mg base CX0 (k + 1) T.f_rank T.fd_rank ["choice"] sp_rank := by
  refine T.F_rank.ok sc_rank (fun vs H Q E h => ?_) (fun cdv A outer s H vs Q E hr h => ?_)
  · obtain ⟨a, b, k, row, us, rfl, _⟩ := h
    rfl
  obtain ⟨a, b, k, row, us, rfl, ha, wd, hb, q⟩ := h
  refine ⟨_, (pss_cons (ps_if (pt_cmpR op_eq (pe_ix ix_tup (pv 0) pe_int (fun _ _ => rfl)) pe_str (nomark _)) (pss_one (ps_ret pe_int)) pss_nil)
      (pss_one (ps_ret (pe_ifExp (pt_cmpR op_eq (pe_ix ix_tup (pv 0) pe_int (fun _ _ => rfl)) pe_str (nomark _)) (pe_ix ix_tup (pv 0) pe_int (fun _ _ => rfl)) (pe_callB call_len_seq (by rfl) T.m_len (by decide +kernel) (pa_cons (pe_ix ix_tup (pv 0) pe_int (fun _ _ => rfl)) pa_nil)))))), ?_⟩
  cases wd with
  | kth =>
    refine ⟨_, rfl, a, _, 0, _, rfl, rfl, SqT.of ha, rfl, rfl, _, rfl, ite2 (fun c => absurd c (by decide +kernel)) (fun _ => ?_)⟩
    refine ⟨_, rfl, a, _, 0, _, rfl, rfl, SqT.of ha, rfl, rfl, _, rfl, ite2 (fun _ => ?_) (fun c => absurd c (by decide +kernel))⟩
    exact ⟨_, rfl, a, _, 1, _, rfl, rfl, SqT.of ha, rfl, q⟩
  | top e =>
    subst e
    refine ⟨_, rfl, a, _, 0, _, rfl, rfl, SqT.of ha, rfl, rfl, _, rfl, ite2 (fun c => ?_) (fun c => absurd c (by decide +kernel))⟩
    exact q
  | low e =>
    subst e
    refine ⟨_, rfl, a, _, 0, _, rfl, rfl, SqT.of ha, rfl, rfl, _, rfl, ite2 (fun c => absurd c (by decide +kernel)) (fun _ => ?_)⟩
    refine ⟨_, rfl, a, _, 0, _, rfl, rfl, SqT.of ha, rfl, rfl, _, rfl, ite2 (fun c => absurd c (by decide +kernel)) (fun _ => ?_)⟩
    exact ⟨_, rfl, a, _, 1, _, rfl, rfl, SqT.of ha, rfl, b, us, rfl, .inr (SqT.of hb), q⟩
def sp_picked (n : Nat) : Sp := fun vs H Q _ => ∃ (v : V) (kd fr e0 : Addr) (kvs : List (Key × V)) (fs : List V) (ns : List Int), vs = [v, .ref kd, .ref fr, .ref e0] ∧ H kd = some (.dK kvs) ∧ H fr = some (.tup fs) ∧ H e0 = some (.tup []) ∧ Pick H kvs fs n v ns ∧
  ∀ u H', Nk H' u ns → Same H H' → Q u H'
theorem Wd.word {b : Addr} {l k : Nat} {row : List V} (h : Wd b l k row) : ∃ z r, row = V.str z :: r ∧ decide (V.str z = V.str "none") = false ∧ decide (V.str z = V.str "cell") = false ∧ decide (V.str z = V.str "came") = false := by
  cases h with
  | kth => exact ⟨_, _, rfl, by decide +kernel, by decide +kernel, by decide +kernel⟩
  | top _ => exact ⟨_, _, rfl, by decide +kernel, by decide +kernel, by decide +kernel⟩
  | low _ => exact ⟨_, _, rfl, by decide +kernel, by decide +kernel, by decide +kernel⟩
theorem Nk.at {H : Hp} {v : V} {ns : List Int} {p : Addr} {xs : List V} {o : HO} (h : Nk H v ns) (e : H p = some (.lst xs)) : Nk (upd H p o) v ns := by
  obtain ⟨t, e1, g, m⟩ := h
  have nt : t ≠ p := fun z => by
    rw [z, e] at g
    cases g
  exact ⟨t, e1, by rw [upd_ne nt]; exact g, m⟩
/-- one more in a row that is read along -/
theorem row_step {H1 H2 H3 : Hp} {D1 : Addr} {acc : List V} {kk : List (List Int)} {j : Nat} {u : V} {m : List Int} (n1 : H1 D1 = none) (s2 : Same H1 H2) (s3 : Same H2 H3) (ea : H2 D1 = some (.lst acc)) (la : acc.length = j)
    (hacc : ∀ (i : Nat) (u : V), acc[i]? = some u → ∃ m, kk[i]? = some m ∧ Nk H2 u m) (hj : j ≤ 1000) (hm : kk[j]? = some m) (hu : Nk H3 u m) :
    ∃ acc, H3 D1 = some (.lst acc) ∧ acc.length < sizeLine ∧ Same H1 (upd H3 D1 (.lst (acc ++ [u]))) ∧ ∃ acc', (upd H3 D1 (.lst (acc ++ [u]))) D1 = some (.lst acc') ∧ acc'.length = j + 1 ∧ ∀ (i : Nat) (v : V), acc'[i]? = some v → ∃ m, kk[i]? = some m ∧ Nk (upd H3 D1 (.lst (acc ++ [u]))) v m := by
  have e3 := s3 _ _ ea
  refine ⟨acc, e3, Nat.lt_of_le_of_lt (show acc.length ≤ 1000 by omega) (by decide), ?_, acc ++ [u], upd_same, by rw [List.length_append, la]; rfl, ?_⟩
  · intro b o e
    have nb : b ≠ D1 := fun z => by
      rw [z, n1] at e
      cases e
    rw [upd_ne nb]
    exact s3 _ _ (s2 _ _ e)
  · intro i v h
    by_cases hi : i < acc.length
    · rw [List.getElem?_append_left hi] at h
      obtain ⟨m', h1, h2⟩ := hacc i v h
      exact ⟨m', h1, (h2.same s3).at e3⟩
    · rw [List.getElem?_append_right (by omega)] at h
      have e0 : i - acc.length = 0 := by
        have := (List.getElem?_eq_some_iff.mp h).1
        rw [List.length_singleton] at this
        omega
      rw [e0] at h
      have ev : u = v := Option.some.inj h
      have ei : i = j := by omega
      subst ev ei
      exact ⟨m, hm, hu.at e3⟩
theorem row_keys {H : Hp} {acc : List V} {kk : List (List Int)} (hl : kk.length = acc.length) (hacc : ∀ (i : Nat) (u : V), acc[i]? = some u → ∃ m, kk[i]? = some m ∧ Nk H u m) : Rows H (keyH H) acc ∧ acc.map (keyH H) = kk := by
  refine ⟨fun x hx => ?_, ?_⟩
  · obtain ⟨i, hi⟩ := List.getElem?_of_mem hx
    obtain ⟨m, _, hm⟩ := hacc i x hi
    have e := hm.key
    obtain ⟨t, e1, g, _⟩ := hm
    exact ⟨t, e1, by rw [e]; exact g⟩
  · refine List.ext_getElem? fun i => ?_
    rw [List.getElem?_map]
    by_cases hi : i < acc.length
    · obtain ⟨m, h1, h2⟩ := hacc i acc[i] (List.getElem?_eq_getElem hi)
      rw [List.getElem?_eq_getElem hi, h1]
      exact congrArg some h2.key
    · rw [List.getElem?_eq_none (by omega), List.getElem?_eq_none (by omega)]
      rfl
theorem ok_picked (T : Txt K mg) {k : Nat} : ∀ n : Nat, FnOk P w K mg base CX0 (k + 2 + n) T.f_picked T.fd_picked ["choice", "held", "came", "none"] (sp_picked n) := by
  intro n
  induction n with
  | zero =>
    have G_picked := FnOk.never (P := P) (w := w) (K := K) (mg := mg) (base := base) (k := k + 1 + 0) (f := T.f_picked) (fd := T.fd_picked) (ps := ["choice", "held", "came", "none"])
    have G_parts := (ok_parts (P := P) (w := w) (base := base) T (k := k)).mono (show k + 1 ≤ k + 1 + 0 by omega)
    have G_rank := (ok_rank (P := P) (w := w) (base := base) T (k := k)).mono (show k + 1 ≤ k + 1 + 0 by omega)
    have G_kth := (ok_kth (P := P) (w := w) (base := base) T (k := k)).mono (show k + 1 ≤ k + 1 + 0 by omega)
    refine T.F_picked.ok (k := k + 1 + 0) sc_picked (fun vs H Q E h => ?_) (fun cdv A outer s H vs Q E hr h => ?_)
    · obtain ⟨v, kd, fr, e0, kvs, fs, ns, rfl, _⟩ := h
      rfl
    obtain ⟨v, kd, fr, e0, kvs, fs, ns, rfl, hkd, hfr, he0, hp, q⟩ := h
    refine ⟨_, (pss_cons (ps_set (i := 4) sc_picked.nd rfl (.inl rfl) (pe_ix ix_tup (pv 0) pe_int (fun _ _ => rfl)))
      (pss_cons (ps_if (pt_cmpR op_eq (pv 4) pe_str (nomark _)) (pss_one (ps_ret (pv 3))) pss_nil)
      (pss_cons (ps_if (pt_cmpR op_eq (pv 4) pe_str (nomark _)) (pss_one (ps_ret (pe_dget (units1 hr) (pv 1) (pe_ix ix_tup (pv 0) pe_int (fun _ _ => rfl)) (fun _ _ => rfl)))) pss_nil)
      (pss_cons (ps_if (pt_cmpR op_eq (pv 4) pe_str (nomark _)) (pss_one (ps_ret (pe_ix ix_tup (pv 2) (pe_ix ix_tup (pv 0) pe_int (fun _ _ => rfl)) (fun _ _ => rfl)))) pss_nil)
      (pss_one (ps_ret (pe_call G_kth hr (by rfl) T.g_kth T.k_kth T.b_kth .nil pass0 (pa_cons (pe_lc (own := [("part", 5)]) (g := gName 5) (tt := tYes) rfl sc_picked.nd (pi_tup (pe_call G_parts hr (by rfl) T.g_parts T.k_parts T.b_parts .nil pass0 (pa_cons (pv 0) pa_nil))) (blkOk_by (N := ["choice", "held", "came", "none", "word", "part"]) (sc := defScope s_picked) (by decide +kernel)) (fun _ _ _ _ _ => (pg_name (i := 5) sc_picked.nd rfl (Or.inl rfl))) (fun _ _ _ _ _ => pts_nil) (fun _ _ _ _ _ => (pe_call G_picked hr (by rfl) T.g_picked T.k_picked T.b_picked .nil pass0 (pa_cons (pv 5) (pa_cons (pv 1) (pa_cons (pv 2) (pa_cons (pv 3) pa_nil))))))) (pa_cons (pe_call G_rank hr (by rfl) T.g_rank T.k_rank T.b_rank .nil pass0 (pa_cons (pv 0) pa_nil)) pa_nil))))))))), ?_⟩
    cases hp with
    | @non _ a ha =>
      refine ⟨_, rfl, a, _, 0, _, rfl, rfl, SqT.of ha, rfl, _, rfl, rfl, _, rfl, ite2 (fun _ => ?_) (fun c => absurd c (by decide +kernel))⟩
      exact ⟨_, rfl, q _ _ ⟨e0, rfl, he0, .inl rfl⟩ (Same.refl H)⟩
    | @cell _ a z v ns ha hv hn =>
      refine ⟨_, rfl, a, _, 0, _, rfl, rfl, SqT.of ha, rfl, _, rfl, rfl, _, rfl, ite2 (fun c => absurd c (by decide +kernel)) (fun _ => ?_)⟩
      refine ⟨_, rfl, rfl, _, rfl, ite2 (fun _ => ?_) (fun c => absurd c (by decide +kernel))⟩
      exact ⟨_, rfl, _, rfl, a, _, 1, _, rfl, rfl, SqT.of ha, rfl, kd, v, rfl, .inl ⟨kvs, Sum.inr z, .inl hkd, rfl, hv.symm⟩, q _ _ hn (Same.refl H)⟩
    | @came _ a i v ns ha hv hn =>
      refine ⟨_, rfl, a, _, 0, _, rfl, rfl, SqT.of ha, rfl, _, rfl, rfl, _, rfl, ite2 (fun c => absurd c (by decide +kernel)) (fun _ => ?_)⟩
      refine ⟨_, rfl, rfl, _, rfl, ite2 (fun c => absurd c (by decide +kernel)) (fun _ => ?_)⟩
      refine ⟨_, rfl, rfl, _, rfl, ite2 (fun _ => ?_) (fun c => absurd c (by decide +kernel))⟩
      exact ⟨_, rfl, _, rfl, a, _, 1, _, rfl, rfl, SqT.of ha, rfl, fr, fs, (i : Int), v, rfl, rfl, SqT.of hfr, atI_nat hv, q _ _ hn (Same.refl H)⟩
  | succ n ih =>
    have G_picked : FnOk P w K mg base CX0 (k + 1 + (n + 1)) T.f_picked T.fd_picked ["choice", "held", "came", "none"] (sp_picked n) := ih.mono (by omega)
    have G_parts := (ok_parts (P := P) (w := w) (base := base) T (k := k)).mono (show k + 1 ≤ k + 1 + (n + 1) by omega)
    have G_rank := (ok_rank (P := P) (w := w) (base := base) T (k := k)).mono (show k + 1 ≤ k + 1 + (n + 1) by omega)
    have G_kth := (ok_kth (P := P) (w := w) (base := base) T (k := k)).mono (show k + 1 ≤ k + 1 + (n + 1) by omega)
    refine FnOk.mono (j := k + 1 + (n + 1) + 1) ?_ (by omega)
    refine T.F_picked.ok (k := k + 1 + (n + 1)) sc_picked (fun vs H Q E h => ?_) (fun cdv A outer s H vs Q E hr h => ?_)
    · obtain ⟨v, kd, fr, e0, kvs, fs, ns, rfl, _⟩ := h
      rfl
    obtain ⟨v, kd, fr, e0, kvs, fs, ns, rfl, hkd, hfr, he0, hp, q⟩ := h
    refine ⟨_, (pss_cons (ps_set (i := 4) sc_picked.nd rfl (.inl rfl) (pe_ix ix_tup (pv 0) pe_int (fun _ _ => rfl)))
      (pss_cons (ps_if (pt_cmpR op_eq (pv 4) pe_str (nomark _)) (pss_one (ps_ret (pv 3))) pss_nil)
      (pss_cons (ps_if (pt_cmpR op_eq (pv 4) pe_str (nomark _)) (pss_one (ps_ret (pe_dget (units1 hr) (pv 1) (pe_ix ix_tup (pv 0) pe_int (fun _ _ => rfl)) (fun _ _ => rfl)))) pss_nil)
      (pss_cons (ps_if (pt_cmpR op_eq (pv 4) pe_str (nomark _)) (pss_one (ps_ret (pe_ix ix_tup (pv 2) (pe_ix ix_tup (pv 0) pe_int (fun _ _ => rfl)) (fun _ _ => rfl)))) pss_nil)
      (pss_one (ps_ret (pe_call G_kth hr (by rfl) T.g_kth T.k_kth T.b_kth .nil pass0 (pa_cons (pe_lc (own := [("part", 5)]) (g := gName 5) (tt := tYes) rfl sc_picked.nd (pi_tup (pe_call G_parts hr (by rfl) T.g_parts T.k_parts T.b_parts .nil pass0 (pa_cons (pv 0) pa_nil))) (blkOk_by (N := ["choice", "held", "came", "none", "word", "part"]) (sc := defScope s_picked) (by decide +kernel)) (fun _ _ _ _ _ => (pg_name (i := 5) sc_picked.nd rfl (Or.inl rfl))) (fun _ _ _ _ _ => pts_nil) (fun _ _ _ _ _ => (pe_call G_picked hr (by rfl) T.g_picked T.k_picked T.b_picked .nil pass0 (pa_cons (pv 5) (pa_cons (pv 1) (pa_cons (pv 2) (pa_cons (pv 3) pa_nil))))))) (pa_cons (pe_call G_rank hr (by rfl) T.g_rank T.k_rank T.b_rank .nil pass0 (pa_cons (pv 0) pa_nil)) pa_nil))))))))), ?_⟩
    cases hp with
    | @non _ a ha =>
      refine ⟨_, rfl, a, _, 0, _, rfl, rfl, SqT.of ha, rfl, _, rfl, rfl, _, rfl, ite2 (fun _ => ?_) (fun c => absurd c (by decide +kernel))⟩
      exact ⟨_, rfl, q _ _ ⟨e0, rfl, he0, .inl rfl⟩ (Same.refl H)⟩
    | @cell _ a z v ns ha hv hn =>
      refine ⟨_, rfl, a, _, 0, _, rfl, rfl, SqT.of ha, rfl, _, rfl, rfl, _, rfl, ite2 (fun c => absurd c (by decide +kernel)) (fun _ => ?_)⟩
      refine ⟨_, rfl, rfl, _, rfl, ite2 (fun _ => ?_) (fun c => absurd c (by decide +kernel))⟩
      exact ⟨_, rfl, _, rfl, a, _, 1, _, rfl, rfl, SqT.of ha, rfl, kd, v, rfl, .inl ⟨kvs, Sum.inr z, .inl hkd, rfl, hv.symm⟩, q _ _ hn (Same.refl H)⟩
    | @came _ a i v ns ha hv hn =>
      refine ⟨_, rfl, a, _, 0, _, rfl, rfl, SqT.of ha, rfl, _, rfl, rfl, _, rfl, ite2 (fun c => absurd c (by decide +kernel)) (fun _ => ?_)⟩
      refine ⟨_, rfl, rfl, _, rfl, ite2 (fun c => absurd c (by decide +kernel)) (fun _ => ?_)⟩
      refine ⟨_, rfl, rfl, _, rfl, ite2 (fun _ => ?_) (fun c => absurd c (by decide +kernel))⟩
      exact ⟨_, rfl, _, rfl, a, _, 1, _, rfl, rfl, SqT.of ha, rfl, fr, fs, (i : Int), v, rfl, rfl, SqT.of hfr, atI_nat hv, q _ _ hn (Same.refl H)⟩
    | @node _ a b us row kk k ns ha wd hb hl hall k1 k2 u100 hk =>
      obtain ⟨z, r, rfl, hz⟩ := wd.word
      refine ⟨_, rfl, a, _, 0, _, rfl, rfl, SqT.of ha, atI0, _, rfl, rfl, _, rfl, ?_⟩
      rw [hz.1]
      refine iteF ⟨_, rfl, rfl, _, rfl, ?_⟩
      rw [hz.2.1]
      refine iteF ⟨_, rfl, rfl, _, rfl, ?_⟩
      rw [hz.2.2]
      refine iteF ?_
      refine ⟨_, rfl, a, b, us.length, k, _, rfl, ha, wd, fun H1 s1 => ?_⟩
      refine ⟨b, rfl, ⟨us, SqT.of (s1 _ _ hb)⟩, fun D1 n1 => ?_⟩
      refine Lw.lc_tup (xs := us) (fun j H' => Same H1 H' ∧ ∃ acc, H' D1 = some (.lst acc) ∧ acc.length = j ∧ ∀ (i : Nat) (u : V), acc[i]? = some u → ∃ m, kk[i]? = some m ∧ Nk H' u m) ⟨same_new n1, [], upd_same, rfl, by intro i u h; simp at h⟩ ?_ ?_ ?_
      · rintro j H' _ ⟨s2, _⟩
        exact SqT.of (s2 _ _ (s1 _ _ hb))
      · rintro j x H2 hx ⟨s2, acc, ea, la, hacc⟩
        have s12 := s1.trans s2
        have hj := (List.getElem?_eq_some_iff.mp hx).1
        have hm : kk[j]? = some kk[j] := List.getElem?_eq_getElem (by omega)
        refine ⟨rfl, ?_⟩
        dsimp only [tYes]
        refine iteT ?_
        refine ⟨_, rfl, _, rfl, _, rfl, _, rfl, x, kd, fr, e0, kvs, fs, kk[j], rfl, s12 _ _ hkd, s12 _ _ hfr, s12 _ _ he0, (hall j x _ hx hm).same s12, fun u H3 hu s3 => ?_⟩
        exact row_step n1 s2 s3 ea la hacc (by omega) hm hu
      · rintro H2 ⟨s2, acc, ea, la, hacc⟩
        have s12 := s1.trans s2
        obtain ⟨hrows, hkeys⟩ := row_keys (hl.trans la.symm) hacc
        refine ⟨_, rfl, a, b, k, _, us, rfl, s12 _ _ ha, wd, s12 _ _ hb, ?_⟩
        refine ⟨D1, acc, keyH H2, k, rfl, .inr (SqL.of ea), hrows, k1, by omega, fun v H3 hv kv s3 => ?_⟩
        have kv' := kth_keys kv
        rw [hkeys] at kv'
        have e : keyH H2 v = ns := kth_same kv' hk
        refine q v H3 ?_ (s12.trans s3)
        obtain ⟨i, hi⟩ := List.getElem?_of_mem hv
        obtain ⟨m, _, hm⟩ := hacc i v hi
        have e2 : m = ns := hm.key.symm.trans e
        rw [← e2]
        exact hm.same s3
def sp_chosen (n : Nat) : Sp := fun vs H Q _ => ∃ (v : V) (kd fr : Addr) (kvs : List (Key × V)) (fs : List V) (ns : List Int), vs = [v, .ref kd, .ref fr] ∧ H kd = some (.dK kvs) ∧ H fr = some (.tup fs) ∧ Pick H kvs fs n v ns ∧
  ∀ u H', Nk H' u ns → Same H H' → Q u H'
theorem ok_chosen (T : Txt K mg) {k : Nat} (n : Nat) : FnOk P w K mg base CX0 (k + 3 + n) T.f_chosen T.fd_chosen ["choice", "held", "came"] (sp_chosen n) := by
  have G_picked := ok_picked (P := P) (w := w) (base := base) T (k := k) n
  refine FnOk.mono (j := k + 2 + n + 1) ?_ (by omega)
  refine T.F_chosen.ok (k := k + 2 + n) sc_chosen (fun vs H Q E h => ?_) (fun cdv A outer s H vs Q E hr h => ?_)
  · obtain ⟨v, kd, fr, kvs, fs, ns, rfl, _⟩ := h
    rfl
  obtain ⟨v, kd, fr, kvs, fs, ns, rfl, hkd, hfr, hp, q⟩ := h
  refine ⟨_, (pss_one (ps_ret (pe_call G_picked hr (by rfl) T.g_picked T.k_picked T.b_picked .nil pass0 (pa_cons (pv 0) (pa_cons (pv 1) (pa_cons (pv 2) (pa_cons (pe_tup pa_nil) pa_nil))))))), ?_⟩
  refine ⟨_, rfl, _, rfl, _, rfl, (by show 0 ≤ sizeLine; decide), fun e0 n0 => ?_⟩
  have s1 := same_new (o := .tup []) n0
  exact ⟨v, kd, fr, e0, kvs, fs, ns, rfl, s1 _ _ hkd, s1 _ _ hfr, upd_same, hp.same s1, fun u H' hu s2 => q u H' hu (s1.trans s2)⟩
end

end Z

namespace Z
open PySem PySem.Spec PyProof.Rows L2 Lw

section
variable {P : Program} {w : World} {K : PySem.W.Frag} {mg : Str → Option Value} {base : Heap}
/-- all tuples stay -/
def TK (H H' : Hp) : Prop := ∀ b ys, H b = some (.tup ys) → H' b = some (.tup ys)
theorem TK.of_same {H H' : Hp} (s : Same H H') : TK H H' := fun b _ e => s b _ e
theorem TK.of_kp {a : Addr} {n : Nat} {H H' : Hp} (k : Kp a H H') (h : Hd H a n) : TK H H' := fun b _ e => k b _ (hd_tup h e (by intro xs z; cases z)) e
theorem TK.trans {H H1 H2 : Hp} (x : TK H H1) (y : TK H1 H2) : TK H H2 := fun b ys e => y b ys (x b ys e)
theorem TK.at {H : Hp} {p : Addr} {xs : List V} {o : HO} (e : H p = some (.lst xs)) : TK H (upd H p o) := fun b ys g => by
  have nb : b ≠ p := fun z => by
    rw [z, e] at g
    cases g
  rw [upd_ne nb]
  exact g
theorem Nk.tk {H H' : Hp} {v : V} {ns : List Int} (h : Nk H v ns) (s : TK H H') : Nk H' v ns := by
  obtain ⟨t, e, g, m⟩ := h
  exact ⟨t, e, s _ _ g, m⟩
theorem Pick.tk {H H' : Hp} {kvs : List (Key × V)} {fs : List V} (s : TK H H') : ∀ {n : Nat} {v : V} {ns : List Int}, Pick H kvs fs n v ns → Pick H' kvs fs n v ns := by
  intro n v ns h
  induction h with
  | non e => exact .non (s _ _ e)
  | cell e g m => exact .cell (s _ _ e) g (m.tk s)
  | came e g m => exact .came (s _ _ e) g (m.tk s)
  | node e wd eb l _ h1 h2 h3 h4 ih => exact .node (s _ _ e) wd (s _ _ eb) l (fun i u m x y => ih i u m x y) h1 h2 h3 h4
/-- these places hold lists -/
def LL (L : List Addr) (H : Hp) : Prop := ∀ b ∈ L, ∃ xs, H b = some (.lst xs)
theorem LL.same {L : List Addr} {H H' : Hp} (h : LL L H) (s : Same H H') : LL L H' := fun b hb => by
  obtain ⟨xs, e⟩ := h b hb
  exact ⟨xs, s _ _ e⟩
theorem LL.kp {L : List Addr} {a : Addr} {n : Nat} {H H' : Hp} (h : LL L H) (k : Kp a H H') (g : Hd H' a n) : LL L H' := fun b hb => by
  by_cases e : b = a
  · obtain ⟨_, _, _, e2, _⟩ := g
    exact ⟨_, by rw [e]; exact e2⟩
  · obtain ⟨xs, e2⟩ := h b hb
    exact ⟨xs, k _ _ e e2⟩
theorem LL.at {L : List Addr} {H : Hp} {p : Addr} {ys : List V} (h : LL L H) : LL L (upd H p (.lst ys)) := fun b hb => by
  by_cases e : b = p
  · exact ⟨ys, by rw [e, upd_same]⟩
  · obtain ⟨xs, e2⟩ := h b hb
    exact ⟨xs, by rw [upd_ne e]; exact e2⟩
theorem LL.cons {L : List Addr} {H : Hp} {p : Addr} {ys : List V} (h : LL L H) (e : H p = some (.lst ys)) : LL (p :: L) H := fun b hb => by
  rcases List.mem_cons.mp hb with z | z
  · exact ⟨ys, by rw [z]; exact e⟩
  · exact h b z
theorem LL.out {L : List Addr} {H : Hp} {t : Addr} {xs : List V} (h : LL L H) (e : H t = some (.tup xs)) : remL L H t = some (.tup xs) := by
  rw [remL_ne]
  · exact e
  · intro z
    obtain ⟨ys, e2⟩ := h t z
    rw [e] at e2
    cases e2
theorem LL.trk {L : List Addr} {H : Hp} (h : LL L H) : Trk L H := fun b hb z => by
  obtain ⟨xs, e⟩ := h b hb
  rw [e] at z
  cases z
/-- a choice without parts -/
def Leaf (ws : List Str) (c : Nat) (H : Hp) (v : V) : Prop := ∃ t, v = V.ref t ∧ (H t = some (.tup [.str "none"]) ∨ (∃ z ∈ ws, H t = some (.tup [.str "cell", .str z])) ∨ ∃ i : Nat, i < c ∧ H t = some (.tup [.str "came", .int (i : Int)]))
theorem Leaf.tk {ws : List Str} {c : Nat} {H H' : Hp} {v : V} (h : Leaf ws c H v) (s : TK H H') : Leaf ws c H' v := by
  obtain ⟨t, e, g⟩ := h
  refine ⟨t, e, ?_⟩
  rcases g with g | ⟨z, hz, g⟩ | ⟨i, hi, g⟩
  · exact .inl (s _ _ g)
  · exact .inr (.inl ⟨z, hz, s _ _ g⟩)
  · exact .inr (.inr ⟨i, hi, s _ _ g⟩)
def Cx4 (H : Hp) (kvs : List (Key × V)) (fs : List V) (ws : List Str) (c : Nat) : Prop := (∀ z ∈ ws, ∃ v ns, valV kvs (Sum.inr z) = some v ∧ Nk H v ns) ∧ ∀ i : Nat, i < c → ∃ v ns, fs[i]? = some v ∧ Nk H v ns
theorem Cx4.tk {H H' : Hp} {kvs : List (Key × V)} {fs : List V} {ws : List Str} {c : Nat} (h : Cx4 H kvs fs ws c) (s : TK H H') : Cx4 H' kvs fs ws c := ⟨fun z hz => by
  obtain ⟨v, ns, a, b⟩ := h.1 z hz
  exact ⟨v, ns, a, b.tk s⟩, fun i hi => by
  obtain ⟨v, ns, a, b⟩ := h.2 i hi
  exact ⟨v, ns, a, b.tk s⟩⟩
theorem Leaf.pick {ws : List Str} {c : Nat} {H : Hp} {v : V} {kvs : List (Key × V)} {fs : List V} (h : Leaf ws c H v) (x : Cx4 H kvs fs ws c) : ∃ ns, ∀ n, Pick H kvs fs n v ns := by
  obtain ⟨t, e, g⟩ := h
  subst e
  rcases g with g | ⟨z, hz, g⟩ | ⟨i, hi, g⟩
  · exact ⟨[], fun n => .non g⟩
  · obtain ⟨u, ns, a, b⟩ := x.1 z hz
    exact ⟨ns, fun n => .cell g a b⟩
  · obtain ⟨u, ns, a, b⟩ := x.2 i hi
    exact ⟨ns, fun n => .came g a b⟩
theorem bd_word {n : Nat} {z : Str} (h : z = "none" ∨ z = "cell" ∨ z = "came" ∨ z = "kth" ∨ z = "greatest" ∨ z = "least") : Bd n 8 (.str z) := by
  have k : (∀ x ∈ z.cps.toList, 97 ≤ x ∧ x ≤ 122) ∧ z.length ≤ 8 := by
    rcases h with e | e | e | e | e | e <;> subst e <;> exact ⟨by decide +kernel, by decide +kernel⟩
  exact bd_str k.1 k.2
theorem ba_one {n m t : Nat} {d : PyData} (h : Bd n m d) (ht : m + 1 ≤ t) : BA n t [d] := (BA.one h).mono (Nat.le_refl _) ht
theorem Leaf.d {ws : List Str} {c : Nat} {H : Hp} {v : V} {L : List Addr} (h : Leaf ws c H v) (hL : LL L H) (hw : ∀ z ∈ ws, Lt z ∧ z.length ≤ 8) (hc : c ≤ 10) : ∃ d, D true (remL L H) v d ∧ Bd 1 20 d := by
  obtain ⟨t, e, g⟩ := h
  subst e
  rcases g with g | ⟨z, hz, g⟩ | ⟨i, hi, g⟩
  · exact ⟨_, .tup (hL.out g) (.cons (.str _) .nil), (ba_one (t := 20) (bd_word (n := 0) (.inl rfl)) (by decide)).tuple⟩
  · refine ⟨_, .tup (hL.out g) (.cons (.str _) (.cons (.str _) .nil)), BA.tuple (n := 0) (BA.mono (BA.append (ba_one (t := 9) (bd_word (.inr (.inl rfl))) (by decide)) (ba_one (t := 9) (bd_str (hw z hz).1 (hw z hz).2) (by decide))) (Nat.le_refl _) (by decide))⟩
  · refine ⟨_, .tup (hL.out g) (.cons (.str _) (.cons (.int _) .nil)), BA.tuple (n := 0) (BA.mono (BA.append (ba_one (t := 9) (bd_word (.inr (.inr (.inl rfl)))) (by decide)) (ba_one (t := 6) (Bd.small (i := (i : Int)) (by omega)) (by decide))) (Nat.le_refl _) (by decide))⟩
/-- one more leaf -/
theorem leaf_step {ws : List Str} {c : Nat} {H H2 : Hp} {D1 p : Addr} {acc row : List V} {j : Nat} (n1 : H D1 = none) (s2 : Same H H2) (ea : H2 D1 = some (.lst acc)) (la : acc.length = j) (hj : j ≤ 1000) (hacc : ∀ v ∈ acc, Leaf ws c H2 v) (np : H2 p = none)
    (hrow : (∃ z ∈ ws, row = [.str "cell", .str z]) ∨ ∃ i : Nat, i < c ∧ row = [.str "came", .int (i : Int)]) :
    ∃ acc, (upd H2 p (.tup row)) D1 = some (.lst acc) ∧ acc.length < sizeLine ∧ Same H (upd (upd H2 p (.tup row)) D1 (.lst (acc ++ [.ref p]))) ∧
      ∃ acc', (upd (upd H2 p (.tup row)) D1 (.lst (acc ++ [.ref p]))) D1 = some (.lst acc') ∧ acc'.length = j + 1 ∧ ∀ v ∈ acc', Leaf ws c (upd (upd H2 p (.tup row)) D1 (.lst (acc ++ [.ref p]))) v := by
  have s3 := same_new (o := .tup row) np
  have e3 := s3 _ _ ea
  have tk : TK (upd H2 p (.tup row)) (upd (upd H2 p (.tup row)) D1 (.lst (acc ++ [.ref p]))) := TK.at e3
  refine ⟨acc, e3, Nat.lt_of_le_of_lt (show acc.length ≤ 1000 by omega) (by decide), ?_, _, upd_same, by rw [List.length_append, la]; rfl, ?_⟩
  · intro b o e
    have nb : b ≠ D1 := fun z => by
      rw [z, n1] at e
      cases e
    rw [upd_ne nb]
    exact s3 _ _ (s2 _ _ e)
  · intro v hv
    rcases List.mem_append.mp hv with y | y
    · exact ((hacc v y).tk (TK.of_same s3)).tk tk
    · rw [List.mem_singleton.mp y]
      refine Leaf.tk ⟨p, rfl, .inr ?_⟩ tk
      rcases hrow with ⟨z, hz, e⟩ | ⟨i, hi, e⟩
      · exact .inl ⟨z, hz, by rw [e, upd_same]⟩
      · exact .inr ⟨i, hi, by rw [e, upd_same]⟩
theorem kth_exists {α : Type} (key : α → List Int) (xs : List α) {k : Nat} (h : k < xs.length) : ∃ v ∈ xs, IsKth key xs (k + 1) v := by
  let le : α → α → Bool := fun x y => !lex (key x) (key y)
  have p : (xs.mergeSort le).Perm xs := List.mergeSort_perm xs le
  have s : (xs.mergeSort le).Pairwise fun x y => le x y = true := by
    refine List.pairwise_mergeSort ?_ ?_ xs
    · intro a b c h1 h2
      have h1' : lex (key a) (key b) = false := by simpa [le] using h1
      have h2' : lex (key b) (key c) = false := by simpa [le] using h2
      have h3 := lex_tr _ _ _ h2' h1'
      simp [le, h3]
    · intro a b
      cases h1 : lex (key a) (key b) with
      | false => simp [le, h1]
      | true => simp [le, h1, lex_asym _ _ h1]
  have s' : (xs.mergeSort le).Pairwise fun x y => lex (key x) (key y) = false := s.imp fun h => by simpa [le] using h
  have hk : k < (xs.mergeSort le).length := by
    rw [p.length_eq]
    exact h
  exact ⟨_, p.mem_iff.mp (List.getElem_mem hk), kth_of_sorted p s' (List.getElem?_eq_getElem hk)⟩
end

end Z

namespace Z
open PySem PySem.Spec PyProof.Rows L2 Lw

section
variable {P : Program} {w : World} {K : PySem.W.Frag} {mg : Str → Option Value} {base : Heap}
/-- draws, weight of a choice n deep -/
def pb : Nat → Nat
  | 0 => 2
  | n + 1 => 4 + 3 * pb n
def pw : Nat → Nat
  | 0 => 20
  | n + 1 => 3 * pw n + 40
theorem pb_ge : ∀ n, 2 ≤ pb n
  | 0 => Nat.le_refl 2
  | n + 1 => by
    have := pb_ge n
    show 2 ≤ 4 + 3 * pb n
    omega
theorem pw_ge : ∀ n, 20 ≤ pw n
  | 0 => Nat.le_refl 20
  | n + 1 => by
    have := pw_ge n
    show 20 ≤ 3 * pw n + 40
    omega
def sp_pick (n : Nat) : Sp := fun vs H Q _ => ∃ (a nm : Addr) (c m : Nat) (ws : List Str) (L : List Addr) (kvs : List (Key × V)) (fs : List V), vs = [.ref a, .ref nm, .int c, .int n] ∧ Hd H a m ∧ m + pb n ≤ 800000 ∧ H nm = some (.tup (ws.map V.str)) ∧ ws.length ≤ 4 ∧ (∀ z ∈ ws, Lt z ∧ z.length ≤ 8) ∧ c ≤ 2 ∧ a ∈ L ∧ LL L H ∧ Cx4 H kvs fs ws c ∧
  ∀ (v : V) (d : PyData) (ns : List Int) H', D true (remL L H') v d → Bd (1 + 2 * n) (pw n) d → Pick H' kvs fs n v ns → Hd H' a (m + pb n) → Kp a H H' → Q v H'
theorem ok_pick (T : Txt K mg) {k : Nat} : ∀ n : Nat, FnOk P w K mg base CX0 (k + 3 + n) T.f__law_pick T.fd__law_pick ["_law_hand_here", "_law_rooms", "_law_count", "_law_left"] (sp_pick n) := by
  intro n
  induction n with
  | zero =>
    have G__law_pick := FnOk.never (P := P) (w := w) (K := K) (mg := mg) (base := base) (k := k + 2 + 0) (f := T.f__law_pick) (fd := T.fd__law_pick) (ps := ["_law_hand_here", "_law_rooms", "_law_count", "_law_left"])
    have G__law_take := (ok_take (P := P) (w := w) (base := base) T (k := k)).mono (show k + 1 ≤ k + 2 + 0 by omega)
    have G__law_of := (ok_of (P := P) (w := w) (base := base) T (k := k)).mono (show k + 2 ≤ k + 2 + 0 by omega)
    refine FnOk.mono (j := k + 2 + 0 + 1) ?_ (by omega)
    refine T.F__law_pick.ok (k := k + 2 + 0) sc__law_pick (fun vs H Q E h => ?_) (fun cdv A outer s H vs Q E hr h => ?_)
    · obtain ⟨a, nm, c, m, ws, L, kvs, fs, rfl, _⟩ := h
      rfl
    obtain ⟨a, nm, c, m, ws, L, kvs, fs, rfl, ha, hm, hnm, hws, hw, hc, hLa, hL, hx, q⟩ := h
    refine ⟨_, (pss_cons (ps_set (i := 4) sc__law_pick.nd rfl (.inl rfl) (pe_op op_cat (pe_lc (own := [("_law_name", 7)]) (g := gName 7) (tt := tYes) rfl sc__law_pick.nd (pi_tup (pv 1)) (blkOk_by (N := ["_law_hand_here", "_law_rooms", "_law_count", "_law_left", "_law_some", "_law_way", "_law_parts", "_law_name", "_law_number", "_law_turn"]) (sc := defScope s__law_pick) (by decide +kernel)) (fun _ _ _ _ _ => (pg_name (i := 7) sc__law_pick.nd rfl (Or.inl rfl))) (fun _ _ _ _ _ => pts_nil) (fun _ _ _ _ _ => (pe_tup (pa_cons pe_str (pa_cons (pv 7) pa_nil))))) (pe_lc (own := [("_law_number", 8)]) (g := gName 8) (tt := tYes) rfl sc__law_pick.nd (pi_range1 (by rfl) T.m_range (pa_cons (pv 2) pa_nil)) (blkOk_by (N := ["_law_hand_here", "_law_rooms", "_law_count", "_law_left", "_law_some", "_law_way", "_law_parts", "_law_name", "_law_number", "_law_turn"]) (sc := defScope s__law_pick) (by decide +kernel)) (fun _ _ _ _ _ => (pg_name (i := 8) sc__law_pick.nd rfl (Or.inl rfl))) (fun _ _ _ _ _ => pts_nil) (fun _ _ _ _ _ => (pe_tup (pa_cons pe_str (pa_cons (pv 8) pa_nil)))))))
      (pss_cons (ps_set (i := 5) sc__law_pick.nd rfl (.inl rfl) (pe_ifExp (pt_cmpR op_gt (pv 3) pe_int (nomark _)) (pe_call G__law_take hr (by rfl) T.g__law_take T.k__law_take T.b__law_take .nil pass0 (pa_cons (pv 0) (pa_cons pe_int pa_nil))) pe_int))
      (pss_cons (ps_if (pt_cmpR op_lt (pv 5) pe_int (nomark _)) (pss_one (ps_ret (pe_call G__law_of hr (by rfl) T.g__law_of T.k__law_of T.b__law_of .nil pass0 (pa_cons (pv 0) (pa_cons (pe_op op_cat (pe_op op_cat (pv 4) (pv 4)) (pe_lst (pa_cons (pe_tup (pa_cons pe_str pa_nil)) pa_nil))) pa_nil))))) pss_nil)
      (pss_cons (ps_set (i := 6) sc__law_pick.nd rfl (.inl rfl) (pe_callTy call_tuple_of (by rfl) T.m_tuple (by decide +kernel) (pa_cons (pe_lc (own := [("_law_turn", 9)]) (g := gName 9) (tt := tYes) rfl sc__law_pick.nd (pi_range1 (by rfl) T.m_range (pa_cons (pe_op op_add pe_int (pe_call G__law_take hr (by rfl) T.g__law_take T.k__law_take T.b__law_take .nil pass0 (pa_cons (pv 0) (pa_cons pe_int pa_nil)))) pa_nil)) (blkOk_by (N := ["_law_hand_here", "_law_rooms", "_law_count", "_law_left", "_law_some", "_law_way", "_law_parts", "_law_name", "_law_number", "_law_turn"]) (sc := defScope s__law_pick) (by decide +kernel)) (fun _ _ _ _ _ => (pg_name (i := 9) sc__law_pick.nd rfl (Or.inl rfl))) (fun _ _ _ _ _ => pts_nil) (fun _ _ _ _ _ => (pe_call G__law_pick hr (by rfl) T.g__law_pick T.k__law_pick T.b__law_pick .nil pass0 (pa_cons (pv 0) (pa_cons (pv 1) (pa_cons (pv 2) (pa_cons (pe_op op_sub (pv 3) pe_int) pa_nil))))))) pa_nil)))
      (pss_cons (ps_if (pt_cmpR op_eq (pv 5) pe_int (nomark _)) (pss_one (ps_ret (pe_tup (pa_cons pe_str (pa_cons (pe_op op_add pe_int (pe_call G__law_take hr (by rfl) T.g__law_take T.k__law_take T.b__law_take .nil pass0 (pa_cons (pv 0) (pa_cons (pe_callB call_len_seq (by rfl) T.m_len (by decide +kernel) (pa_cons (pv 6) pa_nil)) pa_nil)))) (pa_cons (pv 6) pa_nil)))))) pss_nil)
      (pss_one (ps_ret (pe_tup (pa_cons (pe_ix ix_list (pe_lst (pa_cons pe_str (pa_cons pe_str pa_nil))) (pe_op op_mod (pv 5) pe_int) (fun _ _ => rfl)) (pa_cons (pv 6) pa_nil)))))))))), ?_⟩
    -- the leaves
    refine ⟨_, rfl, nm, rfl, ⟨_, SqT.of hnm⟩, fun D1 n1 => ?_⟩
    refine Lw.lc_tup (xs := ws.map V.str) (fun j H' => Same H H' ∧ ∃ acc, H' D1 = some (.lst acc) ∧ acc.length = j ∧ ∀ v ∈ acc, Leaf ws c H' v) ⟨same_new n1, [], upd_same, rfl, by intro v hv; cases hv⟩ ?_ ?_ ?_
    · rintro j H' _ ⟨s1, _⟩
      exact SqT.of (s1 _ _ hnm)
    · rintro j x H2 hx ⟨s2, acc, ea, la, hacc⟩
      have hj := (List.getElem?_eq_some_iff.mp hx).1
      rw [List.length_map] at hj
      obtain ⟨z, hz, rfl⟩ := List.mem_map.mp (List.mem_of_getElem? hx)
      refine ⟨rfl, ?_⟩
      dsimp only [tYes]
      refine iteT ?_
      refine ⟨_, rfl, (by show 2 ≤ sizeLine; decide), fun p np => ?_⟩
      exact leaf_step n1 s2 ea la (by omega) hacc np (.inl ⟨z, hz, rfl⟩)
    rintro H1 ⟨s1, acc1, ea1, la1, hacc1⟩
    refine ⟨_, rfl, _, rfl, by omega, by omega, fun D2 n2 => ?_⟩
    refine Lw.lc_range (lo := 0) (n := ((c : Int)).toNat) (fun j H' => Same H1 H' ∧ ∃ acc, H' D2 = some (.lst acc) ∧ acc.length = j ∧ ∀ v ∈ acc, Leaf ws c H' v) ⟨same_new n2, [], upd_same, rfl, by intro v hv; cases hv⟩ ?_ ?_
    · rintro j H2 hj ⟨s2, acc, ea, la, hacc⟩
      refine ⟨rfl, ?_⟩
      dsimp only [tYes]
      refine iteT ?_
      refine ⟨_, rfl, (by show 2 ≤ sizeLine; decide), fun p np => ?_⟩
      exact leaf_step n2 s2 ea la (by omega) hacc np (.inr ⟨j, by omega, by rw [Int.zero_add]⟩)
    rintro H2 ⟨s2, acc2, ea2, la2, hacc2⟩
    rw [List.length_map] at la1
    refine ⟨D1, D2, acc1, acc2, rfl, rfl, s2 _ _ ea1, ea2, Nat.le_trans (show acc1.length + acc2.length ≤ 1000 by omega) (by decide), fun sm nsm => ?_⟩
    have nsa : sm ≠ a := ((ha.same s1).same s2).new nsm
    have s3 := same_new (o := .lst (acc1 ++ acc2)) nsm
    have hls : ∀ v ∈ acc1 ++ acc2, Leaf ws c (upd H2 sm (.lst (acc1 ++ acc2))) v := fun v hv => by
      rcases List.mem_append.mp hv with y | y
      · exact ((hacc1 v y).tk (TK.of_same s2)).tk (TK.of_same s3)
      · exact (hacc2 v y).tk (TK.of_same s3)
    have esm : (upd H2 sm (.lst (acc1 ++ acc2))) sm = some (.lst (acc1 ++ acc2)) := upd_same
    have s03 := s1.trans (s2.trans s3)
    have lls : (acc1 ++ acc2).length ≤ 200 := by
      rw [List.length_append]
      omega
    generalize acc1 ++ acc2 = ls at hls esm lls s3 s03 ⊢
    generalize upd H2 sm (.lst ls) = H3 at hls esm s3 s03 ⊢
    clear s3
    refine ⟨_, rfl, _, _, rfl, rfl, _, rfl, ite2 (fun c => absurd c (by decide)) (fun _ => ?_)⟩
    refine ⟨_, rfl, _, _, rfl, rfl, _, rfl, ite2 (fun _ => ?_) (fun c => absurd c (by decide))⟩
    have ex := esm
    have lx := hls
    obtain ⟨mx, hmx⟩ : ∃ mx, mx = m := ⟨_, rfl⟩
    have gx : Hd H3 a mx := by rw [hmx]; exact ha.same s03
    have kx := Kp.of_same (a := a) s03
    refine ⟨_, rfl, _, rfl, _, rfl, sm, sm, ls, ls, rfl, rfl, ex, ex, Nat.le_trans (show ls.length + ls.length ≤ 1000 by omega) (by decide), fun q1 m1 => ?_⟩
    have t1 := same_new (o := .lst (ls ++ ls)) m1
    refine ⟨(by show 1 ≤ sizeLine; decide), fun q2 m2 => ?_⟩
    have t2 := same_new (o := .tup [.str "none"]) m2
    refine ⟨(by show 1 ≤ sizeLine; decide), fun q3 m3 => ?_⟩
    have t3 := same_new (o := .lst [.ref q2]) m3
    refine ⟨q1, q3, _, _, rfl, rfl, t3 _ _ (t2 _ _ upd_same), upd_same, Nat.le_trans (show (ls ++ ls).length + 1 ≤ 1000 by rw [List.length_append]; omega) (by decide), fun q4 m4 => ?_⟩
    have t4 := same_new (o := .lst ((ls ++ ls) ++ [.ref q2])) m4
    have tA := t1.trans (t2.trans (t3.trans t4))
    refine ⟨a, q4, mx, _, rfl, gx.same tA, by omega, upd_same, (((gx.same t1).same t2).same t3).new m4, (by rw [List.length_append, List.length_singleton]; omega), (by rw [List.length_append, List.length_append, List.length_singleton]; omega), fun v Hb hv gb kb => ?_⟩
    have kk := kx.trans ((Kp.of_same tA).trans kb)
    have tkb := TK.of_kp kb (gx.same tA)
    have lf : Leaf ws c Hb v := by
      rcases List.mem_append.mp hv with y | y
      · have y' : v ∈ ls := by rcases List.mem_append.mp y with z | z <;> exact z
        exact ((lx v y').tk (TK.of_same tA)).tk tkb
      · rw [List.mem_singleton.mp y]
        exact ⟨q2, rfl, .inl (tkb _ _ ((t3.trans t4) _ _ upd_same))⟩
    obtain ⟨ns, hp⟩ := lf.pick (hx.tk (TK.of_kp kk ha))
    obtain ⟨d, hd, bd⟩ := lf.d (hL.kp kk gb) hw (by omega)
    exact q v d ns Hb hd (bd.mono (by omega) (pw_ge _)) (hp _) (gb.mono (by have := pb_ge 0; omega)) kk
  | succ n ih =>
    have G__law_pick : FnOk P w K mg base CX0 (k + 2 + (n + 1)) T.f__law_pick T.fd__law_pick ["_law_hand_here", "_law_rooms", "_law_count", "_law_left"] (sp_pick n) := ih.mono (by omega)
    have G__law_take := (ok_take (P := P) (w := w) (base := base) T (k := k)).mono (show k + 1 ≤ k + 2 + (n + 1) by omega)
    have G__law_of := (ok_of (P := P) (w := w) (base := base) T (k := k)).mono (show k + 2 ≤ k + 2 + (n + 1) by omega)
    refine FnOk.mono (j := k + 2 + (n + 1) + 1) ?_ (by omega)
    refine T.F__law_pick.ok (k := k + 2 + (n + 1)) sc__law_pick (fun vs H Q E h => ?_) (fun cdv A outer s H vs Q E hr h => ?_)
    · obtain ⟨a, nm, c, m, ws, L, kvs, fs, rfl, _⟩ := h
      rfl
    obtain ⟨a, nm, c, m, ws, L, kvs, fs, rfl, ha, hm, hnm, hws, hw, hc, hLa, hL, hx, q⟩ := h
    refine ⟨_, (pss_cons (ps_set (i := 4) sc__law_pick.nd rfl (.inl rfl) (pe_op op_cat (pe_lc (own := [("_law_name", 7)]) (g := gName 7) (tt := tYes) rfl sc__law_pick.nd (pi_tup (pv 1)) (blkOk_by (N := ["_law_hand_here", "_law_rooms", "_law_count", "_law_left", "_law_some", "_law_way", "_law_parts", "_law_name", "_law_number", "_law_turn"]) (sc := defScope s__law_pick) (by decide +kernel)) (fun _ _ _ _ _ => (pg_name (i := 7) sc__law_pick.nd rfl (Or.inl rfl))) (fun _ _ _ _ _ => pts_nil) (fun _ _ _ _ _ => (pe_tup (pa_cons pe_str (pa_cons (pv 7) pa_nil))))) (pe_lc (own := [("_law_number", 8)]) (g := gName 8) (tt := tYes) rfl sc__law_pick.nd (pi_range1 (by rfl) T.m_range (pa_cons (pv 2) pa_nil)) (blkOk_by (N := ["_law_hand_here", "_law_rooms", "_law_count", "_law_left", "_law_some", "_law_way", "_law_parts", "_law_name", "_law_number", "_law_turn"]) (sc := defScope s__law_pick) (by decide +kernel)) (fun _ _ _ _ _ => (pg_name (i := 8) sc__law_pick.nd rfl (Or.inl rfl))) (fun _ _ _ _ _ => pts_nil) (fun _ _ _ _ _ => (pe_tup (pa_cons pe_str (pa_cons (pv 8) pa_nil)))))))
      (pss_cons (ps_set (i := 5) sc__law_pick.nd rfl (.inl rfl) (pe_ifExp (pt_cmpR op_gt (pv 3) pe_int (nomark _)) (pe_call G__law_take hr (by rfl) T.g__law_take T.k__law_take T.b__law_take .nil pass0 (pa_cons (pv 0) (pa_cons pe_int pa_nil))) pe_int))
      (pss_cons (ps_if (pt_cmpR op_lt (pv 5) pe_int (nomark _)) (pss_one (ps_ret (pe_call G__law_of hr (by rfl) T.g__law_of T.k__law_of T.b__law_of .nil pass0 (pa_cons (pv 0) (pa_cons (pe_op op_cat (pe_op op_cat (pv 4) (pv 4)) (pe_lst (pa_cons (pe_tup (pa_cons pe_str pa_nil)) pa_nil))) pa_nil))))) pss_nil)
      (pss_cons (ps_set (i := 6) sc__law_pick.nd rfl (.inl rfl) (pe_callTy call_tuple_of (by rfl) T.m_tuple (by decide +kernel) (pa_cons (pe_lc (own := [("_law_turn", 9)]) (g := gName 9) (tt := tYes) rfl sc__law_pick.nd (pi_range1 (by rfl) T.m_range (pa_cons (pe_op op_add pe_int (pe_call G__law_take hr (by rfl) T.g__law_take T.k__law_take T.b__law_take .nil pass0 (pa_cons (pv 0) (pa_cons pe_int pa_nil)))) pa_nil)) (blkOk_by (N := ["_law_hand_here", "_law_rooms", "_law_count", "_law_left", "_law_some", "_law_way", "_law_parts", "_law_name", "_law_number", "_law_turn"]) (sc := defScope s__law_pick) (by decide +kernel)) (fun _ _ _ _ _ => (pg_name (i := 9) sc__law_pick.nd rfl (Or.inl rfl))) (fun _ _ _ _ _ => pts_nil) (fun _ _ _ _ _ => (pe_call G__law_pick hr (by rfl) T.g__law_pick T.k__law_pick T.b__law_pick .nil pass0 (pa_cons (pv 0) (pa_cons (pv 1) (pa_cons (pv 2) (pa_cons (pe_op op_sub (pv 3) pe_int) pa_nil))))))) pa_nil)))
      (pss_cons (ps_if (pt_cmpR op_eq (pv 5) pe_int (nomark _)) (pss_one (ps_ret (pe_tup (pa_cons pe_str (pa_cons (pe_op op_add pe_int (pe_call G__law_take hr (by rfl) T.g__law_take T.k__law_take T.b__law_take .nil pass0 (pa_cons (pv 0) (pa_cons (pe_callB call_len_seq (by rfl) T.m_len (by decide +kernel) (pa_cons (pv 6) pa_nil)) pa_nil)))) (pa_cons (pv 6) pa_nil)))))) pss_nil)
      (pss_one (ps_ret (pe_tup (pa_cons (pe_ix ix_list (pe_lst (pa_cons pe_str (pa_cons pe_str pa_nil))) (pe_op op_mod (pv 5) pe_int) (fun _ _ => rfl)) (pa_cons (pv 6) pa_nil)))))))))), ?_⟩
    -- the leaves
    refine ⟨_, rfl, nm, rfl, ⟨_, SqT.of hnm⟩, fun D1 n1 => ?_⟩
    refine Lw.lc_tup (xs := ws.map V.str) (fun j H' => Same H H' ∧ ∃ acc, H' D1 = some (.lst acc) ∧ acc.length = j ∧ ∀ v ∈ acc, Leaf ws c H' v) ⟨same_new n1, [], upd_same, rfl, by intro v hv; cases hv⟩ ?_ ?_ ?_
    · rintro j H' _ ⟨s1, _⟩
      exact SqT.of (s1 _ _ hnm)
    · rintro j x H2 hx ⟨s2, acc, ea, la, hacc⟩
      have hj := (List.getElem?_eq_some_iff.mp hx).1
      rw [List.length_map] at hj
      obtain ⟨z, hz, rfl⟩ := List.mem_map.mp (List.mem_of_getElem? hx)
      refine ⟨rfl, ?_⟩
      dsimp only [tYes]
      refine iteT ?_
      refine ⟨_, rfl, (by show 2 ≤ sizeLine; decide), fun p np => ?_⟩
      exact leaf_step n1 s2 ea la (by omega) hacc np (.inl ⟨z, hz, rfl⟩)
    rintro H1 ⟨s1, acc1, ea1, la1, hacc1⟩
    refine ⟨_, rfl, _, rfl, by omega, by omega, fun D2 n2 => ?_⟩
    refine Lw.lc_range (lo := 0) (n := ((c : Int)).toNat) (fun j H' => Same H1 H' ∧ ∃ acc, H' D2 = some (.lst acc) ∧ acc.length = j ∧ ∀ v ∈ acc, Leaf ws c H' v) ⟨same_new n2, [], upd_same, rfl, by intro v hv; cases hv⟩ ?_ ?_
    · rintro j H2 hj ⟨s2, acc, ea, la, hacc⟩
      refine ⟨rfl, ?_⟩
      dsimp only [tYes]
      refine iteT ?_
      refine ⟨_, rfl, (by show 2 ≤ sizeLine; decide), fun p np => ?_⟩
      exact leaf_step n2 s2 ea la (by omega) hacc np (.inr ⟨j, by omega, by rw [Int.zero_add]⟩)
    rintro H2 ⟨s2, acc2, ea2, la2, hacc2⟩
    rw [List.length_map] at la1
    refine ⟨D1, D2, acc1, acc2, rfl, rfl, s2 _ _ ea1, ea2, Nat.le_trans (show acc1.length + acc2.length ≤ 1000 by omega) (by decide), fun sm nsm => ?_⟩
    have nsa : sm ≠ a := ((ha.same s1).same s2).new nsm
    have s3 := same_new (o := .lst (acc1 ++ acc2)) nsm
    have hls : ∀ v ∈ acc1 ++ acc2, Leaf ws c (upd H2 sm (.lst (acc1 ++ acc2))) v := fun v hv => by
      rcases List.mem_append.mp hv with y | y
      · exact ((hacc1 v y).tk (TK.of_same s2)).tk (TK.of_same s3)
      · exact (hacc2 v y).tk (TK.of_same s3)
    have esm : (upd H2 sm (.lst (acc1 ++ acc2))) sm = some (.lst (acc1 ++ acc2)) := upd_same
    have s03 := s1.trans (s2.trans s3)
    have lls : (acc1 ++ acc2).length ≤ 200 := by
      rw [List.length_append]
      omega
    generalize acc1 ++ acc2 = ls at hls esm lls s3 s03 ⊢
    generalize upd H2 sm (.lst ls) = H3 at hls esm s3 s03 ⊢
    clear s3
    have pb1 : pb (n + 1) = 4 + 3 * pb n := rfl
    have pw1 : pw (n + 1) = 3 * pw n + 40 := rfl
    have ha3 := ha.same s03
    refine ⟨_, rfl, _, _, rfl, rfl, _, rfl, ite2 (fun _ => ?_) (fun c => absurd (decide_eq_true (by omega : (0 : Int) < ((n + 1 : Nat) : Int))) c)⟩
    refine ⟨_, rfl, a, m, 7, rfl, ha3, by omega, by decide, by decide, fun way H4 hway g4 k4 => ?_⟩
    have k04 := (Kp.of_same s03).trans k4
    refine ⟨_, rfl, _, _, rfl, rfl, _, rfl, ite2 (fun _ => ?_) (fun _ => ?_)⟩
    · have ex := k4 _ _ nsa esm
      have lx : ∀ v ∈ ls, Leaf ws c H4 v := fun v hv => (hls v hv).tk (TK.of_kp k4 ha3)
      obtain ⟨mx, hmx⟩ : ∃ mx, mx = m + 1 := ⟨_, rfl⟩
      have gx : Hd H4 a mx := by rw [hmx]; exact g4
      have kx := k04
      refine ⟨_, rfl, _, rfl, _, rfl, sm, sm, ls, ls, rfl, rfl, ex, ex, Nat.le_trans (show ls.length + ls.length ≤ 1000 by omega) (by decide), fun q1 m1 => ?_⟩
      have t1 := same_new (o := .lst (ls ++ ls)) m1
      refine ⟨(by show 1 ≤ sizeLine; decide), fun q2 m2 => ?_⟩
      have t2 := same_new (o := .tup [.str "none"]) m2
      refine ⟨(by show 1 ≤ sizeLine; decide), fun q3 m3 => ?_⟩
      have t3 := same_new (o := .lst [.ref q2]) m3
      refine ⟨q1, q3, _, _, rfl, rfl, t3 _ _ (t2 _ _ upd_same), upd_same, Nat.le_trans (show (ls ++ ls).length + 1 ≤ 1000 by rw [List.length_append]; omega) (by decide), fun q4 m4 => ?_⟩
      have t4 := same_new (o := .lst ((ls ++ ls) ++ [.ref q2])) m4
      have tA := t1.trans (t2.trans (t3.trans t4))
      refine ⟨a, q4, mx, _, rfl, gx.same tA, by omega, upd_same, (((gx.same t1).same t2).same t3).new m4, (by rw [List.length_append, List.length_singleton]; omega), (by rw [List.length_append, List.length_append, List.length_singleton]; omega), fun v Hb hv gb kb => ?_⟩
      have kk := kx.trans ((Kp.of_same tA).trans kb)
      have tkb := TK.of_kp kb (gx.same tA)
      have lf : Leaf ws c Hb v := by
        rcases List.mem_append.mp hv with y | y
        · have y' : v ∈ ls := by rcases List.mem_append.mp y with z | z <;> exact z
          exact ((lx v y').tk (TK.of_same tA)).tk tkb
        · rw [List.mem_singleton.mp y]
          exact ⟨q2, rfl, .inl (tkb _ _ ((t3.trans t4) _ _ upd_same))⟩
      obtain ⟨ns, hp⟩ := lf.pick (hx.tk (TK.of_kp kk ha))
      obtain ⟨d, hd, bd⟩ := lf.d (hL.kp kk gb) hw (by omega)
      exact q v d ns Hb hd (bd.mono (by omega) (pw_ge _)) (hp _) (gb.mono (by have := pb_ge (n + 1); omega)) kk
    · refine ⟨_, rfl, a, m + 1, 3, rfl, g4, by omega, by decide, by decide, fun r5 H5 hr5 g5 k5 => ?_⟩
      refine ⟨_, _, rfl, rfl, _, rfl, by omega, by omega, fun D3 n3 => ?_⟩
      have k05 := k04.trans k5
      have nD : D3 ≠ a := g5.new n3
      have nma : nm ≠ a := hd_tup ha hnm (by intro xs z; cases z)
      refine Lw.lc_range (lo := 0) (n := ((1 : Int) + (r5 : Int)).toNat) (fun j H' => Hd H' a (m + 2 + pb n * j) ∧ Kp a H5 H' ∧ LL (D3 :: L) H' ∧ ∃ (acc : List V) (kk : List (List Int)) (ds : List PyData), H' D3 = some (.lst acc) ∧ acc.length = j ∧ kk.length = j ∧ (∀ (i : Nat) (u : V) (mm : List Int), acc[i]? = some u → kk[i]? = some mm → Pick H' kvs fs n u mm) ∧ DA true (remL (D3 :: L) H') acc ds ∧ ∀ d ∈ ds, Bd (1 + 2 * n) (pw n) d) ?_ ?_ ?_
      · exact ⟨(g5.same (same_new n3)).mono (by omega), Kp.of_same (same_new n3), ((hL.kp k05 g5).same (same_new n3)).cons upd_same, [], [], [], upd_same, rfl, rfl, by intro i u mm h; simp at h, .nil, by intro d hd; cases hd⟩
      · rintro j H6 hj ⟨g6, k6, hL6, acc, kk, ds, ea, la, lk, hp, hda, hbd⟩
        have hj2 : j ≤ 2 := by omega
        have mul := Nat.mul_le_mul_left (pb n) hj2
        have k06 := k05.trans k6
        refine ⟨rfl, ?_⟩
        dsimp only [tYes]
        refine iteT ?_
        refine ⟨_, rfl, _, rfl, _, rfl, _, rfl, _, _, rfl, rfl, a, nm, c, _, ws, D3 :: L, kvs, fs, congrArg (fun z => [V.ref a, V.ref nm, V.int c, V.int z]) (by omega : ((n + 1 : Nat) : Int) - 1 = (n : Int)), g6, by omega, k06 _ _ nma hnm, hws, hw, hc, List.mem_cons_of_mem _ hLa, hL6, hx.tk (TK.of_kp k06 ha), fun v d ns H7 hd bd hpk g7 k7 => ?_⟩
        have e7 := k7 _ _ nD ea
        have tk6 := TK.of_kp k7 g6
        have tk7 : TK H7 (upd H7 D3 (.lst (acc ++ [v]))) := TK.at e7
        have up : Same (remL (D3 :: L) H7) (remL (D3 :: L) (upd H7 D3 (.lst (acc ++ [v])))) := remL_in List.mem_cons_self
        refine ⟨acc, e7, Nat.lt_of_le_of_lt (show acc.length ≤ 1000 by omega) (by decide), (g7.at nD).mono (by rw [Nat.mul_succ]; omega), (k6.trans k7).free n3, (hL6.kp k7 g7).at, acc ++ [v], kk ++ [ns], ds ++ [d], upd_same, by rw [List.length_append, la]; rfl, by rw [List.length_append, lk]; rfl, ?_, ((hda.same (k7.remL (List.mem_cons_of_mem _ hLa))).same up).append (.cons (hd.same up) .nil), ?_⟩
        · intro i u mm hu hmm
          by_cases hi : i < acc.length
          · rw [List.getElem?_append_left hi] at hu
            rw [List.getElem?_append_left (by omega)] at hmm
            exact ((hp i u mm hu hmm).tk tk6).tk tk7
          · rw [List.getElem?_append_right (by omega)] at hu
            rw [List.getElem?_append_right (by omega)] at hmm
            have e0 : i - acc.length = 0 := by
              have := (List.getElem?_eq_some_iff.mp hu).1
              rw [List.length_singleton] at this
              omega
            have e1 : i - kk.length = 0 := by omega
            rw [e0] at hu
            rw [e1] at hmm
            have x1 : v = u := Option.some.inj hu
            have x2 : ns = mm := Option.some.inj hmm
            subst x1 x2
            exact hpk.tk tk7
        · intro e he
          rcases List.mem_append.mp he with y | y
          · exact hbd e y
          · rw [List.mem_singleton.mp y]
            exact bd
      · rintro H6 ⟨g6, k6, hL6, acc, kk, ds, ea, la, lk, hp, hda, hbd⟩
        have la' : acc.length = r5 + 1 := by omega
        have lk' : kk.length = acc.length := by omega
        have mul := Nat.mul_le_mul_left (pb n) (show ((1 : Int) + (r5 : Int)).toNat ≤ 3 by omega)
        have ldas := hda.length
        refine ⟨D3, acc, rfl, .inl ⟨SqL.of ea, fun pt npt => ?_⟩⟩
        have t7 := same_new (o := .tup acc) npt
        have ept : (upd H6 pt (.tup acc)) pt = some (.tup acc) := upd_same
        have picks : ∀ (i : Nat) (u : V) (mm : List Int), acc[i]? = some u → kk[i]? = some mm → Pick (upd H6 pt (.tup acc)) kvs fs n u mm := fun i u mm x y => (hp i u mm x y).tk (TK.of_same t7)
        have da7 := (hda.same remL_less).same (same_remL (as := L) t7)
        have g7 : Hd (upd H6 pt (.tup acc)) a (m + 2 + pb n * 3) := (g6.same t7).mono (by omega)
        have k07 := k05.trans (k6.trans (Kp.of_same t7))
        have bds : Bd (2 + 2 * n) (3 * (pw n + 1)) (.tuple ds) := (Bd.tuple (n := 1 + 2 * n) (m := pw n) hbd (Nat.mul_le_mul_right _ (show ds.length ≤ 3 by omega))).mono (by omega) (Nat.le_refl _)
        generalize upd H6 pt (.tup acc) = H7 at ept picks da7 g7 k07 ⊢
        clear t7 hp hda ea g6 k6 hL6 la lk
        have fin2 : ∀ (kq : Nat) (row : List V) (dro : List PyData) (H9 : Hp) (p : Addr), 1 ≤ kq → kq ≤ acc.length → Wd pt acc.length kq row → H9 p = some (.tup row) → TK H7 H9 → DA true (remL L H9) row dro → BA (2 + 2 * n) (pw (n + 1)) dro → Hd H9 a (m + pb (n + 1)) → Kp a H H9 → LL L H9 → Q (.ref p) H9 := by
          intro kq row dro H9 p h1 h2 wd ep tk da ba g9 k9 l9
          obtain ⟨ns, _, hk⟩ := kth_exists id kk (k := kq - 1) (by omega)
          rw [show kq - 1 + 1 = kq by omega] at hk
          exact q (.ref p) (.tuple dro) ns H9 (.tup (l9.out ep) da) (ba.tuple.mono (by omega) (Nat.le_refl _)) (.node ep wd (tk _ _ ept) lk' (fun i u mm x y => (picks i u mm x y).tk tk) h1 h2 (by omega) hk) g9 k9
        refine ⟨_, rfl, rfl, _, rfl, ite2 (fun _ => ?_) (fun _ => ?_)⟩
        · refine ⟨_, rfl, _, rfl, pt, acc, rfl, .inr (SqT.of ept), a, m + 2 + pb n * 3, acc.length, rfl, g7, by omega, by omega, by omega, fun r8 H8 hr8 g8 k8 => ?_⟩
          refine ⟨_, _, rfl, rfl, _, rfl, (by show 3 ≤ sizeLine; decide), fun p np => ?_⟩
          have t9 := same_new (o := .tup [.str "kth", .int (1 + (r8 : Int)), .ref pt]) np
          have tk : TK H7 (upd H8 p (.tup [.str "kth", .int (1 + (r8 : Int)), .ref pt])) := (TK.of_kp k8 g7).trans (TK.of_same t9)
          have k9 := k07.trans (k8.trans (Kp.of_same t9))
          have g9 := g8.same t9
          have l9 : LL L (upd H8 p (.tup [.str "kth", .int (1 + (r8 : Int)), .ref pt])) := hL.kp k9 g9
          have e1 : (1 : Int) + (r8 : Int) = ((r8 + 1 : Nat) : Int) := by omega
          refine fin2 (r8 + 1) [.str "kth", .int ((r8 + 1 : Nat) : Int), .ref pt] [.str "kth", .int ((r8 + 1 : Nat) : Int), .tuple ds] _ p (by omega) (by omega) .kth (upd_same.trans (congrArg (fun z => some (HO.tup [V.str "kth", V.int z, V.ref pt])) e1)) tk ?_ ?_ (g9.mono (by omega)) k9 l9
          · exact .cons (.str _) (.cons (.int _) (.cons (.tup (l9.out (tk _ _ ept)) ((da7.same (k8.remL hLa)).same (same_remL t9))) .nil))
          · exact (BA.append (ba_one (t := 9) (bd_word (.inr (.inr (.inr (.inl rfl))))) (by decide)) (BA.append (ba_one (t := 6) (Bd.small (by omega)) (by decide)) (ba_one bds (Nat.le_refl _)))).mono (Nat.le_refl _) (by omega)
        · refine ⟨(by show 2 ≤ sizeLine; decide), fun p8 n8 => ?_⟩
          have t8 := same_new (o := .lst [.str "greatest", .str "least"]) n8
          obtain ⟨zz, hat, hzz⟩ : ∃ zz, atI ([.str "greatest", .str "least"] : List V) ((way : Int) % 2) = some (V.str zz) ∧ (zz = "greatest" ∨ zz = "least") := by
            have : (way : Int) % 2 = 0 ∨ (way : Int) % 2 = 1 := by omega
            rcases this with e | e <;> rw [e]
            · exact ⟨_, rfl, .inl rfl⟩
            · exact ⟨_, rfl, .inr rfl⟩
          refine ⟨_, rfl, _, _, rfl, rfl, (by show (0 : Int) < 2; decide), p8, _, _, _, rfl, rfl, SqL.of upd_same, hat, _, rfl, (by show 2 ≤ sizeLine; decide), fun p np => ?_⟩
          have t9 := same_new (o := .tup [.str zz, .ref pt]) np
          have t89 := t8.trans t9
          have k9 := k07.trans (Kp.of_same t89)
          have g9 := g7.same t89
          have l9 := hL.kp k9 g9
          have tk := TK.of_same t89
          have da9 : DA true (remL L (upd (upd H7 p8 (.lst [.str "greatest", .str "least"])) p (.tup [.str zz, .ref pt]))) [.str zz, .ref pt] [.str zz, .tuple ds] := .cons (.str _) (.cons (.tup (l9.out (tk _ _ ept)) (da7.same (same_remL t89))) .nil)
          have ba9 : BA (2 + 2 * n) (pw (n + 1)) [.str zz, .tuple ds] := (BA.append (ba_one (t := 9) (bd_word (.inr (.inr (.inr (.inr hzz))))) (by decide)) (ba_one bds (Nat.le_refl _))).mono (Nat.le_refl _) (by omega)
          have gg : Hd (upd (upd H7 p8 (.lst [.str "greatest", .str "least"])) p (.tup [.str zz, .ref pt])) a (m + pb (n + 1)) := g9.mono (by omega)
          rcases hzz with e | e
          · subst e
            exact fin2 1 _ _ _ p (Nat.le_refl 1) (by omega) (.top rfl) upd_same tk da9 ba9 gg k9 l9
          · subst e
            exact fin2 acc.length _ _ _ p (by omega) (Nat.le_refl _) (.low rfl) upd_same tk da9 ba9 gg k9 l9
end

end Z

namespace Z
open PySem PySem.Spec PyProof.Rows L2 Lw

section
theorem bd_note {ns : List Int} (h : Sm ns) : Bd 1 633 (.tuple (ns.map PyData.int)) := by
  rcases h with e | ⟨x, y, z, e, hx, hy, hz⟩
  · subst e
    exact Bd.flat0 (.inr (.inr (.inr (.inr (.inl rfl))))) (by decide) (by decide)
  · subst e
    have e : ([.int x, .int y, .int z] : List PyData) = [.int x] ++ ([.int y] ++ [.int z]) := rfl
    show Bd 1 633 (.tuple [.int x, .int y, .int z])
    rw [e]
    exact BA.tuple (n := 0) ((BA.append (BA.one (Bd.int hx)) (BA.append (BA.one (Bd.int hy)) (BA.one (Bd.int hz)))).mono (Nat.le_refl _) (by decide))
theorem Nk.d {H : Hp} {v : V} {ns : List Int} {L : List Addr} (h : Nk H v ns) (hL : LL L H) : D true (remL L H) v (.tuple (ns.map PyData.int)) ∧ Bd 1 633 (.tuple (ns.map PyData.int)) := by
  obtain ⟨t, e, g, m⟩ := h
  subst e
  exact ⟨.tup (hL.out g) (da_ints ns), bd_note m⟩
theorem bd_kv : ∀ {l : List (PyData × PyData)}, (∀ p ∈ l, Bd 0 8 p.1 ∧ Bd 1 633 p.2) → PyData.leavesShortKv 64 l = true ∧ PyData.showableKv l = true ∧ PyData.depthKv l ≤ 1 ∧ PyData.weightKv l ≤ l.length * 643
  | [], _ => by
    refine ⟨rfl, rfl, ?_, ?_⟩
    · simp only [PyData.depthKv]
      exact Nat.zero_le _
    · simp only [PyData.weightKv]
      exact Nat.zero_le _
  | (x, y) :: l, h => by
    obtain ⟨a, b, c, d⟩ := bd_kv (l := l) fun p hp => h p (List.mem_cons_of_mem _ hp)
    obtain ⟨h1, h2⟩ := h (x, y) List.mem_cons_self
    refine ⟨?_, ?_, ?_, ?_⟩
    · simp only [PyData.leavesShortKv, h1.lf, h2.lf, a, Bool.and_self]
    · simp only [PyData.showableKv, h1.sh, h2.sh, b, Bool.and_self]
    · simp only [PyData.depthKv]
      have := h1.dp
      have := h2.dp
      simp only at *
      omega
    · simp only [PyData.weightKv, List.length_cons]
      have := h1.wt
      have := h2.wt
      simp only at *
      omega
theorem bd_dict {l : List (PyData × PyData)} (h : ∀ p ∈ l, Bd 0 8 p.1 ∧ Bd 1 633 p.2) (hl : l.length ≤ 10) : Bd 2 6430 (.dict l) := by
  obtain ⟨a, b, c, d⟩ := bd_kv h
  exact ⟨by simpa only [PyData.leavesShort] using a, by simpa only [PyData.showable] using b, by simp only [PyData.depth]; omega, by simp only [PyData.weight]; omega⟩
/-- names and notes -/
def KvP (H : Hp) (ws : List Str) (kvs : List (Key × V)) : Prop := (∀ z ∈ ws, (valV kvs (Sum.inr z)).isSome = true) ∧ (∀ kv ∈ kvs, (∃ z ∈ ws, kv.1 = Sum.inr z) ∧ ∃ ns, Nk H kv.2 ns) ∧ kvs.length ≤ 10
theorem KvP.tk {H H' : Hp} {ws : List Str} {kvs : List (Key × V)} (h : KvP H ws kvs) (s : TK H H') : KvP H' ws kvs := ⟨h.1, fun kv hk => by
  obtain ⟨x, ns, hn⟩ := h.2.1 kv hk
  exact ⟨x, ns, hn.tk s⟩, h.2.2⟩
theorem valV_mem {kvs : List (Key × V)} {k : Key} {v : V} (h : valV kvs k = some v) : ∃ kv ∈ kvs, kv.1 = k ∧ kv.2 = v := by
  unfold valV at h
  cases e : kvs.find? fun kv => decide (kv.1 = k) with
  | none =>
    rw [e] at h
    cases h
  | some kv =>
    rw [e] at h
    exact ⟨kv, List.mem_of_find?_eq_some e, of_decide_eq_true (by simpa using List.find?_some e), Option.some.inj h⟩
theorem KvP.get {H : Hp} {ws : List Str} {kvs : List (Key × V)} (h : KvP H ws kvs) {z : Str} (hz : z ∈ ws) : ∃ v ns, valV kvs (Sum.inr z) = some v ∧ Nk H v ns := by
  obtain ⟨v, e⟩ := Option.isSome_iff_exists.mp (h.1 z hz)
  obtain ⟨kv, hk, _, e2⟩ := valV_mem e
  obtain ⟨_, ns, hn⟩ := h.2.1 kv hk
  exact ⟨v, ns, e, e2 ▸ hn⟩
theorem put_mem {kvs : List (Key × V)} {k : Key} {v : V} {kv : Key × V} (h : kv ∈ putK kvs k v) : kv ∈ kvs ∨ kv = (k, v) := by
  unfold putK at h
  split at h
  · obtain ⟨x, hx, e⟩ := List.mem_map.mp h
    split at e
    · rename_i e1
      right
      rw [← e, e1]
    · left
      rw [← e]
      exact hx
  · rcases List.mem_append.mp h with y | y
    · exact .inl y
    · exact .inr (List.mem_singleton.mp y)
theorem put_len (kvs : List (Key × V)) (k : Key) (v : V) : (putK kvs k v).length ≤ kvs.length + 1 := by
  unfold putK
  split
  · rw [List.length_map]
    omega
  · rw [List.length_append, List.length_singleton]
    omega
theorem merge_p {good : Key × V → Prop} : ∀ (more acc : List (Key × V)), (∀ kv ∈ acc, good kv) → (∀ kv ∈ more, good kv) →
    (∀ kv ∈ mergeK acc more, good kv) ∧ (∀ k, ((valV acc k).isSome = true ∨ ∃ kv ∈ more, kv.1 = k) → (valV (mergeK acc more) k).isSome = true) ∧ (mergeK acc more).length ≤ acc.length + more.length
  | [], acc, h1, _ => by
    refine ⟨h1, fun k h => ?_, Nat.le_refl _⟩
    rcases h with y | ⟨kv, hk, _⟩
    · exact y
    · cases hk
  | kv :: more, acc, h1, h2 => by
    have hp : ∀ x ∈ putK acc kv.1 kv.2, good x := fun x hx => by
      rcases put_mem hx with y | y
      · exact h1 x y
      · rw [y]
        exact h2 kv List.mem_cons_self
    obtain ⟨a, b, c⟩ := merge_p more (putK acc kv.1 kv.2) hp fun x hx => h2 x (List.mem_cons_of_mem _ hx)
    have e : mergeK acc (kv :: more) = mergeK (putK acc kv.1 kv.2) more := rfl
    rw [e]
    refine ⟨a, fun k h => b k ?_, ?_⟩
    · by_cases ek : kv.1 = k
      · left
        rw [valV_put, if_pos ek.symm]
        rfl
      · rcases h with y | ⟨x, hx, ex⟩
        · left
          rw [valV_put, if_neg (fun z => ek z.symm)]
          exact y
        · rcases List.mem_cons.mp hx with z | z
          · exact absurd (z ▸ ex) ek
          · exact .inr ⟨x, z, ex⟩
    · have := put_len acc kv.1 kv.2
      rw [List.length_cons]
      omega
theorem KvP.put {H : Hp} {ws : List Str} {kvs : List (Key × V)} (h : KvP H ws kvs) {z : Str} (hz : z ∈ ws) {v : V} {ns : List Int} (hn : Nk H v ns) (hl : kvs.length ≤ 5) : KvP H ws (putK kvs (Sum.inr z) v) := by
  refine ⟨fun y hy => ?_, fun kv hk => ?_, ?_⟩
  · rw [valV_put]
    split
    · rfl
    · exact h.1 y hy
  · rcases put_mem hk with y | y
    · exact h.2.1 kv y
    · rw [y]
      exact ⟨⟨z, hz, rfl⟩, ns, hn⟩
  · have := put_len kvs (Sum.inr z) v
    omega
theorem KvP.d {H : Hp} {ws : List Str} {kvs : List (Key × V)} {L : List Addr} {kd : Addr} (h : KvP H ws kvs) (hL : LL L H) (hw : ∀ z ∈ ws, Lt z ∧ z.length ≤ 8) (e : H kd = some (.dK kvs)) (nl : kd ∉ L) : ∃ d, D true (remL L H) (.ref kd) d ∧ Bd 2 6430 d := by
  obtain ⟨ds, h1, h2⟩ := da_of (H := remL L H) (p := Bd 1 633) (vs := kvs.map (·.2)) fun v hv => by
    obtain ⟨kv, hk, e⟩ := List.mem_map.mp hv
    obtain ⟨_, ns, hn⟩ := h.2.1 kv hk
    rw [← e]
    exact ⟨_, (hn.d hL).1, (hn.d hL).2⟩
  refine ⟨_, .dct (by rw [remL_ne nl]; exact e) h1, bd_dict (fun p hp => ?_) ?_⟩
  · obtain ⟨x1, x2⟩ := List.of_mem_zip hp
    refine ⟨?_, h2 _ x2⟩
    obtain ⟨kv, hk, e⟩ := List.mem_map.mp x1
    obtain ⟨⟨z, hz, ez⟩, _⟩ := h.2.1 kv hk
    rw [← e, ez]
    exact bd_str (hw z hz).1 (hw z hz).2
  · rw [List.length_zip, List.length_map]
    have := h.2.2
    omega
end

end Z

namespace Z
open PySem PySem.Spec PyProof.Rows L2 Lw

section
variable {P : Program} {w : World} {K : PySem.W.Frag} {mg : Str → Option Value} {base : Heap}
/-- tuples of these rows -/
def Tus (H : Hp) (ps : List Addr) (ls : List (List V)) : Prop := Paired (fun p L => H p = some (.tup L)) ps ls
theorem Tus.tk {H H' : Hp} {ps : List Addr} {ls : List (List V)} (h : Tus H ps ls) (s : TK H H') : Tus H' ps ls := L2.Paired.mapP h fun _ _ e => s _ _ e
def sp_lots : Sp := fun vs H Q _ => ∃ (b : Addr) (us : List V) (n : Nat), vs = [.ref b, .int n] ∧ H b = some (.tup us) ∧ us.length ≤ 4 ∧
  ∀ (q : Addr) (ps : List Addr) H', H' q = some (.lst (ps.map V.ref)) → Tus H' ps (lotsN us n) → Same H H' → Q (.ref q) H'
theorem ok_lots (T : Txt K mg) {k : Nat} : FnOk P w K mg base CX0 (k + 1) T.f__law_lots T.fd__law_lots ["_law_row", "_law_size"] sp_lots := by
  refine T.F__law_lots.ok sc__law_lots (fun vs H Q E h => ?_) (fun cdv A outer s H vs Q E hr h => ?_)
  · obtain ⟨b, us, n, rfl, _⟩ := h
    rfl
  obtain ⟨b, us, n, rfl, hb, h4, q⟩ := h
  refine ⟨_, (pss_cons (ps_set (i := 2) sc__law_lots.nd rfl (.inl rfl) (pe_lst (pa_cons (pe_tup pa_nil) pa_nil)))
      (pss_cons (ps_for PassesOwn.never rfl (pi_tup (pv 0)) (pg_name (i := 3) sc__law_lots.nd rfl (.inr rfl)) (pss_one (ps_set (i := 2) sc__law_lots.nd rfl (.inl rfl) (pe_op op_cat (pv 2) (pe_lc (own := [("_law_lot", 4)]) (g := gName 4) (tt := tYes) rfl sc__law_lots.nd (pi_list (pv 2)) (blkOk_by (N := ["_law_row", "_law_size", "_law_found", "_law_part", "_law_lot"]) (sc := defScope s__law_lots) (by decide +kernel)) (fun _ _ _ _ _ => (pg_name (i := 4) sc__law_lots.nd rfl (Or.inl rfl))) (fun _ _ _ _ _ => pts_nil) (fun _ _ _ _ _ => (pe_op op_catU (pv 4) (pe_tup (pa_cons (pv 3) pa_nil)))))))))
      (pss_one (ps_ret (pe_lc (own := [("_law_lot", 4)]) (g := gName 4) rfl sc__law_lots.nd (pi_list (pv 2)) (blkOk_by (N := ["_law_row", "_law_size", "_law_found", "_law_part", "_law_lot"]) (sc := defScope s__law_lots) (by decide +kernel)) (fun _ _ _ _ _ => (pg_name (i := 4) sc__law_lots.nd rfl (Or.inl rfl))) (fun _ _ _ _ _ => (pts_one (pt_cmpR op_eq (pe_callB (call_lenK (K := K)) (by rfl) T.m_len (by decide +kernel) (pa_cons (pv 4) pa_nil)) (pv 1) (nomark _)))) (fun _ _ _ _ _ => (pv 4))))))), ?_⟩
  refine ⟨(by show 0 ≤ sizeLine; decide), fun p0 n0 => ⟨(by show 1 ≤ sizeLine; decide), fun q0 nq => ?_⟩⟩
  have s0 := same_new (o := .tup []) n0
  have s1 := same_new (o := .lst [.ref p0]) nq
  refine ⟨_, rfl, b, rfl, ⟨us, SqT.of ((s0.trans s1) _ _ hb)⟩, for_tup (xs := us) (fun i σ H' => Same H H' ∧ ∃ q1 ps y3, σ = [some (.ref b), some (.int n), some (.ref q1), y3, none] ∧ H' q1 = some (.lst (ps.map V.ref)) ∧ Tus H' ps (lotsF [[]] (us.take i))) ?_ ?_ ?_ ?_⟩
  · refine ⟨s0.trans s1, q0, [p0], _, rfl, upd_same, ?_⟩
    exact .cons (s1 _ _ upd_same) .nil
  · rintro i σ H' _ ⟨s2, _⟩
    exact SqT.of (s2 _ _ hb)
  · rintro i x σ H1 hx ⟨s1, q1, ps, y3, rfl, eq, tu⟩
    have hi := (List.getElem?_eq_some_iff.mp hx).1
    have lp : ps.length ≤ 16 := by
      have e1 := tu.length
      have e2 := lots_length (us.take i) [[]]
      have e3 : (us.take i).length ≤ 4 := by
        rw [List.length_take]
        omega
      rw [e1, e2, List.length_singleton, Nat.one_mul]
      exact Nat.le_trans (Nat.pow_le_pow_right (by decide) e3) (by decide)
    refine ⟨_, rfl, _, rfl, q1, rfl, ⟨_, SqL.of eq⟩, fun D1 n1 => ?_⟩
    refine lc_list (xs := ps.map V.ref) (fun j H' => Same H1 H' ∧ ∃ ps2, H' D1 = some (.lst (ps2.map V.ref)) ∧ Tus H' ps2 (((lotsF [[]] (us.take i)).take j).map (· ++ [x]))) ⟨same_new n1, [], upd_same, .nil⟩ ?_ ?_ ?_
    · rintro j H' _ ⟨s2, _⟩
      exact SqL.of (s2 _ _ eq)
    · rintro j y H2 hy ⟨s2, ps2, ea, tu2⟩
      have hj := (List.getElem?_eq_some_iff.mp hy).1
      rw [List.length_map] at hj
      have hj2 : j < (lotsF [[]] (us.take i)).length := by
        rw [← tu.length]
        exact hj
      have hyp : y = .ref ps[j] := by
        rw [List.getElem?_map, List.getElem?_eq_getElem hj] at hy
        exact (Option.some.inj hy).symm
      subst hyp
      have eL := Lw.Paired.get j tu (List.getElem?_eq_getElem hj) (List.getElem?_eq_getElem hj2)
      have lL : (lotsF [[]] (us.take i))[j].length ≤ 4 := by
        obtain ⟨A, B, hA, sB, e⟩ := (lots_mem _ _ _).mp (List.getElem_mem hj2)
        have := sB.length_le
        rw [List.mem_singleton.mp hA, List.nil_append] at e
        rw [e]
        rw [List.length_take] at this
        omega
      have lp2 := tu2.length
      rw [List.length_map, List.length_take] at lp2
      refine ⟨rfl, ?_⟩
      dsimp only [tYes]
      refine iteT ?_
      refine ⟨_, rfl, _, rfl, (by show 1 ≤ sizeLine; decide), fun p3 n3 => ?_⟩
      have s3 := same_new (o := .tup [x]) n3
      refine ⟨ps[j], p3, _, [x], rfl, rfl, s3 _ _ (s2 _ _ eL), upd_same, Nat.le_trans (show _ ≤ 1000 by rw [List.length_singleton]; omega) (by decide), fun p4 H4 s4 e4 o4 => ?_⟩
      have e5 := s4 _ _ (s3 _ _ ea)
      have tk : TK H4 (upd H4 D1 (.lst (ps2.map V.ref ++ [.ref p4]))) := TK.at e5
      refine ⟨ps2.map V.ref, e5, Nat.lt_of_le_of_lt (show (ps2.map V.ref).length ≤ 1000 by rw [List.length_map]; omega) (by decide), ?_, ps2 ++ [p4], by rw [upd_same, List.map_append]; rfl, ?_⟩
      · intro b o e
        have nb : b ≠ D1 := fun z => by
          rw [z, n1] at e
          cases e
        rw [upd_ne nb]
        exact s4 _ _ (s3 _ _ (s2 _ _ e))
      · rw [List.take_add_one, List.getElem?_eq_getElem hj2, List.map_append]
        exact Lw.Paired.app ((tu2.tk (TK.of_same (s3.trans s4))).tk tk) (.cons (tk _ _ e4) .nil)
    · rintro H2 ⟨s2, ps2, ea, tu2⟩
      rw [List.length_map, tu.length, List.take_length] at tu2
      have l2 := tu2.length
      rw [List.length_map, ← tu.length] at l2
      refine ⟨q1, D1, _, _, rfl, rfl, s2 _ _ eq, ea, Nat.le_trans (show (ps.map V.ref).length + (ps2.map V.ref).length ≤ 1000 by rw [List.length_map, List.length_map]; omega) (by decide), fun q2 n2 => ?_⟩
      have s3 := same_new (o := .lst (ps.map V.ref ++ ps2.map V.ref)) n2
      refine ⟨s1.trans (s2.trans s3), q2, ps ++ ps2, _, rfl, by rw [upd_same, List.map_append], ?_⟩
      have eT : us.take (i + 1) = us.take i ++ [x] := by
        rw [List.take_add_one, hx]
        rfl
      have eF : ∀ (ys : List V) (acc : List (List V)), lotsF acc (ys ++ [x]) = lotsF acc ys ++ (lotsF acc ys).map (· ++ [x]) := by
        intro ys
        induction ys with
        | nil => intro acc; rfl
        | cons y ys ih => intro acc; exact ih _
      rw [eT, eF]
      exact Lw.Paired.app ((tu.tk (TK.of_same s2)).tk (TK.of_same s3)) (tu2.tk (TK.of_same s3))
  · rintro σ H1 ⟨s1, q1, ps, y3, rfl, eq, tu⟩
    rw [List.take_length] at tu
    have lp : ps.length ≤ 16 := by
      have e1 := tu.length
      have e2 := lots_length us [[]]
      rw [e1, e2, List.length_singleton, Nat.one_mul]
      exact Nat.le_trans (Nat.pow_le_pow_right (by decide) h4) (by decide)
    refine ⟨_, rfl, q1, rfl, ⟨_, SqL.of eq⟩, fun D1 n1 => ?_⟩
    refine lc_list (xs := ps.map V.ref) (fun j H' => Same H1 H' ∧ ∃ ps2, ps2.length ≤ j ∧ H' D1 = some (.lst (ps2.map V.ref)) ∧ Tus H' ps2 (((lotsF [[]] us).take j).filter fun L => decide (L.length = n))) ⟨same_new n1, [], Nat.le_refl 0, upd_same, .nil⟩ ?_ ?_ ?_
    · rintro j H' _ ⟨s2, _⟩
      exact SqL.of (s2 _ _ eq)
    · rintro j y H2 hy ⟨s2, ps2, l2, ea, tu2⟩
      have hj := (List.getElem?_eq_some_iff.mp hy).1
      rw [List.length_map] at hj
      have hj2 : j < (lotsF [[]] us).length := by
        rw [← tu.length]
        exact hj
      have hyp : y = .ref ps[j] := by
        rw [List.getElem?_map, List.getElem?_eq_getElem hj] at hy
        exact (Option.some.inj hy).symm
      subst hyp
      have eL := Lw.Paired.get j tu (List.getElem?_eq_getElem hj) (List.getElem?_eq_getElem hj2)
      have eT : (lotsF [[]] us).take (j + 1) = (lotsF [[]] us).take j ++ [(lotsF [[]] us)[j]] := by
        rw [List.take_add_one, List.getElem?_eq_getElem hj2]
        rfl
      refine ⟨rfl, _, rfl, ps[j], _, rfl, .inr (SqT.of (s2 _ _ eL)), _, rfl, rfl, _, rfl, ?_⟩
      refine ite2 (fun c => ?_) (fun c => ?_)
      · have hc : (lotsF [[]] us)[j].length = n := by
          have := of_decide_eq_true c
          injection this with z
          omega
        have tk : TK H2 (upd H2 D1 (.lst (ps2.map V.ref ++ [.ref ps[j]]))) := TK.at ea
        refine ⟨_, rfl, ps2.map V.ref, ea, Nat.lt_of_le_of_lt (show (ps2.map V.ref).length ≤ 1000 by rw [List.length_map]; omega) (by decide), ?_, ps2 ++ [ps[j]], by rw [List.length_append, List.length_singleton]; omega, by rw [upd_same, List.map_append]; rfl, ?_⟩
        · intro b o e
          have nb : b ≠ D1 := fun z => by
            rw [z, n1] at e
            cases e
          rw [upd_ne nb]
          exact s2 _ _ e
        · rw [eT, List.filter_append, List.filter_cons_of_pos (by exact decide_eq_true hc)]
          exact Lw.Paired.app (tu2.tk tk) (.cons (tk _ _ (s2 _ _ eL)) .nil)
      · have hc : ¬ (lotsF [[]] us)[j].length = n := fun z => c (decide_eq_true (by rw [z]))
        refine ⟨s2, ps2, by omega, ea, ?_⟩
        rw [eT, List.filter_append, List.filter_cons_of_neg (by simpa using hc)]
        rw [List.filter_nil, List.append_nil]
        exact tu2
    · rintro H2 ⟨s2, ps2, _, ea, tu2⟩
      rw [List.length_map, tu.length, List.take_length] at tu2
      exact q D1 ps2 H2 ea tu2 (s1.trans s2)
end

end Z

namespace Z
open PySem PySem.Spec PyProof.Rows L2 Lw

section
variable {P : Program} {w : World} {K : PySem.W.Frag} {mg : Str → Option Value} {base : Heap}
def sp_turned : Sp := fun vs H Q _ => ∃ (a b : Addr) (us : List V) (m : Nat), vs = [.ref a, .ref b] ∧ Hd H a m ∧ m + 10 ≤ 800000 ∧ H b = some (.tup us) ∧ us.length ≤ 4 ∧
  ∀ (p : Addr) (zs : List V) H', H' p = some (.tup zs) → zs.Perm us → Hd H' a (m + us.length) → Kp a H H' → Q (.ref p) H'
theorem ok_turned (T : Txt K mg) {k : Nat} : FnOk P w K mg base CX0 (k + 2) T.f__law_turned T.fd__law_turned ["_law_hand_here", "_law_row"] sp_turned := by
  have G__law_take := ok_take (P := P) (w := w) (base := base) T (k := k)
  refine T.F__law_turned.ok (k := k + 1) sc__law_turned (fun vs H Q E h => ?_) (fun cdv A outer s H vs Q E hr h => ?_)
  · obtain ⟨a, b, us, m, rfl, _⟩ := h
    rfl
  obtain ⟨a, b, us, m, rfl, ha, hm, hb, h4, q⟩ := h
  refine ⟨_, (pss_cons (ps_par (i := 2) (j := 3) rfl sc__law_turned.nd rfl rfl (by decide) rfl rfl (pa_cons (pe_callTy call_list_of (by rfl) T.m_list (by decide +kernel) (pa_cons (pv 1) pa_nil)) (pa_cons (pe_lst pa_nil) pa_nil)) (by rfl))
      (pss_cons (ps_while PassesOwn.never (pt_cmpR (op_neL0 hr) (pv 2) (pe_lst pa_nil) (nomark _)) (pss_one (ps_expr (pe_bm PySem.F.plainAttrs_list PySem.F.slot_list_append PySem.F.type_list_append mt_append (pv 3) (pa_cons (pe_bm PySem.F.plainAttrs_list PySem.F.slot_list_pop PySem.F.type_list_pop mt_popAt (pv 2) (pa_cons (pe_call G__law_take hr (by rfl) T.g__law_take T.k__law_take T.b__law_take .nil pass0 (pa_cons (pv 0) (pa_cons (pe_callB call_len_seq (by rfl) T.m_len (by decide +kernel) (pa_cons (pv 2) pa_nil)) pa_nil))) pa_nil)) pa_nil)))))
      (pss_one (ps_ret (pe_callTy call_tuple_of (by rfl) T.m_tuple (by decide +kernel) (pa_cons (pv 3) pa_nil)))))), ?_⟩
  refine ⟨_, rfl, b, us, rfl, .inr (SqT.of hb), fun l nl => ⟨(by show 0 ≤ sizeLine; decide), fun f nf => ?_⟩⟩
  have s1 := same_new (o := .lst us) nl
  have s2 := same_new (o := .lst []) nf
  have nfl : f ≠ l := fun z => by
    rw [z, upd_same] at nf
    cases nf
  have nla : l ≠ a := ha.new nl
  have nfa : f ≠ a := (ha.same s1).new nf
  have hl0 : H l = none := nl
  have hf0 : H f = none := by
    rw [upd_ne nfl] at nf
    exact nf
  refine ⟨_, _, rfl, ?_⟩
  refine while_by (fun σ H' => ∃ (xs zs : List V), σ = [some (.ref a), some (.ref b), some (.ref l), some (.ref f)] ∧ H' l = some (.lst xs) ∧ H' f = some (.lst zs) ∧ (zs ++ xs).Perm us ∧ Hd H' a (m + zs.length) ∧ Kp a H H') (fun σ H' => match H' l with | some (.lst xs) => xs.length | _ => 0) ?_ ?_ ?_
  · refine ⟨us, [], rfl, s2 _ _ upd_same, upd_same, List.Perm.refl _, (ha.same s1).same s2, (Kp.of_same s1).trans (Kp.of_same s2)⟩
  · rintro σ H1 ⟨xs, zs, rfl, el, ef, pm, g1, k1⟩
    have lpm := pm.length_eq
    rw [List.length_append] at lpm
    refine ⟨_, rfl, (by show 0 ≤ sizeLine; decide), fun e0 n0 => ?_⟩
    have s3 := same_new (o := .lst []) n0
    refine ⟨l, e0, xs, rfl, rfl, s3 _ _ el, upd_same, _, rfl, ?_⟩
    dsimp only
    by_cases e1 : xs.length = 0
    · rw [decide_eq_true e1]
      refine iteF ?_
      have ex : xs = [] := List.eq_nil_of_length_eq_zero e1
      rw [ex, List.append_nil] at pm
      refine ⟨_, rfl, f, zs, rfl, .inl ⟨SqL.of (s3 _ _ ef), fun p np => ?_⟩⟩
      have s4 := same_new (o := .tup zs) np
      exact q p zs _ upd_same pm (((g1.same s3).same s4).mono (by omega)) (k1.trans (Kp.of_same (s3.trans s4)))
    · rw [decide_eq_false e1]
      refine iteT ?_
      have ha3 := g1.same s3
      refine ⟨_, rfl, .inl ⟨rfl, _, SqL.of (s3 _ _ ef)⟩, _, rfl, .inl ⟨rfl, _, SqL.of (s3 _ _ el)⟩, _, rfl, _, rfl, l, xs, rfl, .inl (SqL.of (s3 _ _ el)), a, m + zs.length, xs.length, rfl, ha3, by omega, by omega, by omega, fun r H2 hr2 g2 k2 => ?_⟩
      have el2 := k2 _ _ nla (s3 _ _ el)
      have ef2 := k2 _ _ nfa (s3 _ _ ef)
      refine ⟨l, xs, (r : Int), r, xs[r], rfl, rfl, el2, by omega, by omega, ?_, List.getElem?_eq_getElem hr2, ?_⟩
      · exact PyProof.Rows.seqIndex_at (by omega) (by omega)
      refine ⟨f, zs, xs[r], rfl, rfl, by rw [upd_ne nfl]; exact ef2, Nat.lt_of_le_of_lt (show zs.length ≤ 1000 by omega) (by decide), ⟨xs.eraseIdx r, zs ++ [xs[r]], rfl, ?_, upd_same, ?_, ?_, ?_⟩, ?_⟩
      · rw [upd_ne nfl.symm, upd_same]
      · rw [List.append_assoc]
        exact (List.Perm.append_left zs (erase_perm xs r _ (List.getElem?_eq_getElem hr2))).trans pm
      · rw [List.length_append, List.length_singleton]
        exact (g2.at nla).at nfa
      · exact ((k1.trans ((Kp.of_same s3).trans k2)).free hl0).free hf0
      · rw [upd_ne nfl.symm, upd_same, el]
        show (xs.eraseIdx r).length < xs.length
        rw [List.length_eraseIdx_of_lt hr2]
        omega
  · rintro σ H Q Q' h ⟨x, h1, h2, h3⟩
    refine ⟨x, h1, h2, fun p np => ?_⟩
    obtain ⟨u1, u2, u3, v1, v2, v3, v4, b, e, v5⟩ := h3 p np
    exact ⟨u1, u2, u3, v1, v2, v3, v4, b, e, h _ _ v5⟩
end

end Z

namespace Z
open PySem PySem.Spec PyProof.Rows L2 Lw

section
variable {P : Program} {w : World} {K : PySem.W.Frag} {mg : Str → Option Value} {base : Heap}
theorem Pick.up {H : Hp} {kvs : List (Key × V)} {fs : List V} : ∀ {n : Nat} {v : V} {ns : List Int}, Pick H kvs fs n v ns → Pick H kvs fs (n + 1) v ns := by
  intro n v ns h
  induction h with
  | non e => exact .non e
  | cell e g m => exact .cell e g m
  | came e g m => exact .came e g m
  | node e wd eb l _ h1 h2 h3 h4 ih => exact .node e wd eb l (fun i u m x y => ih i u m x y) h1 h2 h3 h4
theorem Pick.mono {H : Hp} {kvs : List (Key × V)} {fs : List V} {n m : Nat} {v : V} {ns : List Int} (h : Pick H kvs fs n v ns) (l : n ≤ m) : Pick H kvs fs m v ns := by
  induction l with
  | refl => exact h
  | step _ ih => exact ih.up
/-- a row of choices, and what they choose -/
def Picks (H : Hp) (kvs : List (Key × V)) (fs : List V) (n : Nat) (us : List V) (kk : List (List Int)) : Prop := Paired (fun u m => Pick H kvs fs n u m) us kk
theorem Picks.tk {H H' : Hp} {kvs : List (Key × V)} {fs : List V} {n : Nat} {us : List V} {kk : List (List Int)} (h : Picks H kvs fs n us kk) (s : TK H H') : Picks H' kvs fs n us kk := L2.Paired.mapP h fun _ _ e => e.tk s
theorem Picks.mono {H : Hp} {kvs : List (Key × V)} {fs : List V} {n m : Nat} {us : List V} {kk : List (List Int)} (h : Picks H kvs fs n us kk) (l : n ≤ m) : Picks H kvs fs m us kk := L2.Paired.mapP h fun _ _ e => e.mono l
theorem Picks.node {H : Hp} {kvs : List (Key × V)} {fs : List V} {n : Nat} {us : List V} {kk : List (List Int)} {a b : Addr} {row : List V} {k : Nat} {ns : List Int} (h : Picks H kvs fs n us kk) (ea : H a = some (.tup row)) (wd : Wd b us.length k row) (eb : H b = some (.tup us)) (h1 : 1 ≤ k) (h2 : k ≤ us.length) (h3 : us.length ≤ 100) (hk : IsKth id kk k ns) : Pick H kvs fs (n + 1) (.ref a) ns :=
  .node ea wd eb h.length.symm (fun i u m x y => Lw.Paired.get i h x y) h1 h2 h3 hk
theorem zip_lot {H : Hp} {kvs : List (Key × V)} {fs : List V} {n : Nat} : ∀ {us : List V} {kk : List (List Int)}, Picks H kvs fs n us kk → (us.zip kk).map (·.1) = us ∧ (us.zip kk).map (·.2) = kk ∧ ∀ z ∈ us.zip kk, Pick H kvs fs n z.1 z.2
  | _, _, .nil => ⟨rfl, rfl, fun z hz => by cases hz⟩
  | _, _, .cons h t => by
    obtain ⟨a, b, c⟩ := zip_lot t
    refine ⟨?_, ?_, fun z hz => ?_⟩
    · rw [List.zip_cons_cons, List.map_cons, a]
    · rw [List.zip_cons_cons, List.map_cons, b]
    · rw [List.zip_cons_cons] at hz
      rcases List.mem_cons.mp hz with e | e
      · rw [e]
        exact h
      · exact c z e
theorem picks_of {H : Hp} {kvs : List (Key × V)} {fs : List V} {n : Nat} : ∀ {zs : List (V × List Int)}, (∀ z ∈ zs, Pick H kvs fs n z.1 z.2) → Picks H kvs fs n (zs.map (·.1)) (zs.map (·.2))
  | [], _ => .nil
  | z :: zs, h => .cons (h z List.mem_cons_self) (picks_of fun y hy => h y (List.mem_cons_of_mem _ hy))
theorem cut_take (xs : List V) (n : Nat) : cutV xs none (some (n : Int)) = xs.take n := by
  unfold cutV
  rw [HT.sIx_none, HT.sIx_nat, List.drop_zero, Nat.sub_zero]
  by_cases h : n ≤ xs.length
  · rw [Nat.min_eq_left h]
  · rw [Nat.min_eq_right (by omega), List.take_length, List.take_of_length_le (by omega)]
theorem cut_drop (xs : List V) (n : Nat) : cutV xs (some (n : Int)) none = xs.drop n := by
  unfold cutV
  rw [HT.sIx_none, HT.sIx_nat]
  by_cases h : n ≤ xs.length
  · rw [Nat.min_eq_left h]
    exact List.take_of_length_le (by rw [List.length_drop]; omega)
  · rw [Nat.min_eq_right (by omega), List.drop_length, List.drop_of_length_le (by omega), List.take_nil]
theorem Picks.dropC {H : Hp} {kvs : List (Key × V)} {fs : List V} {n : Nat} {us : List V} {kk : List (List Int)} (h : Picks H kvs fs n us kk) : Picks H kvs fs n (cutV us (some 5) none) (kk.drop 5) := by
  rw [show cutV us (some 5) none = us.drop 5 from cut_drop us 5]
  exact Lw.Paired.drop 5 h
def sp_by_lots : Sp := fun vs H Q _ => ∃ (b : Addr) (us : List V) (kk : List (List Int)) (k : Nat) (ns : List Int) (kvs : List (Key × V)) (fs : List V), vs = [.ref b, .int k] ∧ H b = some (.tup us) ∧ us.length ≤ 4 ∧ 1 ≤ k ∧ k ≤ us.length ∧ Picks H kvs fs 2 us kk ∧ IsKth id kk k ns ∧
  ∀ v H', Pick H' kvs fs 7 v ns → Same H H' → Q v H'
theorem ok_by_lots (T : Txt K mg) {k : Nat} : FnOk P w K mg base CX0 (k + 2) T.f__law_by_lots T.fd__law_by_lots ["_law_row", "_law_nth"] sp_by_lots := by
  have G__law_lots := ok_lots (P := P) (w := w) (base := base) T (k := k)
  refine T.F__law_by_lots.ok (k := k + 1) sc__law_by_lots (fun vs H Q E h => ?_) (fun cdv A outer s H vs Q E hr h => ?_)
  · obtain ⟨b, us, kk, n, ns, kvs, fs, rfl, _⟩ := h
    rfl
  obtain ⟨b, us, kk, n, ns, kvs, fs, rfl, hb, h4, n1, n2, hp, hk, q⟩ := h
  refine ⟨_, (pss_cons (ps_setLc (i := 2) (own := [("_law_lot", 3)]) (g := gName 3) (tt := tYes) rfl sc__law_by_lots.nd rfl rfl (sw_true rfl rfl rfl (by decide +kernel)) (pi_list (pe_call G__law_lots hr (by rfl) T.g__law_lots T.k__law_lots T.b__law_lots .nil pass0 (pa_cons (pv 0) (pa_cons (pv 1) pa_nil)))) (blkOk_by (N := ["_law_row", "_law_nth", "_law_parts", "_law_lot"]) (sc := defScope s__law_by_lots) (by decide +kernel)) (fun _ _ _ _ _ => (pg_name (i := 3) sc__law_by_lots.nd rfl (Or.inl rfl))) (fun _ _ _ _ _ => pts_nil) (fun _ _ _ _ _ => (pe_tup (pa_cons pe_str (pa_cons (pv 3) pa_nil)))))
      (pss_cons (ps_while PassesOwn.never (pt_cmpR op_gt (pe_callB call_len_seq (by rfl) T.m_len (by decide +kernel) (pa_cons (pv 2) pa_nil)) pe_int (nomark _)) (pss_one (ps_set (i := 2) sc__law_by_lots.nd rfl (.inl rfl) (pe_op op_cat (pe_lst (pa_cons (pe_tup (pa_cons pe_str (pa_cons (pe_callTy call_tuple_of (by rfl) T.m_tuple (by decide +kernel) (pa_cons (pe_slice sl_list (pv 2) po_none (po_some pe_int)) pa_nil)) pa_nil))) pa_nil)) (pe_slice sl_list (pv 2) (po_some pe_int) po_none)))))
      (pss_one (ps_ret (pe_tup (pa_cons pe_str (pa_cons (pe_callTy call_tuple_of (by rfl) T.m_tuple (by decide +kernel) (pa_cons (pv 2) pa_nil)) pa_nil))))))), ?_⟩
  refine ⟨_, rfl, _, rfl, b, us, n, rfl, hb, h4, fun q1 ps H1 e1 tu s1 => ?_⟩
  obtain ⟨z1, z2, z3⟩ := zip_lot hp
  have m1 := lotsN_map (·.1) (us.zip kk) n
  have m2 := lotsN_map (·.2) (us.zip kk) n
  rw [z1] at m1
  rw [z2] at m2
  have l16 : (lotsN (us.zip kk) n).length ≤ 16 := by
    have x := lotsN_length us n
    rw [← m1, List.length_map] at x
    exact Nat.le_trans x (Nat.le_trans (Nat.pow_le_pow_right (by decide) h4) (by decide))
  rw [← m1] at tu
  have lps := tu.length
  rw [List.length_map] at lps
  refine ⟨q1, rfl, ⟨_, SqL.of e1⟩, fun D1 nD => ?_⟩
  refine lc_list (xs := ps.map V.ref) (fun j H' => Same H1 H' ∧ ∃ acc ls, H' D1 = some (.lst acc) ∧ acc.length = j ∧ Picks H' kvs fs 3 acc ls ∧ Paired (fun Z l => IsKth id (List.map (·.2) Z) (List.map (·.2) Z).length l) ((lotsN (us.zip kk) n).take j) ls) ⟨same_new nD, [], [], upd_same, rfl, .nil, .nil⟩ ?_ ?_ ?_
  · rintro j H' _ ⟨s2, _⟩
    exact SqL.of (s2 _ _ e1)
  · rintro j y H2 hy ⟨s2, acc, ls, ea, la, hpk, hls⟩
    have hj := (List.getElem?_eq_some_iff.mp hy).1
    rw [List.length_map] at hj
    have hj2 : j < (lotsN (us.zip kk) n).length := by omega
    have hyp : y = .ref ps[j] := by
      rw [List.getElem?_map, List.getElem?_eq_getElem hj] at hy
      exact (Option.some.inj hy).symm
    subst hyp
    have eL := Lw.Paired.get j tu (List.getElem?_eq_getElem hj) (by rw [List.getElem?_map, List.getElem?_eq_getElem hj2]; rfl)
    obtain ⟨sZ, lZ⟩ := lotsN_mem.mp (List.getElem_mem hj2)
    have eT : (lotsN (us.zip kk) n).take (j + 1) = (lotsN (us.zip kk) n).take j ++ [(lotsN (us.zip kk) n)[j]] := by
      rw [List.take_add_one, List.getElem?_eq_getElem hj2]
      rfl
    have hpZ : Picks H kvs fs 2 ((lotsN (us.zip kk) n)[j].map (·.1)) ((lotsN (us.zip kk) n)[j].map (·.2)) := picks_of fun z hz => z3 z (sZ.subset hz)
    generalize (lotsN (us.zip kk) n)[j] = Z at eL sZ lZ eT hpZ
    refine ⟨rfl, ?_⟩
    dsimp only [tYes]
    refine iteT ?_
    refine ⟨_, rfl, (by show 2 ≤ sizeLine; decide), fun p3 n3 => ?_⟩
    have s3 := same_new (o := .tup [.str "least", .ref ps[j]]) n3
    have e5 := s3 _ _ ea
    have tk : TK (upd H2 p3 (.tup [.str "least", .ref ps[j]])) (upd (upd H2 p3 (.tup [.str "least", .ref ps[j]])) D1 (.lst (acc ++ [.ref p3]))) := TK.at e5
    have s13 := s1.trans (s2.trans s3)
    obtain ⟨l, _, hl⟩ := kth_exists id (Z.map (·.2)) (k := n - 1) (by rw [List.length_map]; omega)
    rw [show n - 1 + 1 = n by omega] at hl
    refine ⟨acc, e5, Nat.lt_of_le_of_lt (show acc.length ≤ 1000 by omega) (by decide), ?_, acc ++ [.ref p3], ls ++ [l], upd_same, by rw [List.length_append, la]; rfl, ?_, ?_⟩
    · intro b o e
      have nb : b ≠ D1 := fun z => by
        rw [z, nD] at e
        cases e
      rw [upd_ne nb]
      exact s3 _ _ (s2 _ _ e)
    · refine Lw.Paired.app ((hpk.tk (TK.of_same s3)).tk tk) (.cons ?_ .nil)
      have hz2 := (hpZ.tk (TK.of_same s13)).tk tk
      exact hz2.node (k := n) (tk _ _ upd_same) (.low (by rw [List.length_map]; exact lZ.symm)) (tk _ _ ((s2.trans s3) _ _ eL)) n1 (by rw [List.length_map]; omega) (by rw [List.length_map]; omega) hl
    · rw [eT]
      refine Lw.Paired.app hls (.cons ?_ .nil)
      show IsKth id (Z.map (·.2)) (Z.map (·.2)).length l
      rw [List.length_map, lZ]
      exact hl
  · rintro H2 ⟨s2, acc, ls, ea, la, hpk, hls⟩
    rw [List.length_map, lps] at la
    rw [List.length_map, lps, List.take_length] at hls
    have hge : IsKth id ls 1 ns := by
      refine kth_lots (lots := lotsN kk n) hk (fun L a b => lotsN_mem.mpr ⟨a, b⟩) (fun L hL => lotsN_mem.mp hL) ?_ ?_
      · rw [← m2, List.length_map]
        exact hls.length.symm
      · intro i L l hL hl
        rw [← m2, List.getElem?_map] at hL
        obtain ⟨Z, hZ, eZ⟩ := Option.map_eq_some_iff.mp hL
        rw [← eZ]
        have := Lw.Paired.get i hls hZ hl
        exact this
    have lls := hls.length
    have s12 := s1.trans s2
    have l16' : acc.length ≤ 16 := by omega
    clear hls tu m1 m2 z1 z2 z3
    refine while_by (fun σ H' => Same H H' ∧ ∃ (q2 : Addr) (parts : List V) (ks : List (List Int)) (d : Nat) (y : Option V), σ = [some (.ref b), some (.int n), some (.ref q2), y] ∧ H' q2 = some (.lst parts) ∧ Picks H' kvs fs d parts ks ∧ IsKth id ks 1 ns ∧ 4 * d + parts.length ≤ 28 ∧ parts.length ≤ 16) (fun σ H' => match σ with | [_, _, some (.ref q2), _] => (match H' q2 with | some (.lst xs) => xs.length | _ => 0) | _ => 0) ?_ ?_ ?_
    · exact ⟨s12, D1, acc, ls, 3, _, rfl, ea, hpk, hge, by omega, by omega⟩
    · rintro σ H3 ⟨s3, q2, parts, ks, d, y, rfl, eq, hpp, hks, hd, h16⟩
      have lk := hpp.length
      have mem := kth_mem hks
      have pos : 0 < ks.length := List.length_pos_of_mem mem
      refine ⟨_, rfl, q2, parts, rfl, .inl (SqL.of eq), _, _, rfl, rfl, _, rfl, ?_⟩
      by_cases c5 : (5 : Int) < ((parts.length : Nat) : Int)
      · rw [decide_eq_true c5]
        refine iteT ?_
        have c5' : 5 < parts.length := by omega
        refine ⟨_, rfl, _, rfl, q2, parts, rfl, SqL.of eq, fun a1 m1 => ⟨a1, _, rfl, .inl ⟨SqL.of upd_same, fun a2 m2 => ⟨(by show 2 ≤ sizeLine; decide), fun a3 m3 => ⟨(by show 1 ≤ sizeLine; decide), fun a4 m4 => ?_⟩⟩⟩⟩⟩
        have t1 := same_new (o := .lst (cutV parts none (some 5))) m1
        have t2 := same_new (o := .tup (cutV parts none (some 5))) m2
        have t3 := same_new (o := .tup [.str "greatest", .ref a2]) m3
        have t4 := same_new (o := .lst [.ref a3]) m4
        have t14 := t1.trans (t2.trans (t3.trans t4))
        refine ⟨_, rfl, _, rfl, q2, parts, rfl, SqL.of (t14 _ _ eq), fun a5 m5 => ?_⟩
        have t5 := same_new (o := .lst (cutV parts (some 5) none)) m5
        refine ⟨a4, a5, _, _, rfl, rfl, t5 _ _ upd_same, upd_same, ?_, fun a6 m6 => ?_⟩
        · have := cutV_length parts (some 5) none
          exact Nat.le_trans (show 1 + (cutV parts (some 5) none).length ≤ 1000 by omega) (by decide)
        have t6 := same_new (o := .lst ([.ref a3] ++ cutV parts (some 5) none)) m6
        have t16 := t14.trans (t5.trans t6)
        have e2 := (t3.trans (t4.trans (t5.trans t6))) _ _ (upd_same (H := upd H3 a1 (.lst (cutV parts none (some 5)))) (a := a2))
        have e3 := (t4.trans (t5.trans t6)) _ _ (upd_same (H := upd (upd H3 a1 (.lst (cutV parts none (some 5)))) a2 (.tup (cutV parts none (some 5)))) (a := a3))
        have c1 : cutV parts none (some 5) = parts.take 5 := cut_take parts 5
        have c2 : cutV parts (some 5) none = parts.drop 5 := cut_drop parts 5
        have hpp2 := hpp.tk (TK.of_same t16)
        obtain ⟨t, _, ht⟩ := kth_exists id (ks.take 5) (k := 0) (by rw [List.length_take]; omega)
        have l5 : (parts.take 5).length = 5 := by
          rw [List.length_take]
          omega
        have pk : Pick _ kvs fs (d + 1) (.ref a3) t := Picks.node (n := d) (us := parts.take 5) (kk := ks.take 5) (Lw.Paired.take 5 hpp2) (k := 1) e3 (.top rfl) (by rw [e2, c1]) (Nat.le_refl 1) (by omega) (by omega) ht
        refine ⟨⟨s3.trans t16, a6, _, t :: ks.drop 5, d + 1, y, rfl, upd_same, ?_, top_five hks ht, ?_, ?_⟩, ?_⟩
        · exact .cons pk (Picks.mono hpp2.dropC (Nat.le_succ d))
        · rw [c2, List.length_append, List.length_singleton, List.length_drop]
          omega
        · rw [c2, List.length_append, List.length_singleton, List.length_drop]
          omega
        · show (match (upd _ a6 (HO.lst ([V.ref a3] ++ cutV parts (some 5) none))) a6 with | some (.lst xs) => xs.length | _ => 0) < (match H3 q2 with | some (.lst xs) => xs.length | _ => 0)
          rw [upd_same, eq]
          show ([V.ref a3] ++ cutV parts (some 5) none).length < parts.length
          rw [c2, List.length_append, List.length_singleton, List.length_drop]
          omega
      · rw [decide_eq_false c5]
        refine iteF ?_
        refine ⟨_, rfl, q2, parts, rfl, .inl ⟨SqL.of eq, fun a2 m2 => ⟨(by show 2 ≤ sizeLine; decide), fun a3 m3 => ?_⟩⟩⟩
        have t2 := same_new (o := .tup parts) m2
        have t3 := same_new (o := .tup [.str "greatest", .ref a2]) m3
        have t23 := t2.trans t3
        refine q _ _ (Pick.mono ((hpp.tk (TK.of_same t23)).node (k := 1) upd_same (.top rfl) (t3 _ _ upd_same) (Nat.le_refl 1) (by omega) (by omega) hks) (by omega)) (s3.trans t23)
    · rintro σ H Q Q' h ⟨x, h1, p, ys, h2, h3, x1, x2, h4, h5, b, h6, h7⟩
      exact ⟨x, h1, p, ys, h2, h3, x1, x2, h4, h5, b, h6, h _ _ h7⟩
end

end Z

namespace Z
open PySem PySem.Spec PyProof.Rows L2 Lw

section
variable {P : Program} {w : World} {K : PySem.W.Frag} {mg : Str → Option Value} {base : Heap}
theorem made {H : Hp} {p : Addr} {o : HO} (h : H p = none) : (upd H p o) p = some o := upd_same
theorem later3 {a b : TS} {k : Ends} {σ : L2.St} {H : Hp} (P : L2.St → Hp → Prop) (h1 : (∀ σ H, P σ H → b k σ H) → tSeq a b k σ H) (h2 : ∀ σ H, P σ H → b k σ H) : tSeq a b k σ H := h1 h2
/-- two choices that choose one thing -/
def Pr (H : Hp) (kvs : List (Key × V)) (fs : List V) (v : V) : Prop := ∃ (p : Addr) (x y : V) (ns : List Int), v = .ref p ∧ H p = some (.tup [x, y]) ∧ Pick H kvs fs 8 x ns ∧ Pick H kvs fs 8 y ns
theorem Pr.tk {H H' : Hp} {kvs : List (Key × V)} {fs : List V} {v : V} (h : Pr H kvs fs v) (s : TK H H') : Pr H' kvs fs v := by
  obtain ⟨p, x, y, ns, e, f, g1, g2⟩ := h
  exact ⟨p, x, y, ns, e, s _ _ f, g1.tk s, g2.tk s⟩
theorem pr_one {H : Hp} {kvs : List (Key × V)} {fs : List V} {p : Addr} {x y : V} {d e : Nat} {ns : List Int} (f : H p = some (.tup [x, y])) (g1 : Pick H kvs fs d x ns) (g2 : Pick H kvs fs e y ns) (hd : d ≤ 8 := by decide) (he : e ≤ 8 := by decide) : ∀ v ∈ [V.ref p], Pr H kvs fs v := fun v hv => by
  rw [List.mem_singleton.mp hv]
  exact ⟨p, x, y, ns, rfl, f, g1.mono hd, g2.mono he⟩
theorem pr_two {H : Hp} {kvs : List (Key × V)} {fs : List V} {x y : V} (h1 : ∀ v ∈ [x], Pr H kvs fs v) (h2 : ∀ v ∈ [y], Pr H kvs fs v) : ∀ v ∈ [x, y], Pr H kvs fs v := fun v hv => by
  rcases List.mem_cons.mp hv with z | z
  · exact h1 v (List.mem_singleton.mpr z)
  · exact h2 v z
section
variable {H : Hp} {kvs : List (Key × V)} {fs : List V} {d e k : Nat} {us : List V} {kk : List (List Int)} {x y : V} {m n r : List Int} {p1 p2 : Addr}
theorem pickG (h : Picks H kvs fs d us kk) (ea : H p2 = some (.tup [.str "greatest", .ref p1])) (eb : H p1 = some (.tup us)) (hk : IsKth id kk 1 r) (h2 : 1 ≤ us.length) (h3 : us.length ≤ 100) : Pick H kvs fs (d + 1) (.ref p2) r := h.node ea (.top rfl) eb (Nat.le_refl 1) h2 h3 hk
theorem pickL (h : Picks H kvs fs d us kk) (ea : H p2 = some (.tup [.str "least", .ref p1])) (eb : H p1 = some (.tup us)) (hk : IsKth id kk kk.length r) (h2 : 1 ≤ us.length) (h3 : us.length ≤ 100) : Pick H kvs fs (d + 1) (.ref p2) r := by
  rw [← h.length] at hk
  exact h.node ea (.low rfl) eb h2 (Nat.le_refl _) h3 hk
theorem pickK (h : Picks H kvs fs d us kk) (ea : H p2 = some (.tup [.str "kth", .int ((k : Nat) : Int), .ref p1])) (eb : H p1 = some (.tup us)) (hk : IsKth id kk k r) (h1 : 1 ≤ k) (h2 : k ≤ us.length) (h3 : us.length ≤ 100) : Pick H kvs fs (d + 1) (.ref p2) r := h.node ea .kth eb h1 h2 h3 hk
theorem picks2 (h1 : Pick H kvs fs d x m) (h2 : Pick H kvs fs e y n) : Picks H kvs fs (max d e) [x, y] [m, n] := .cons (h1.mono (Nat.le_max_left _ _)) (.cons (h2.mono (Nat.le_max_right _ _)) .nil)
theorem pick2G (h1 : Pick H kvs fs d x m) (h2 : Pick H kvs fs e y n) (ea : H p2 = some (.tup [.str "greatest", .ref p1])) (eb : H p1 = some (.tup [x, y])) (hk : IsKth id [m, n] 1 r) : Pick H kvs fs (max d e + 1) (.ref p2) r := pickG (picks2 h1 h2) ea eb hk (by decide : 1 ≤ 2) (by decide : 2 ≤ 100)
theorem pick2L (h1 : Pick H kvs fs d x m) (h2 : Pick H kvs fs e y n) (ea : H p2 = some (.tup [.str "least", .ref p1])) (eb : H p1 = some (.tup [x, y])) (hk : IsKth id [m, n] 2 r) : Pick H kvs fs (max d e + 1) (.ref p2) r := pickL (picks2 h1 h2) ea eb hk (by decide : 1 ≤ 2) (by decide : 2 ≤ 100)
theorem ex2G (m n : List Int) : ∃ r, IsKth id [m, n] 1 r := by
  obtain ⟨v, _, h⟩ := kth_exists id [m, n] (k := 0) (by decide : 0 < 2)
  exact ⟨v, h⟩
theorem ex2L (m n : List Int) : ∃ r, IsKth id [m, n] 2 r := by
  obtain ⟨v, _, h⟩ := kth_exists id [m, n] (k := 1) (by decide : 1 < 2)
  exact ⟨v, h⟩
theorem picks_snoc (h : Picks H kvs fs d us kk) (g : Pick H kvs fs d x m) : Picks H kvs fs d (us ++ [x]) (kk ++ [m]) := Lw.Paired.app h (.cons g .nil)
theorem picks_perm : ∀ {us zs : List V}, us.Perm zs → ∀ {kk : List (List Int)}, Picks H kvs fs d us kk → ∃ ms, Picks H kvs fs d zs ms ∧ kk.Perm ms := by
  intro us zs p
  induction p with
  | nil => intro kk h; exact ⟨kk, h, List.Perm.refl _⟩
  | cons x p ih =>
    intro kk h
    cases h with
    | cons a t =>
      obtain ⟨ms, g1, g2⟩ := ih t
      exact ⟨_ :: ms, .cons a g1, g2.cons _⟩
  | swap x y l =>
    intro kk h
    cases h with
    | cons a t =>
      cases t with
      | cons b t => exact ⟨_ :: _ :: _, .cons b (.cons a t), List.Perm.swap _ _ _⟩
  | trans p1 p2 ih1 ih2 =>
    intro kk h
    obtain ⟨ms, g1, g2⟩ := ih1 h
    obtain ⟨ms2, g3, g4⟩ := ih2 g1
    exact ⟨ms2, g3, g2.trans g4⟩
end
structure Cp (a b top low q : Addr) (us : List V) (kk : List (List Int)) (vo : V) (no : List Int) (kvs : List (Key × V)) (fs : List V) (H0 : Hp) (m N : Nat) (H : Hp) : Prop where
  hd : Hd H a m
  kp : Kp a H0 H
  eb : H b = some (.tup us)
  pk : Picks H kvs fs 2 us kk
  po : Pick H kvs fs 2 vo no
  et : H top = some (.tup [.str "greatest", .ref b])
  el : H low = some (.tup [.str "least", .ref b])
  q0 : H0 q = none
  ls : ∃ vs, H q = some (.lst vs) ∧ vs.length ≤ N ∧ ∀ v ∈ vs, Pr H kvs fs v
section
variable {a b top low q : Addr} {us : List V} {kk : List (List Int)} {vo : V} {no : List Int} {kvs : List (Key × V)} {fs : List V} {H0 : Hp} {m N : Nat} {Hx : Hp}
theorem Cp.whole (cp : Cp a b top low q us kk vo no kvs fs H0 m N Hx) {t l : List Int} (ht : IsKth id kk 1 t) (hl : IsKth id kk kk.length l) (h1 : 1 ≤ us.length) (h4 : us.length ≤ 4) {H : Hp} (tk : TK Hx H) :
    Picks H kvs fs 2 us kk ∧ Pick H kvs fs 2 vo no ∧ H b = some (.tup us) ∧ H top = some (.tup [.str "greatest", .ref b]) ∧ H low = some (.tup [.str "least", .ref b]) ∧ Pick H kvs fs 3 (.ref top) t ∧ Pick H kvs fs 3 (.ref low) l := by
  have pk := cp.pk.tk tk
  have eb := tk _ _ cp.eb
  have et := tk _ _ cp.et
  have el := tk _ _ cp.el
  exact ⟨pk, cp.po.tk tk, eb, et, el, pickG pk et eb ht h1 (by omega), pickL pk el eb hl h1 (by omega)⟩
theorem Cp.add (cp : Cp a b top low q us kk vo no kvs fs H0 m N Hx) {H : Hp} {m' : Nat} (tk : TK Hx H) (k : Kp a Hx H) (g : Hd H a m') (nqa : q ≠ a) {vs ws : List V} (eq : Hx q = some (.lst vs)) (hl : vs.length ≤ N) (hv : ∀ v ∈ vs, Pr Hx kvs fs v) (hw : ∀ v ∈ ws, Pr H kvs fs v) : Cp a b top low q us kk vo no kvs fs H0 m' (N + ws.length) (upd H q (.lst (vs ++ ws))) := by
  have eq2 := k _ _ nqa eq
  have tk2 : TK H (upd H q (.lst (vs ++ ws))) := TK.at eq2
  have tk3 := tk.trans tk2
  refine ⟨g.at nqa, (cp.kp.trans k).free cp.q0, tk3 _ _ cp.eb, cp.pk.tk tk3, cp.po.tk tk3, tk3 _ _ cp.et, tk3 _ _ cp.el, cp.q0, _, upd_same, ?_, fun v hv2 => ?_⟩
  · rw [List.length_append]
    omega
  · rcases List.mem_append.mp hv2 with y | y
    · exact (hv v y).tk tk3
    · exact (hw v y).tk tk2
theorem Cp.on (cp : Cp a b top low q us kk vo no kvs fs H0 m N Hx) {H : Hp} {m' : Nat} (s : Same Hx H) (hm : m ≤ m') : Cp a b top low q us kk vo no kvs fs H0 m' N H := by
  have tk3 := TK.of_same s
  obtain ⟨vs, e, hl, hv⟩ := cp.ls
  exact ⟨(cp.hd.same s).mono hm, cp.kp.trans (Kp.of_same s), tk3 _ _ cp.eb, cp.pk.tk tk3, cp.po.tk tk3, tk3 _ _ cp.et, tk3 _ _ cp.el, cp.q0, vs, s _ _ e, hl, fun v h => (hv v h).tk tk3⟩
end
def sp_pairs : Sp := fun vs H Q _ => ∃ (a b : Addr) (us : List V) (kk : List (List Int)) (vo : V) (no : List Int) (m : Nat) (kvs : List (Key × V)) (fs : List V), vs = [.ref a, .ref b, vo] ∧ Hd H a m ∧ m + 30 ≤ 700000 ∧ H b = some (.tup us) ∧ 1 ≤ us.length ∧ us.length ≤ 4 ∧ Picks H kvs fs 2 us kk ∧ Pick H kvs fs 2 vo no ∧
  ∀ (q : Addr) (ws : List V) H', H' q = some (.lst ws) → q ≠ a → (∀ v ∈ ws, Pr H' kvs fs v) → Hd H' a (m + 30) → Kp a H H' → Q (.ref q) H'
theorem ok_pairs (T : Txt K mg) {k : Nat} : FnOk P w K mg base CX0 (k + 3) T.f__law_pairs T.fd__law_pairs ["_law_hand_here", "_law_row", "_law_other"] sp_pairs := by
  have G__law_take := (ok_take (P := P) (w := w) (base := base) T (k := k)).mono (show k + 1 ≤ k + 2 by omega)
  have G__law_turned := ok_turned (P := P) (w := w) (base := base) T (k := k)
  have G__law_by_lots := ok_by_lots (P := P) (w := w) (base := base) T (k := k)
  refine T.F__law_pairs.ok (k := k + 2) sc__law_pairs (fun vs H Q E h => ?_) (fun cdv A outer s H vs Q E hr h => ?_)
  · obtain ⟨a, b, us, kk, vo, no, m, kvs, fs, rfl, _⟩ := h
    rfl
  obtain ⟨a, b, us, kk, vo, no, m, kvs, fs, rfl, ha, hm, hb, l1, l4, hpk, hpo, qq⟩ := h
  refine ⟨_, (pss_cons (ps_par (i := 3) (j := 4) rfl sc__law_pairs.nd rfl rfl (by decide) rfl rfl (pa_cons (pe_callB call_len_seq (by rfl) T.m_len (by decide +kernel) (pa_cons (pv 1) pa_nil)) (pa_cons (pe_op op_add pe_int (pe_call G__law_take hr (by rfl) T.g__law_take T.k__law_take T.b__law_take .nil pass0 (pa_cons (pv 0) (pa_cons (pe_callB call_len_seq (by rfl) T.m_len (by decide +kernel) (pa_cons (pv 1) pa_nil)) pa_nil)))) pa_nil)) (by rfl))
      (pss_cons (ps_par (i := 5) (j := 6) rfl sc__law_pairs.nd rfl rfl (by decide) rfl rfl (pa_cons (pe_tup (pa_cons pe_str (pa_cons (pv 1) pa_nil))) (pa_cons (pe_tup (pa_cons pe_str (pa_cons (pv 1) pa_nil))) pa_nil)) (by rfl))
      (pss_cons (ps_set (i := 7) sc__law_pairs.nd rfl (.inl rfl) (pe_lst (pa_cons (pe_tup (pa_cons (pe_tup (pa_cons pe_str (pa_cons pe_int (pa_cons (pv 1) pa_nil)))) (pa_cons (pv 5) pa_nil))) (pa_cons (pe_tup (pa_cons (pe_tup (pa_cons pe_str (pa_cons (pv 3) (pa_cons (pv 1) pa_nil)))) (pa_cons (pv 6) pa_nil))) pa_nil))))
      (pss_cons (ps_expr (pe_bm PySem.F.plainAttrs_list PySem.F.slot_list_append PySem.F.type_list_append mt_append (pv 7) (pa_cons (pe_tup (pa_cons (pe_tup (pa_cons pe_str (pa_cons (pv 4) (pa_cons (pv 1) pa_nil)))) (pa_cons (pe_tup (pa_cons pe_str (pa_cons (pv 4) (pa_cons (pe_call G__law_turned hr (by rfl) T.g__law_turned T.k__law_turned T.b__law_turned .nil pass0 (pa_cons (pv 0) (pa_cons (pv 1) pa_nil))) pa_nil)))) pa_nil))) pa_nil)))
      (pss_cons (ps_expr (pe_bm PySem.F.plainAttrs_list PySem.F.slot_list_extend PySem.F.type_list_extend mt_extend (pv 7) (pa_cons (pe_lst (pa_cons (pe_tup (pa_cons (pv 5) (pa_cons (pe_tup (pa_cons pe_str (pa_cons (pe_call G__law_turned hr (by rfl) T.g__law_turned T.k__law_turned T.b__law_turned .nil pass0 (pa_cons (pv 0) (pa_cons (pv 1) pa_nil))) pa_nil))) pa_nil))) (pa_cons (pe_tup (pa_cons (pv 6) (pa_cons (pe_tup (pa_cons pe_str (pa_cons (pe_call G__law_turned hr (by rfl) T.g__law_turned T.k__law_turned T.b__law_turned .nil pass0 (pa_cons (pv 0) (pa_cons (pv 1) pa_nil))) pa_nil))) pa_nil))) pa_nil))) pa_nil)))
      (pss_cons (ps_expr (pe_bm PySem.F.plainAttrs_list PySem.F.slot_list_append PySem.F.type_list_append mt_append (pv 7) (pa_cons (pe_tup (pa_cons (pe_tup (pa_cons pe_str (pa_cons (pe_tup (pa_cons (pv 5) (pa_cons (pv 2) pa_nil))) pa_nil))) (pa_cons (pe_tup (pa_cons pe_str (pa_cons (pe_op op_catU (pv 1) (pe_tup (pa_cons (pv 2) pa_nil))) pa_nil))) pa_nil))) pa_nil)))
      (pss_cons (ps_expr (pe_bm PySem.F.plainAttrs_list PySem.F.slot_list_append PySem.F.type_list_append mt_append (pv 7) (pa_cons (pe_tup (pa_cons (pe_tup (pa_cons pe_str (pa_cons (pe_tup (pa_cons (pv 2) (pa_cons (pv 6) pa_nil))) pa_nil))) (pa_cons (pe_tup (pa_cons pe_str (pa_cons (pe_op op_catU (pv 1) (pe_tup (pa_cons (pv 2) pa_nil))) pa_nil))) pa_nil))) pa_nil)))
      (pss_cons (ps_expr (pe_bm PySem.F.plainAttrs_list PySem.F.slot_list_append PySem.F.type_list_append mt_append (pv 7) (pa_cons (pe_tup (pa_cons (pe_tup (pa_cons pe_str (pa_cons (pe_tup (pa_cons (pv 2) (pa_cons (pe_tup (pa_cons pe_str (pa_cons (pe_tup (pa_cons (pv 2) (pa_cons (pv 5) pa_nil))) pa_nil))) pa_nil))) pa_nil))) (pa_cons (pv 2) pa_nil))) pa_nil)))
      (pss_cons (ps_expr (pe_bm PySem.F.plainAttrs_list PySem.F.slot_list_append PySem.F.type_list_append mt_append (pv 7) (pa_cons (pe_tup (pa_cons (pe_tup (pa_cons pe_str (pa_cons (pe_tup (pa_cons (pe_tup (pa_cons pe_str (pa_cons (pe_tup (pa_cons (pv 6) (pa_cons (pv 2) pa_nil))) pa_nil))) (pa_cons (pv 2) pa_nil))) pa_nil))) (pa_cons (pv 2) pa_nil))) pa_nil)))
      (pss_cons (ps_set (i := 8) sc__law_pairs.nd rfl (.inl rfl) (pe_callTy call_tuple_of (by rfl) T.m_tuple (by decide +kernel) (pa_cons (pe_lc (own := [("_law_part", 10)]) (g := gName 10) (tt := tYes) rfl sc__law_pairs.nd (pi_tup (pv 1)) (blkOk_by (N := ["_law_hand_here", "_law_row", "_law_other", "_law_size", "_law_nth", "_law_top", "_law_least", "_law_found", "_law_over", "_law_under_all", "_law_part"]) (sc := defScope s__law_pairs) (by decide +kernel)) (fun _ _ _ _ _ => (pg_name (i := 10) sc__law_pairs.nd rfl (Or.inl rfl))) (fun _ _ _ _ _ => pts_nil) (fun _ _ _ _ _ => (pe_tup (pa_cons pe_str (pa_cons (pe_tup (pa_cons (pv 10) (pa_cons (pv 2) pa_nil))) pa_nil))))) pa_nil)))
      (pss_cons (ps_expr (pe_bm PySem.F.plainAttrs_list PySem.F.slot_list_append PySem.F.type_list_append mt_append (pv 7) (pa_cons (pe_tup (pa_cons (pe_tup (pa_cons pe_str (pa_cons (pe_tup (pa_cons (pv 2) (pa_cons (pv 5) pa_nil))) pa_nil))) (pa_cons (pe_tup (pa_cons pe_str (pa_cons (pv 8) pa_nil))) pa_nil))) pa_nil)))
      (pss_cons (ps_set (i := 9) sc__law_pairs.nd rfl (.inl rfl) (pe_callTy call_tuple_of (by rfl) T.m_tuple (by decide +kernel) (pa_cons (pe_lc (own := [("_law_part", 10)]) (g := gName 10) (tt := tYes) rfl sc__law_pairs.nd (pi_tup (pv 1)) (blkOk_by (N := ["_law_hand_here", "_law_row", "_law_other", "_law_size", "_law_nth", "_law_top", "_law_least", "_law_found", "_law_over", "_law_under_all", "_law_part"]) (sc := defScope s__law_pairs) (by decide +kernel)) (fun _ _ _ _ _ => (pg_name (i := 10) sc__law_pairs.nd rfl (Or.inl rfl))) (fun _ _ _ _ _ => pts_nil) (fun _ _ _ _ _ => (pe_tup (pa_cons pe_str (pa_cons (pe_tup (pa_cons (pv 2) (pa_cons (pv 10) pa_nil))) pa_nil))))) pa_nil)))
      (pss_cons (ps_expr (pe_bm PySem.F.plainAttrs_list PySem.F.slot_list_append PySem.F.type_list_append mt_append (pv 7) (pa_cons (pe_tup (pa_cons (pe_tup (pa_cons pe_str (pa_cons (pe_tup (pa_cons (pv 2) (pa_cons (pv 6) pa_nil))) pa_nil))) (pa_cons (pe_tup (pa_cons pe_str (pa_cons (pv 9) pa_nil))) pa_nil))) pa_nil)))
      (pss_cons (ps_expr (pe_bm PySem.F.plainAttrs_list PySem.F.slot_list_append PySem.F.type_list_append mt_append (pv 7) (pa_cons (pe_tup (pa_cons (pe_tup (pa_cons pe_str (pa_cons (pv 4) (pa_cons (pv 1) pa_nil)))) (pa_cons (pe_call G__law_by_lots hr (by rfl) T.g__law_by_lots T.k__law_by_lots T.b__law_by_lots .nil pass0 (pa_cons (pv 1) (pa_cons (pv 4) pa_nil))) pa_nil))) pa_nil)))
      (pss_cons (ps_expr (pe_bm PySem.F.plainAttrs_list PySem.F.slot_list_append PySem.F.type_list_append mt_append (pv 7) (pa_cons (pe_tup (pa_cons (pe_tup (pa_cons pe_str (pa_cons (pv 4) (pa_cons (pe_op op_catU (pv 1) (pe_tup (pa_cons (pe_tup (pa_cons pe_str pa_nil)) pa_nil))) pa_nil)))) (pa_cons (pe_tup (pa_cons pe_str (pa_cons (pv 4) (pa_cons (pv 1) pa_nil)))) pa_nil))) pa_nil)))
      (pss_cons (ps_expr (pe_bm PySem.F.plainAttrs_list PySem.F.slot_list_append PySem.F.type_list_append mt_append (pv 7) (pa_cons (pe_tup (pa_cons (pe_tup (pa_cons pe_str (pa_cons (pe_op op_add (pv 3) pe_int) (pa_cons (pe_op op_catU (pv 1) (pe_tup (pa_cons (pe_tup (pa_cons pe_str pa_nil)) pa_nil))) pa_nil)))) (pa_cons (pe_tup (pa_cons pe_str pa_nil)) pa_nil))) pa_nil)))
      (pss_cons (ps_expr (pe_bm PySem.F.plainAttrs_list PySem.F.slot_list_append PySem.F.type_list_append mt_append (pv 7) (pa_cons (pe_tup (pa_cons (pe_tup (pa_cons pe_str (pa_cons (pe_tup (pa_cons (pv 2) (pa_cons (pe_tup (pa_cons pe_str pa_nil)) pa_nil))) pa_nil))) (pa_cons (pe_tup (pa_cons pe_str pa_nil)) pa_nil))) pa_nil)))
      (pss_one (ps_ret (pe_op op_cat (pv 7) (pe_lst (pa_cons (pe_tup (pa_cons (pe_tup (pa_cons pe_str (pa_cons (pe_tup (pa_cons (pe_tup (pa_cons pe_str pa_nil)) (pa_cons (pv 2) pa_nil))) pa_nil))) (pa_cons (pv 2) pa_nil))) (pa_cons (pe_tup (pa_cons (pe_tup (pa_cons pe_str (pa_cons pe_int (pa_cons (pe_tup (pa_cons (pv 2) pa_nil)) pa_nil)))) (pa_cons (pv 2) pa_nil))) pa_nil))))))))))))))))))))))), ?_⟩
  have lkk := hpk.length
  obtain ⟨t, _, ht⟩ := kth_exists id kk (k := 0) (by omega)
  obtain ⟨l, _, hl⟩ := kth_exists id kk (k := kk.length - 1) (by omega)
  rw [show kk.length - 1 + 1 = kk.length by omega] at hl
  refine ⟨_, rfl, b, us, rfl, .inr (SqT.of hb), _, rfl, _, rfl, b, us, rfl, .inr (SqT.of hb), a, m, us.length, rfl, ha, by omega, by omega, by omega, fun r Ha hr1 ga ka => ?_⟩
  obtain ⟨rr, _, hrr⟩ := kth_exists id kk (k := r) (by omega)
  rw [show r + 1 = 1 + r by omega] at hrr
  have nba : b ≠ a := hd_tup ha hb (by intro xs z; cases z)
  have tka := TK.of_kp ka ha
  refine ⟨_, _, rfl, rfl, _, _, rfl, ?_⟩
  refine ⟨_, rfl, (by show 2 ≤ sizeLine; decide), fun top n1 => ⟨_, rfl, (by show 2 ≤ sizeLine; decide), fun low n2 => ?_⟩⟩
  have t1 := same_new (o := .tup [.str "greatest", .ref b]) n1
  have t2 := same_new (o := .tup [.str "least", .ref b]) n2
  refine ⟨_, _, rfl, ?_⟩
  dsimp only
  refine later3 (fun σ Hx => ∃ q, q ≠ a ∧ (∃ y8 y9, σ = [some (.ref a), some (.ref b), some vo, some (.int ((us.length : Nat) : Int)), some (.int ((1 + r : Nat) : Int)), some (.ref top), some (.ref low), some (.ref q), y8, y9, none]) ∧ Cp a b top low q us kk vo no kvs fs H (m + 1) 2 Hx) (fun rest => ?_) ?_
  · refine ⟨_, rfl, (by show 3 ≤ sizeLine; decide), fun p1 n3 => ⟨_, rfl, (by show 2 ≤ sizeLine; decide), fun p2 n4 => ⟨_, rfl, _, rfl, (by show 3 ≤ sizeLine; decide), fun p3 n5 => ⟨_, rfl, (by show 2 ≤ sizeLine; decide), fun p4 n6 => ⟨(by show 2 ≤ sizeLine; decide), fun q n7 => ?_⟩⟩⟩⟩⟩
    have t3 := same_new (o := .tup [.str "kth", .int ((1 : Nat) : Int), .ref b]) n3
    have t4 := same_new (o := .tup [.ref p1, .ref top]) n4
    have t5 := same_new (o := .tup [.str "kth", .int ((us.length : Nat) : Int), .ref b]) n5
    have t6 := same_new (o := .tup [.ref p3, .ref low]) n6
    have t7 := same_new (o := .lst [.ref p2, .ref p4]) n7
    have t27 := t3.trans (t4.trans (t5.trans (t6.trans t7)))
    have tk0 := tka.trans (TK.of_same (t1.trans (t2.trans t27)))
    have k6 := ka.trans (Kp.of_same (t1.trans (t2.trans (t3.trans (t4.trans (t5.trans t6))))))
    have g6 := ga.same (t1.trans (t2.trans (t3.trans (t4.trans (t5.trans t6)))))
    have PK := hpk.tk tk0
    have EB := tk0 _ _ hb
    have ET := (t2.trans t27) _ _ (made n1)
    have EL := t27 _ _ (made n2)
    have f1 := (t4.trans (t5.trans (t6.trans t7))) _ _ (made (o := .tup [.str "kth", .int ((1 : Nat) : Int), .ref b]) n3)
    have f2 := (t5.trans (t6.trans t7)) _ _ (made (o := .tup [.ref p1, .ref top]) n4)
    have f3 := (t6.trans t7) _ _ (made (o := .tup [.str "kth", .int ((us.length : Nat) : Int), .ref b]) n5)
    have f4 := t7 _ _ (made (o := .tup [.ref p3, .ref low]) n6)
    have hl' := hl
    rw [← lkk] at hl'
    have nqa := g6.new n7
    exact rest _ _ ⟨q, nqa, ⟨_, _, rfl⟩, g6.same t7, k6.trans (Kp.of_same t7), EB, PK, hpo.tk tk0, ET, EL, k6.none g6 n7, _, made n7, Nat.le_refl 2, pr_two (pr_one f2 (pickK PK f1 EB ht (Nat.le_refl 1) l1 (by omega)) (pickG PK ET EB ht l1 (by omega))) (pr_one f4 (pickK PK f3 EB hl' l1 (Nat.le_refl _) (by omega)) (pickL PK EL EB hl l1 (by omega)))⟩
  rintro σ Hx ⟨q, nqa, ⟨y8, y9, rfl⟩, cp⟩
  obtain ⟨vs, eq, hvl, hvs⟩ := cp.ls
  refine later3 (fun σ Hx => (∃ y8 y9, σ = [some (.ref a), some (.ref b), some vo, some (.int ((us.length : Nat) : Int)), some (.int ((1 + r : Nat) : Int)), some (.ref top), some (.ref low), some (.ref q), y8, y9, none]) ∧ Cp a b top low q us kk vo no kvs fs H (m + 5) 3 Hx) (fun rest => ?_) ?_
  · have w0 : TK Hx Hx := fun _ _ e => e
    have k0 := Kp.refl a Hx
    have h0 := cp.hd
    refine ⟨_, rfl, .inl ⟨rfl, _, SqL.of eq⟩, _, rfl, _, rfl, (by show 3 ≤ sizeLine; decide), fun p1 n1 => ?_⟩
    have t1 := same_new (o := .tup [.str "kth", .int ((1 + r : Nat) : Int), .ref b]) n1
    have u1 := TK.of_same t1
    have k1 := k0.trans (Kp.of_same t1)
    have h1 := h0.same t1
    have w1 := w0.trans u1
    refine ⟨_, rfl, _, rfl, _, rfl, a, b, us, _, rfl, h1, (by omega), w1 _ _ cp.eb, l4, fun p2 zs2 H2 e2 pm2 h2 kk2 => ?_⟩
    have u2 := TK.of_kp kk2 h1
    have k2 := k1.trans kk2
    have w2 := w1.trans u2
    refine ⟨(by show 3 ≤ sizeLine; decide), fun p3 n3 => ?_⟩
    have t3 := same_new (o := .tup [.str "kth", .int ((1 + r : Nat) : Int), .ref p2]) n3
    have u3 := TK.of_same t3
    have k3 := k2.trans (Kp.of_same t3)
    have h3 := h2.same t3
    have w3 := w2.trans u3
    refine ⟨(by show 2 ≤ sizeLine; decide), fun p4 n4 => ?_⟩
    have t4 := same_new (o := .tup [.ref p1, .ref p3]) n4
    have u4 := TK.of_same t4
    have k4 := k3.trans (Kp.of_same t4)
    have h4 := h3.same t4
    have w4 := w3.trans u4
    have f1 := (u2.trans (u3.trans (u4))) p1 _ (made (o := .tup [.str "kth", .int ((1 + r : Nat) : Int), .ref b]) n1)
    have f2 := (u3.trans (u4)) p2 _ e2
    have f3 := (u4) p3 _ (made (o := .tup [.str "kth", .int ((1 + r : Nat) : Int), .ref p2]) n3)
    have f4 := (made (o := .tup [.ref p1, .ref p3]) n4)
    obtain ⟨PK, PO, EB, ET, EL, PT, PL⟩ := cp.whole ht hl l1 l4 w4
    have pa := pickK PK f1 EB hrr (by omega) (by omega) (by omega)
    obtain ⟨ms, g1, g2⟩ := picks_perm pm2.symm (PK)
    have lz := pm2.length_eq
    have pb := pickK g1 f3 f2 (kth_perm hrr g2) (by omega) (by omega) (by omega)
    exact ⟨q, vs, _, rfl, rfl, k4 _ _ nqa eq, Nat.lt_of_le_of_lt (show vs.length ≤ 1000 by omega) (by decide), rest _ _ ⟨⟨_, _, rfl⟩, cp.add (ws := [_]) w4 k4 (h4.mono (by omega)) nqa eq hvl hvs (pr_one f4 pa pb)⟩⟩
  clear eq hvl hvs cp
  rintro σ Hx ⟨⟨y8, y9, rfl⟩, cp⟩
  obtain ⟨vs, eq, hvl, hvs⟩ := cp.ls
  refine later3 (fun σ Hx => (∃ y8 y9, σ = [some (.ref a), some (.ref b), some vo, some (.int ((us.length : Nat) : Int)), some (.int ((1 + r : Nat) : Int)), some (.ref top), some (.ref low), some (.ref q), y8, y9, none]) ∧ Cp a b top low q us kk vo no kvs fs H (m + 13) 5 Hx) (fun rest => ?_) ?_
  · have w0 : TK Hx Hx := fun _ _ e => e
    have k0 := Kp.refl a Hx
    have h0 := cp.hd
    refine ⟨_, rfl, .inl ⟨rfl, _, SqL.of eq⟩, _, rfl, _, rfl, _, rfl, a, b, us, _, rfl, h0, (by omega), w0 _ _ cp.eb, l4, fun p1 zs1 H1 e1 pm1 h1 kk1 => ?_⟩
    have u1 := TK.of_kp kk1 h0
    have k1 := k0.trans kk1
    have w1 := w0.trans u1
    refine ⟨(by show 2 ≤ sizeLine; decide), fun p2 n2 => ?_⟩
    have t2 := same_new (o := .tup [.str "greatest", .ref p1]) n2
    have u2 := TK.of_same t2
    have k2 := k1.trans (Kp.of_same t2)
    have h2 := h1.same t2
    have w2 := w1.trans u2
    refine ⟨(by show 2 ≤ sizeLine; decide), fun p3 n3 => ?_⟩
    have t3 := same_new (o := .tup [.ref top, .ref p2]) n3
    have u3 := TK.of_same t3
    have k3 := k2.trans (Kp.of_same t3)
    have h3 := h2.same t3
    have w3 := w2.trans u3
    refine ⟨_, rfl, _, rfl, _, rfl, a, b, us, _, rfl, h3, (by omega), w3 _ _ cp.eb, l4, fun p4 zs4 H4 e4 pm4 h4 kk4 => ?_⟩
    have u4 := TK.of_kp kk4 h3
    have k4 := k3.trans kk4
    have w4 := w3.trans u4
    refine ⟨(by show 2 ≤ sizeLine; decide), fun p5 n5 => ?_⟩
    have t5 := same_new (o := .tup [.str "least", .ref p4]) n5
    have u5 := TK.of_same t5
    have k5 := k4.trans (Kp.of_same t5)
    have h5 := h4.same t5
    have w5 := w4.trans u5
    refine ⟨(by show 2 ≤ sizeLine; decide), fun p6 n6 => ?_⟩
    have t6 := same_new (o := .tup [.ref low, .ref p5]) n6
    have u6 := TK.of_same t6
    have k6 := k5.trans (Kp.of_same t6)
    have h6 := h5.same t6
    have w6 := w5.trans u6
    refine ⟨(by show 2 ≤ sizeLine; decide), fun p7 n7 => ?_⟩
    have t7 := same_new (o := .lst [.ref p3, .ref p6]) n7
    have u7 := TK.of_same t7
    have k7 := k6.trans (Kp.of_same t7)
    have h7 := h6.same t7
    have w7 := w6.trans u7
    have f1 := (u2.trans (u3.trans (u4.trans (u5.trans (u6.trans (u7)))))) p1 _ e1
    have f2 := (u3.trans (u4.trans (u5.trans (u6.trans (u7))))) p2 _ (made (o := .tup [.str "greatest", .ref p1]) n2)
    have f3 := (u4.trans (u5.trans (u6.trans (u7)))) p3 _ (made (o := .tup [.ref top, .ref p2]) n3)
    have f4 := (u5.trans (u6.trans (u7))) p4 _ e4
    have f5 := (u6.trans (u7)) p5 _ (made (o := .tup [.str "least", .ref p4]) n5)
    have f6 := (u7) p6 _ (made (o := .tup [.ref low, .ref p5]) n6)
    obtain ⟨PK, PO, EB, ET, EL, PT, PL⟩ := cp.whole ht hl l1 l4 w7
    have pa := PT
    obtain ⟨ms, g1, g2⟩ := picks_perm pm1.symm (PK)
    have lz := pm1.length_eq
    have pb := pickG g1 f2 f1 (kth_perm ht g2) (by omega) (by omega)
    have pc := PL
    obtain ⟨ms2, g3, g4⟩ := picks_perm pm4.symm (PK)
    have lz2 := pm4.length_eq
    have hl2 := kth_perm hl g4
    rw [g4.length_eq] at hl2
    have pd := pickL g3 f5 f4 hl2 (by omega) (by omega)
    exact ⟨q, p7, vs, _, rfl, rfl, k7 _ _ nqa eq, made n7, Nat.le_trans (show vs.length + 2 ≤ 1000 by omega) (by decide), rest _ _ ⟨⟨_, _, rfl⟩, cp.add (ws := [_, _]) w7 k7 (h7.mono (by omega)) nqa eq hvl hvs (pr_two (pr_one f3 pa pb) (pr_one f6 pc pd))⟩⟩
  clear eq hvl hvs cp
  rintro σ Hx ⟨⟨y8, y9, rfl⟩, cp⟩
  obtain ⟨vs, eq, hvl, hvs⟩ := cp.ls
  refine later3 (fun σ Hx => (∃ y8 y9, σ = [some (.ref a), some (.ref b), some vo, some (.int ((us.length : Nat) : Int)), some (.int ((1 + r : Nat) : Int)), some (.ref top), some (.ref low), some (.ref q), y8, y9, none]) ∧ Cp a b top low q us kk vo no kvs fs H (m + 13) 6 Hx) (fun rest => ?_) ?_
  · have w0 : TK Hx Hx := fun _ _ e => e
    have k0 := Kp.refl a Hx
    have h0 := cp.hd
    refine ⟨_, rfl, .inl ⟨rfl, _, SqL.of eq⟩, _, rfl, _, rfl, (by show 2 ≤ sizeLine; decide), fun p1 n1 => ?_⟩
    have t1 := same_new (o := .tup [.ref top, vo]) n1
    have u1 := TK.of_same t1
    have k1 := k0.trans (Kp.of_same t1)
    have h1 := h0.same t1
    have w1 := w0.trans u1
    refine ⟨(by show 2 ≤ sizeLine; decide), fun p2 n2 => ?_⟩
    have t2 := same_new (o := .tup [.str "greatest", .ref p1]) n2
    have u2 := TK.of_same t2
    have k2 := k1.trans (Kp.of_same t2)
    have h2 := h1.same t2
    have w2 := w1.trans u2
    refine ⟨_, rfl, _, rfl, (by show 1 ≤ sizeLine; decide), fun p3 n3 => ?_⟩
    have t3 := same_new (o := .tup [vo]) n3
    have u3 := TK.of_same t3
    have k3 := k2.trans (Kp.of_same t3)
    have h3 := h2.same t3
    have w3 := w2.trans u3
    refine ⟨b, p3, us, [vo], rfl, rfl, w3 _ _ cp.eb, upd_same, (Nat.le_trans (show us.length + 1 ≤ 1000 by omega) (by decide)), fun p4 H4 s4 e4 o4 => ?_⟩
    have u4 := TK.of_same s4
    have k4 := k3.trans (Kp.of_same s4)
    have h4 := h3.same s4
    have w4 := w3.trans u4
    refine ⟨(by show 2 ≤ sizeLine; decide), fun p5 n5 => ?_⟩
    have t5 := same_new (o := .tup [.str "greatest", .ref p4]) n5
    have u5 := TK.of_same t5
    have k5 := k4.trans (Kp.of_same t5)
    have h5 := h4.same t5
    have w5 := w4.trans u5
    refine ⟨(by show 2 ≤ sizeLine; decide), fun p6 n6 => ?_⟩
    have t6 := same_new (o := .tup [.ref p2, .ref p5]) n6
    have u6 := TK.of_same t6
    have k6 := k5.trans (Kp.of_same t6)
    have h6 := h5.same t6
    have w6 := w5.trans u6
    have f1 := (u2.trans (u3.trans (u4.trans (u5.trans (u6))))) p1 _ (made (o := .tup [.ref top, vo]) n1)
    have f2 := (u3.trans (u4.trans (u5.trans (u6)))) p2 _ (made (o := .tup [.str "greatest", .ref p1]) n2)
    have f3 := (u4.trans (u5.trans (u6))) p3 _ (made (o := .tup [vo]) n3)
    have f4 := (u5.trans (u6)) p4 _ e4
    have f5 := (u6) p5 _ (made (o := .tup [.str "greatest", .ref p4]) n5)
    have f6 := (made (o := .tup [.ref p2, .ref p5]) n6)
    obtain ⟨PK, PO, EB, ET, EL, PT, PL⟩ := cp.whole ht hl l1 l4 w6
    obtain ⟨r1, hx1⟩ := ex2G t no
    have pa := pick2G PT PO f2 f1 hx1
    have pb := pickG (picks_snoc PK PO) f5 f4 (top_top ht hx1) (by rw [List.length_append, List.length_singleton]; omega) (by rw [List.length_append, List.length_singleton]; omega)
    exact ⟨q, vs, _, rfl, rfl, k6 _ _ nqa eq, Nat.lt_of_le_of_lt (show vs.length ≤ 1000 by omega) (by decide), rest _ _ ⟨⟨_, _, rfl⟩, cp.add (ws := [_]) w6 k6 (h6.mono (by omega)) nqa eq hvl hvs (pr_one f6 pa pb)⟩⟩
  clear eq hvl hvs cp
  rintro σ Hx ⟨⟨y8, y9, rfl⟩, cp⟩
  obtain ⟨vs, eq, hvl, hvs⟩ := cp.ls
  refine later3 (fun σ Hx => (∃ y8 y9, σ = [some (.ref a), some (.ref b), some vo, some (.int ((us.length : Nat) : Int)), some (.int ((1 + r : Nat) : Int)), some (.ref top), some (.ref low), some (.ref q), y8, y9, none]) ∧ Cp a b top low q us kk vo no kvs fs H (m + 13) 7 Hx) (fun rest => ?_) ?_
  · have w0 : TK Hx Hx := fun _ _ e => e
    have k0 := Kp.refl a Hx
    have h0 := cp.hd
    refine ⟨_, rfl, .inl ⟨rfl, _, SqL.of eq⟩, _, rfl, _, rfl, (by show 2 ≤ sizeLine; decide), fun p1 n1 => ?_⟩
    have t1 := same_new (o := .tup [vo, .ref low]) n1
    have u1 := TK.of_same t1
    have k1 := k0.trans (Kp.of_same t1)
    have h1 := h0.same t1
    have w1 := w0.trans u1
    refine ⟨(by show 2 ≤ sizeLine; decide), fun p2 n2 => ?_⟩
    have t2 := same_new (o := .tup [.str "least", .ref p1]) n2
    have u2 := TK.of_same t2
    have k2 := k1.trans (Kp.of_same t2)
    have h2 := h1.same t2
    have w2 := w1.trans u2
    refine ⟨_, rfl, _, rfl, (by show 1 ≤ sizeLine; decide), fun p3 n3 => ?_⟩
    have t3 := same_new (o := .tup [vo]) n3
    have u3 := TK.of_same t3
    have k3 := k2.trans (Kp.of_same t3)
    have h3 := h2.same t3
    have w3 := w2.trans u3
    refine ⟨b, p3, us, [vo], rfl, rfl, w3 _ _ cp.eb, upd_same, (Nat.le_trans (show us.length + 1 ≤ 1000 by omega) (by decide)), fun p4 H4 s4 e4 o4 => ?_⟩
    have u4 := TK.of_same s4
    have k4 := k3.trans (Kp.of_same s4)
    have h4 := h3.same s4
    have w4 := w3.trans u4
    refine ⟨(by show 2 ≤ sizeLine; decide), fun p5 n5 => ?_⟩
    have t5 := same_new (o := .tup [.str "least", .ref p4]) n5
    have u5 := TK.of_same t5
    have k5 := k4.trans (Kp.of_same t5)
    have h5 := h4.same t5
    have w5 := w4.trans u5
    refine ⟨(by show 2 ≤ sizeLine; decide), fun p6 n6 => ?_⟩
    have t6 := same_new (o := .tup [.ref p2, .ref p5]) n6
    have u6 := TK.of_same t6
    have k6 := k5.trans (Kp.of_same t6)
    have h6 := h5.same t6
    have w6 := w5.trans u6
    have f1 := (u2.trans (u3.trans (u4.trans (u5.trans (u6))))) p1 _ (made (o := .tup [vo, .ref low]) n1)
    have f2 := (u3.trans (u4.trans (u5.trans (u6)))) p2 _ (made (o := .tup [.str "least", .ref p1]) n2)
    have f3 := (u4.trans (u5.trans (u6))) p3 _ (made (o := .tup [vo]) n3)
    have f4 := (u5.trans (u6)) p4 _ e4
    have f5 := (u6) p5 _ (made (o := .tup [.str "least", .ref p4]) n5)
    have f6 := (made (o := .tup [.ref p2, .ref p5]) n6)
    obtain ⟨PK, PO, EB, ET, EL, PT, PL⟩ := cp.whole ht hl l1 l4 w6
    obtain ⟨r1, hx1⟩ := ex2L no l
    have pa := pick2L PO PL f2 f1 hx1
    have pb := pickL (picks_snoc PK PO) f5 f4 (low_low hl hx1) (by rw [List.length_append, List.length_singleton]; omega) (by rw [List.length_append, List.length_singleton]; omega)
    exact ⟨q, vs, _, rfl, rfl, k6 _ _ nqa eq, Nat.lt_of_le_of_lt (show vs.length ≤ 1000 by omega) (by decide), rest _ _ ⟨⟨_, _, rfl⟩, cp.add (ws := [_]) w6 k6 (h6.mono (by omega)) nqa eq hvl hvs (pr_one f6 pa pb)⟩⟩
  clear eq hvl hvs cp
  rintro σ Hx ⟨⟨y8, y9, rfl⟩, cp⟩
  obtain ⟨vs, eq, hvl, hvs⟩ := cp.ls
  refine later3 (fun σ Hx => (∃ y8 y9, σ = [some (.ref a), some (.ref b), some vo, some (.int ((us.length : Nat) : Int)), some (.int ((1 + r : Nat) : Int)), some (.ref top), some (.ref low), some (.ref q), y8, y9, none]) ∧ Cp a b top low q us kk vo no kvs fs H (m + 13) 8 Hx) (fun rest => ?_) ?_
  · have w0 : TK Hx Hx := fun _ _ e => e
    have k0 := Kp.refl a Hx
    have h0 := cp.hd
    refine ⟨_, rfl, .inl ⟨rfl, _, SqL.of eq⟩, _, rfl, _, rfl, _, rfl, (by show 2 ≤ sizeLine; decide), fun p1 n1 => ?_⟩
    have t1 := same_new (o := .tup [vo, .ref top]) n1
    have u1 := TK.of_same t1
    have k1 := k0.trans (Kp.of_same t1)
    have h1 := h0.same t1
    have w1 := w0.trans u1
    refine ⟨(by show 2 ≤ sizeLine; decide), fun p2 n2 => ?_⟩
    have t2 := same_new (o := .tup [.str "least", .ref p1]) n2
    have u2 := TK.of_same t2
    have k2 := k1.trans (Kp.of_same t2)
    have h2 := h1.same t2
    have w2 := w1.trans u2
    refine ⟨(by show 2 ≤ sizeLine; decide), fun p3 n3 => ?_⟩
    have t3 := same_new (o := .tup [vo, .ref p2]) n3
    have u3 := TK.of_same t3
    have k3 := k2.trans (Kp.of_same t3)
    have h3 := h2.same t3
    have w3 := w2.trans u3
    refine ⟨(by show 2 ≤ sizeLine; decide), fun p4 n4 => ?_⟩
    have t4 := same_new (o := .tup [.str "greatest", .ref p3]) n4
    have u4 := TK.of_same t4
    have k4 := k3.trans (Kp.of_same t4)
    have h4 := h3.same t4
    have w4 := w3.trans u4
    refine ⟨_, rfl, (by show 2 ≤ sizeLine; decide), fun p5 n5 => ?_⟩
    have t5 := same_new (o := .tup [.ref p4, vo]) n5
    have u5 := TK.of_same t5
    have k5 := k4.trans (Kp.of_same t5)
    have h5 := h4.same t5
    have w5 := w4.trans u5
    have f1 := (u2.trans (u3.trans (u4.trans (u5)))) p1 _ (made (o := .tup [vo, .ref top]) n1)
    have f2 := (u3.trans (u4.trans (u5))) p2 _ (made (o := .tup [.str "least", .ref p1]) n2)
    have f3 := (u4.trans (u5)) p3 _ (made (o := .tup [vo, .ref p2]) n3)
    have f4 := (u5) p4 _ (made (o := .tup [.str "greatest", .ref p3]) n4)
    have f5 := (made (o := .tup [.ref p4, vo]) n5)
    obtain ⟨PK, PO, EB, ET, EL, PT, PL⟩ := cp.whole ht hl l1 l4 w5
    obtain ⟨r1, hx1⟩ := ex2L no t
    obtain ⟨r2, hx2⟩ := ex2G no r1
    have e2 := absorb_top hx1 hx2
    rw [e2] at hx2
    have pa := pick2G PO (pick2L PO PT f2 f1 hx1) f4 f3 hx2
    have pb := PO
    exact ⟨q, vs, _, rfl, rfl, k5 _ _ nqa eq, Nat.lt_of_le_of_lt (show vs.length ≤ 1000 by omega) (by decide), rest _ _ ⟨⟨_, _, rfl⟩, cp.add (ws := [_]) w5 k5 (h5.mono (by omega)) nqa eq hvl hvs (pr_one f5 pa pb)⟩⟩
  clear eq hvl hvs cp
  rintro σ Hx ⟨⟨y8, y9, rfl⟩, cp⟩
  obtain ⟨vs, eq, hvl, hvs⟩ := cp.ls
  refine later3 (fun σ Hx => (∃ y8 y9, σ = [some (.ref a), some (.ref b), some vo, some (.int ((us.length : Nat) : Int)), some (.int ((1 + r : Nat) : Int)), some (.ref top), some (.ref low), some (.ref q), y8, y9, none]) ∧ Cp a b top low q us kk vo no kvs fs H (m + 13) 9 Hx) (fun rest => ?_) ?_
  · have w0 : TK Hx Hx := fun _ _ e => e
    have k0 := Kp.refl a Hx
    have h0 := cp.hd
    refine ⟨_, rfl, .inl ⟨rfl, _, SqL.of eq⟩, _, rfl, _, rfl, (by show 2 ≤ sizeLine; decide), fun p1 n1 => ?_⟩
    have t1 := same_new (o := .tup [.ref low, vo]) n1
    have u1 := TK.of_same t1
    have k1 := k0.trans (Kp.of_same t1)
    have h1 := h0.same t1
    have w1 := w0.trans u1
    refine ⟨(by show 2 ≤ sizeLine; decide), fun p2 n2 => ?_⟩
    have t2 := same_new (o := .tup [.str "greatest", .ref p1]) n2
    have u2 := TK.of_same t2
    have k2 := k1.trans (Kp.of_same t2)
    have h2 := h1.same t2
    have w2 := w1.trans u2
    refine ⟨_, rfl, (by show 2 ≤ sizeLine; decide), fun p3 n3 => ?_⟩
    have t3 := same_new (o := .tup [.ref p2, vo]) n3
    have u3 := TK.of_same t3
    have k3 := k2.trans (Kp.of_same t3)
    have h3 := h2.same t3
    have w3 := w2.trans u3
    refine ⟨(by show 2 ≤ sizeLine; decide), fun p4 n4 => ?_⟩
    have t4 := same_new (o := .tup [.str "least", .ref p3]) n4
    have u4 := TK.of_same t4
    have k4 := k3.trans (Kp.of_same t4)
    have h4 := h3.same t4
    have w4 := w3.trans u4
    refine ⟨_, rfl, (by show 2 ≤ sizeLine; decide), fun p5 n5 => ?_⟩
    have t5 := same_new (o := .tup [.ref p4, vo]) n5
    have u5 := TK.of_same t5
    have k5 := k4.trans (Kp.of_same t5)
    have h5 := h4.same t5
    have w5 := w4.trans u5
    have f1 := (u2.trans (u3.trans (u4.trans (u5)))) p1 _ (made (o := .tup [.ref low, vo]) n1)
    have f2 := (u3.trans (u4.trans (u5))) p2 _ (made (o := .tup [.str "greatest", .ref p1]) n2)
    have f3 := (u4.trans (u5)) p3 _ (made (o := .tup [.ref p2, vo]) n3)
    have f4 := (u5) p4 _ (made (o := .tup [.str "least", .ref p3]) n4)
    have f5 := (made (o := .tup [.ref p4, vo]) n5)
    obtain ⟨PK, PO, EB, ET, EL, PT, PL⟩ := cp.whole ht hl l1 l4 w5
    obtain ⟨r1, hx1⟩ := ex2G l no
    obtain ⟨r2, hx2⟩ := ex2L r1 no
    have e2 := absorb_low hx1 hx2
    rw [e2] at hx2
    have pa := pick2L (pick2G PL PO f2 f1 hx1) PO f4 f3 hx2
    have pb := PO
    exact ⟨q, vs, _, rfl, rfl, k5 _ _ nqa eq, Nat.lt_of_le_of_lt (show vs.length ≤ 1000 by omega) (by decide), rest _ _ ⟨⟨_, _, rfl⟩, cp.add (ws := [_]) w5 k5 (h5.mono (by omega)) nqa eq hvl hvs (pr_one f5 pa pb)⟩⟩
  clear eq hvl hvs cp
  rintro σ Hx ⟨⟨y8, y9, rfl⟩, cp⟩
  obtain ⟨vs, eq, hvl, hvs⟩ := cp.ls
  refine later3 (fun σ Hx => ∃ ov, (∃ y9, σ = [some (.ref a), some (.ref b), some vo, some (.int ((us.length : Nat) : Int)), some (.int ((1 + r : Nat) : Int)), some (.ref top), some (.ref low), some (.ref q), some (.ref ov), y9, none]) ∧ Cp a b top low q us kk vo no kvs fs H (m + 13) 9 Hx ∧ ∃ os ls, Hx ov = some (.tup os) ∧ os.length = us.length ∧ Picks Hx kvs fs 3 os ls ∧ Paired (fun m l => IsKth id [m, no] 2 l) kk ls) (fun rest => ?_) ?_
  · refine ⟨_, rfl, b, rfl, ⟨_, SqT.of cp.eb⟩, fun D1 nD => ?_⟩
    refine Lw.lc_tup (xs := us) (fun j H' => Same Hx H' ∧ ∃ acc ls, H' D1 = some (.lst acc) ∧ acc.length = j ∧ Picks H' kvs fs 3 acc ls ∧ Paired (fun m l => IsKth id [m, no] 2 l) (kk.take j) ls) ⟨same_new nD, [], [], upd_same, rfl, .nil, .nil⟩ ?_ ?_ ?_
    · rintro j H' _ ⟨s2, _⟩
      exact SqT.of (s2 _ _ cp.eb)
    · rintro j x H2 hx ⟨s2, acc, ls, ea, la, hpk2, hls⟩
      have hj := (List.getElem?_eq_some_iff.mp hx).1
      have hm2 : kk[j]? = some kk[j] := List.getElem?_eq_getElem (by omega)
      refine ⟨rfl, ?_⟩
      dsimp only [tYes]
      refine iteT ?_
      refine ⟨_, rfl, _, rfl, (by show 2 ≤ sizeLine; decide), fun p1 n1 => ⟨(by show 2 ≤ sizeLine; decide), fun p2 n2 => ?_⟩⟩
      have t1 := same_new (o := .tup [x, vo]) n1
      have t2 := same_new (o := .tup [.str "least", .ref p1]) n2
      have t12 := s2.trans (t1.trans t2)
      have e5 := t2 _ _ (t1 _ _ ea)
      have tk : TK (upd (upd H2 p1 (.tup [x, vo])) p2 (.tup [.str "least", .ref p1])) (upd (upd (upd H2 p1 (.tup [x, vo])) p2 (.tup [.str "least", .ref p1])) D1 (.lst (acc ++ [.ref p2]))) := TK.at e5
      have px := (Lw.Paired.get j cp.pk hx hm2).tk (TK.of_same t12)
      have po := cp.po.tk (TK.of_same t12)
      obtain ⟨l1, hl1⟩ := ex2L kk[j] no
      have pn := pick2L px po (made n2) (t2 _ _ (made n1)) hl1
      have eT : kk.take (j + 1) = kk.take j ++ [kk[j]] := by
        rw [List.take_add_one, hm2]
        rfl
      refine ⟨acc, e5, Nat.lt_of_le_of_lt (show acc.length ≤ 1000 by omega) (by decide), ?_, acc ++ [.ref p2], ls ++ [l1], upd_same, by rw [List.length_append, la]; rfl, ?_, ?_⟩
      · intro b o e
        have nb : b ≠ D1 := fun z => by
          rw [z, nD] at e
          cases e
        rw [upd_ne nb]
        exact t12 _ _ e
      · exact Lw.Paired.app ((hpk2.tk (TK.of_same (t1.trans t2))).tk tk) (.cons (pn.tk tk) .nil)
      · rw [eT]
        exact Lw.Paired.app hls (.cons hl1 .nil)
    · rintro H2 ⟨s2, acc, ls, ea, la, hpk2, hls⟩
      rw [show kk.take us.length = kk by rw [lkk, List.take_length]] at hls
      refine ⟨D1, acc, rfl, .inl ⟨SqL.of ea, fun ov nov => ?_⟩⟩
      have t3 := same_new (o := .tup acc) nov
      exact rest _ _ ⟨ov, ⟨_, rfl⟩, cp.on (s2.trans t3) (Nat.le_refl _), acc, ls, upd_same, la, hpk2.tk (TK.of_same t3), hls⟩
  clear eq hvl hvs cp
  rintro σ Hx ⟨ov, ⟨y9, rfl⟩, cp, os, ls, eov, los, pov, hov⟩
  obtain ⟨vs, eq, hvl, hvs⟩ := cp.ls
  refine later3 (fun σ Hx => (∃ y8 y9, σ = [some (.ref a), some (.ref b), some vo, some (.int ((us.length : Nat) : Int)), some (.int ((1 + r : Nat) : Int)), some (.ref top), some (.ref low), some (.ref q), y8, y9, none]) ∧ Cp a b top low q us kk vo no kvs fs H (m + 13) 10 Hx) (fun rest => ?_) ?_
  · have w0 : TK Hx Hx := fun _ _ e => e
    have k0 := Kp.refl a Hx
    have h0 := cp.hd
    refine ⟨_, rfl, .inl ⟨rfl, _, SqL.of eq⟩, _, rfl, _, rfl, (by show 2 ≤ sizeLine; decide), fun p1 n1 => ?_⟩
    have t1 := same_new (o := .tup [vo, .ref top]) n1
    have u1 := TK.of_same t1
    have k1 := k0.trans (Kp.of_same t1)
    have h1 := h0.same t1
    have w1 := w0.trans u1
    refine ⟨(by show 2 ≤ sizeLine; decide), fun p2 n2 => ?_⟩
    have t2 := same_new (o := .tup [.str "least", .ref p1]) n2
    have u2 := TK.of_same t2
    have k2 := k1.trans (Kp.of_same t2)
    have h2 := h1.same t2
    have w2 := w1.trans u2
    refine ⟨_, rfl, (by show 2 ≤ sizeLine; decide), fun p3 n3 => ?_⟩
    have t3 := same_new (o := .tup [.str "greatest", .ref ov]) n3
    have u3 := TK.of_same t3
    have k3 := k2.trans (Kp.of_same t3)
    have h3 := h2.same t3
    have w3 := w2.trans u3
    refine ⟨(by show 2 ≤ sizeLine; decide), fun p4 n4 => ?_⟩
    have t4 := same_new (o := .tup [.ref p2, .ref p3]) n4
    have u4 := TK.of_same t4
    have k4 := k3.trans (Kp.of_same t4)
    have h4 := h3.same t4
    have w4 := w3.trans u4
    have f1 := (u2.trans (u3.trans (u4))) p1 _ (made (o := .tup [vo, .ref top]) n1)
    have f2 := (u3.trans (u4)) p2 _ (made (o := .tup [.str "least", .ref p1]) n2)
    have f3 := (u4) p3 _ (made (o := .tup [.str "greatest", .ref ov]) n3)
    have f4 := (made (o := .tup [.ref p2, .ref p3]) n4)
    obtain ⟨PK, PO, EB, ET, EL, PT, PL⟩ := cp.whole ht hl l1 l4 w4
    obtain ⟨r1, hx1⟩ := ex2L no t
    have pa := pick2L PO PT f2 f1 hx1
    have pb := pickG (pov.tk w4) f3 (w4 _ _ eov) (least_over ht hx1 hov.length.symm (fun i m l x y => by have z := Lw.Paired.get i hov x y; exact z)) (by omega) (by omega)
    exact ⟨q, vs, _, rfl, rfl, k4 _ _ nqa eq, Nat.lt_of_le_of_lt (show vs.length ≤ 1000 by omega) (by decide), rest _ _ ⟨⟨_, _, rfl⟩, cp.add (ws := [_]) w4 k4 (h4.mono (by omega)) nqa eq hvl hvs (pr_one f4 pa pb)⟩⟩
  clear eq hvl hvs cp
  rintro σ Hx ⟨⟨y8, y9, rfl⟩, cp⟩
  obtain ⟨vs, eq, hvl, hvs⟩ := cp.ls
  clear pov hov los eov
  refine later3 (fun σ Hx => ∃ ov, (∃ y8, σ = [some (.ref a), some (.ref b), some vo, some (.int ((us.length : Nat) : Int)), some (.int ((1 + r : Nat) : Int)), some (.ref top), some (.ref low), some (.ref q), y8, some (.ref ov), none]) ∧ Cp a b top low q us kk vo no kvs fs H (m + 13) 10 Hx ∧ ∃ os ls, Hx ov = some (.tup os) ∧ os.length = us.length ∧ Picks Hx kvs fs 3 os ls ∧ Paired (fun m l => IsKth id [no, m] 1 l) kk ls) (fun rest => ?_) ?_
  · refine ⟨_, rfl, b, rfl, ⟨_, SqT.of cp.eb⟩, fun D1 nD => ?_⟩
    refine Lw.lc_tup (xs := us) (fun j H' => Same Hx H' ∧ ∃ acc ls, H' D1 = some (.lst acc) ∧ acc.length = j ∧ Picks H' kvs fs 3 acc ls ∧ Paired (fun m l => IsKth id [no, m] 1 l) (kk.take j) ls) ⟨same_new nD, [], [], upd_same, rfl, .nil, .nil⟩ ?_ ?_ ?_
    · rintro j H' _ ⟨s2, _⟩
      exact SqT.of (s2 _ _ cp.eb)
    · rintro j x H2 hx ⟨s2, acc, ls, ea, la, hpk2, hls⟩
      have hj := (List.getElem?_eq_some_iff.mp hx).1
      have hm2 : kk[j]? = some kk[j] := List.getElem?_eq_getElem (by omega)
      refine ⟨rfl, ?_⟩
      dsimp only [tYes]
      refine iteT ?_
      refine ⟨_, rfl, _, rfl, (by show 2 ≤ sizeLine; decide), fun p1 n1 => ⟨(by show 2 ≤ sizeLine; decide), fun p2 n2 => ?_⟩⟩
      have t1 := same_new (o := .tup [vo, x]) n1
      have t2 := same_new (o := .tup [.str "greatest", .ref p1]) n2
      have t12 := s2.trans (t1.trans t2)
      have e5 := t2 _ _ (t1 _ _ ea)
      have tk : TK (upd (upd H2 p1 (.tup [vo, x])) p2 (.tup [.str "greatest", .ref p1])) (upd (upd (upd H2 p1 (.tup [vo, x])) p2 (.tup [.str "greatest", .ref p1])) D1 (.lst (acc ++ [.ref p2]))) := TK.at e5
      have px := (Lw.Paired.get j cp.pk hx hm2).tk (TK.of_same t12)
      have po := cp.po.tk (TK.of_same t12)
      obtain ⟨l1, hl1⟩ := ex2G no kk[j]
      have pn := pick2G po px (made n2) (t2 _ _ (made n1)) hl1
      have eT : kk.take (j + 1) = kk.take j ++ [kk[j]] := by
        rw [List.take_add_one, hm2]
        rfl
      refine ⟨acc, e5, Nat.lt_of_le_of_lt (show acc.length ≤ 1000 by omega) (by decide), ?_, acc ++ [.ref p2], ls ++ [l1], upd_same, by rw [List.length_append, la]; rfl, ?_, ?_⟩
      · intro b o e
        have nb : b ≠ D1 := fun z => by
          rw [z, nD] at e
          cases e
        rw [upd_ne nb]
        exact t12 _ _ e
      · exact Lw.Paired.app ((hpk2.tk (TK.of_same (t1.trans t2))).tk tk) (.cons (pn.tk tk) .nil)
      · rw [eT]
        exact Lw.Paired.app hls (.cons hl1 .nil)
    · rintro H2 ⟨s2, acc, ls, ea, la, hpk2, hls⟩
      rw [show kk.take us.length = kk by rw [lkk, List.take_length]] at hls
      refine ⟨D1, acc, rfl, .inl ⟨SqL.of ea, fun ov nov => ?_⟩⟩
      have t3 := same_new (o := .tup acc) nov
      exact rest _ _ ⟨ov, ⟨_, rfl⟩, cp.on (s2.trans t3) (Nat.le_refl _), acc, ls, upd_same, la, hpk2.tk (TK.of_same t3), hls⟩
  clear eq hvl hvs cp
  rintro σ Hx ⟨ov, ⟨y8, rfl⟩, cp, os, ls, eov, los, pov, hov⟩
  obtain ⟨vs, eq, hvl, hvs⟩ := cp.ls
  refine later3 (fun σ Hx => (∃ y8 y9, σ = [some (.ref a), some (.ref b), some vo, some (.int ((us.length : Nat) : Int)), some (.int ((1 + r : Nat) : Int)), some (.ref top), some (.ref low), some (.ref q), y8, y9, none]) ∧ Cp a b top low q us kk vo no kvs fs H (m + 13) 11 Hx) (fun rest => ?_) ?_
  · have w0 : TK Hx Hx := fun _ _ e => e
    have k0 := Kp.refl a Hx
    have h0 := cp.hd
    refine ⟨_, rfl, .inl ⟨rfl, _, SqL.of eq⟩, _, rfl, _, rfl, (by show 2 ≤ sizeLine; decide), fun p1 n1 => ?_⟩
    have t1 := same_new (o := .tup [vo, .ref low]) n1
    have u1 := TK.of_same t1
    have k1 := k0.trans (Kp.of_same t1)
    have h1 := h0.same t1
    have w1 := w0.trans u1
    refine ⟨(by show 2 ≤ sizeLine; decide), fun p2 n2 => ?_⟩
    have t2 := same_new (o := .tup [.str "greatest", .ref p1]) n2
    have u2 := TK.of_same t2
    have k2 := k1.trans (Kp.of_same t2)
    have h2 := h1.same t2
    have w2 := w1.trans u2
    refine ⟨_, rfl, (by show 2 ≤ sizeLine; decide), fun p3 n3 => ?_⟩
    have t3 := same_new (o := .tup [.str "least", .ref ov]) n3
    have u3 := TK.of_same t3
    have k3 := k2.trans (Kp.of_same t3)
    have h3 := h2.same t3
    have w3 := w2.trans u3
    refine ⟨(by show 2 ≤ sizeLine; decide), fun p4 n4 => ?_⟩
    have t4 := same_new (o := .tup [.ref p2, .ref p3]) n4
    have u4 := TK.of_same t4
    have k4 := k3.trans (Kp.of_same t4)
    have h4 := h3.same t4
    have w4 := w3.trans u4
    have f1 := (u2.trans (u3.trans (u4))) p1 _ (made (o := .tup [vo, .ref low]) n1)
    have f2 := (u3.trans (u4)) p2 _ (made (o := .tup [.str "greatest", .ref p1]) n2)
    have f3 := (u4) p3 _ (made (o := .tup [.str "least", .ref ov]) n3)
    have f4 := (made (o := .tup [.ref p2, .ref p3]) n4)
    obtain ⟨PK, PO, EB, ET, EL, PT, PL⟩ := cp.whole ht hl l1 l4 w4
    obtain ⟨r1, hx1⟩ := ex2G no l
    have pa := pick2G PO PL f2 f1 hx1
    have pb := pickL (pov.tk w4) f3 (w4 _ _ eov) (top_over hl hx1 hov.length.symm (fun i m l x y => by have z := Lw.Paired.get i hov x y; exact z)) (by omega) (by omega)
    exact ⟨q, vs, _, rfl, rfl, k4 _ _ nqa eq, Nat.lt_of_le_of_lt (show vs.length ≤ 1000 by omega) (by decide), rest _ _ ⟨⟨_, _, rfl⟩, cp.add (ws := [_]) w4 k4 (h4.mono (by omega)) nqa eq hvl hvs (pr_one f4 pa pb)⟩⟩
  clear eq hvl hvs cp
  rintro σ Hx ⟨⟨y8, y9, rfl⟩, cp⟩
  obtain ⟨vs, eq, hvl, hvs⟩ := cp.ls
  clear pov hov los eov
  refine later3 (fun σ Hx => (∃ y8 y9, σ = [some (.ref a), some (.ref b), some vo, some (.int ((us.length : Nat) : Int)), some (.int ((1 + r : Nat) : Int)), some (.ref top), some (.ref low), some (.ref q), y8, y9, none]) ∧ Cp a b top low q us kk vo no kvs fs H (m + 13) 12 Hx) (fun rest => ?_) ?_
  · have w0 : TK Hx Hx := fun _ _ e => e
    have k0 := Kp.refl a Hx
    have h0 := cp.hd
    refine ⟨_, rfl, .inl ⟨rfl, _, SqL.of eq⟩, _, rfl, _, rfl, (by show 3 ≤ sizeLine; decide), fun p1 n1 => ?_⟩
    have t1 := same_new (o := .tup [.str "kth", .int ((1 + r : Nat) : Int), .ref b]) n1
    have u1 := TK.of_same t1
    have k1 := k0.trans (Kp.of_same t1)
    have h1 := h0.same t1
    have w1 := w0.trans u1
    refine ⟨_, rfl, _, rfl, b, us, kk, 1 + r, rr, kvs, fs, rfl, w1 _ _ cp.eb, l4, (by omega), (by omega), cp.pk.tk w1, hrr, fun v2 H2 e2 s2 => ?_⟩
    have u2 := TK.of_same s2
    have k2 := k1.trans (Kp.of_same s2)
    have h2 := h1.same s2
    have w2 := w1.trans u2
    refine ⟨(by show 2 ≤ sizeLine; decide), fun p3 n3 => ?_⟩
    have t3 := same_new (o := .tup [.ref p1, v2]) n3
    have u3 := TK.of_same t3
    have k3 := k2.trans (Kp.of_same t3)
    have h3 := h2.same t3
    have w3 := w2.trans u3
    have f1 := (u2.trans (u3)) p1 _ (made (o := .tup [.str "kth", .int ((1 + r : Nat) : Int), .ref b]) n1)
    have f2 := e2.tk (u3)
    have f3 := (made (o := .tup [.ref p1, v2]) n3)
    obtain ⟨PK, PO, EB, ET, EL, PT, PL⟩ := cp.whole ht hl l1 l4 w3
    have pa := pickK PK f1 EB hrr (by omega) (by omega) (by omega)
    have pb := f2
    exact ⟨q, vs, _, rfl, rfl, k3 _ _ nqa eq, Nat.lt_of_le_of_lt (show vs.length ≤ 1000 by omega) (by decide), rest _ _ ⟨⟨_, _, rfl⟩, cp.add (ws := [_]) w3 k3 (h3.mono (by omega)) nqa eq hvl hvs (pr_one f3 pa pb)⟩⟩
  clear eq hvl hvs cp
  rintro σ Hx ⟨⟨y8, y9, rfl⟩, cp⟩
  obtain ⟨vs, eq, hvl, hvs⟩ := cp.ls
  refine later3 (fun σ Hx => (∃ y8 y9, σ = [some (.ref a), some (.ref b), some vo, some (.int ((us.length : Nat) : Int)), some (.int ((1 + r : Nat) : Int)), some (.ref top), some (.ref low), some (.ref q), y8, y9, none]) ∧ Cp a b top low q us kk vo no kvs fs H (m + 13) 13 Hx) (fun rest => ?_) ?_
  · have w0 : TK Hx Hx := fun _ _ e => e
    have k0 := Kp.refl a Hx
    have h0 := cp.hd
    refine ⟨_, rfl, .inl ⟨rfl, _, SqL.of eq⟩, _, rfl, _, rfl, (by show 1 ≤ sizeLine; decide), fun p1 n1 => ?_⟩
    have t1 := same_new (o := .tup [.str "none"]) n1
    have u1 := TK.of_same t1
    have k1 := k0.trans (Kp.of_same t1)
    have h1 := h0.same t1
    have w1 := w0.trans u1
    refine ⟨(by show 1 ≤ sizeLine; decide), fun p2 n2 => ?_⟩
    have t2 := same_new (o := .tup [.ref p1]) n2
    have u2 := TK.of_same t2
    have k2 := k1.trans (Kp.of_same t2)
    have h2 := h1.same t2
    have w2 := w1.trans u2
    refine ⟨b, p2, us, [.ref p1], rfl, rfl, w2 _ _ cp.eb, upd_same, (Nat.le_trans (show us.length + 1 ≤ 1000 by omega) (by decide)), fun p3 H3 s3 e3 o3 => ?_⟩
    have u3 := TK.of_same s3
    have k3 := k2.trans (Kp.of_same s3)
    have h3 := h2.same s3
    have w3 := w2.trans u3
    refine ⟨(by show 3 ≤ sizeLine; decide), fun p4 n4 => ?_⟩
    have t4 := same_new (o := .tup [.str "kth", .int ((1 + r : Nat) : Int), .ref p3]) n4
    have u4 := TK.of_same t4
    have k4 := k3.trans (Kp.of_same t4)
    have h4 := h3.same t4
    have w4 := w3.trans u4
    refine ⟨_, rfl, _, rfl, (by show 3 ≤ sizeLine; decide), fun p5 n5 => ?_⟩
    have t5 := same_new (o := .tup [.str "kth", .int ((1 + r : Nat) : Int), .ref b]) n5
    have u5 := TK.of_same t5
    have k5 := k4.trans (Kp.of_same t5)
    have h5 := h4.same t5
    have w5 := w4.trans u5
    refine ⟨(by show 2 ≤ sizeLine; decide), fun p6 n6 => ?_⟩
    have t6 := same_new (o := .tup [.ref p4, .ref p5]) n6
    have u6 := TK.of_same t6
    have k6 := k5.trans (Kp.of_same t6)
    have h6 := h5.same t6
    have w6 := w5.trans u6
    have f1 := (u2.trans (u3.trans (u4.trans (u5.trans (u6))))) p1 _ (made (o := .tup [.str "none"]) n1)
    have f2 := (u3.trans (u4.trans (u5.trans (u6)))) p2 _ (made (o := .tup [.ref p1]) n2)
    have f3 := (u4.trans (u5.trans (u6))) p3 _ e3
    have f4 := (u5.trans (u6)) p4 _ (made (o := .tup [.str "kth", .int ((1 + r : Nat) : Int), .ref p3]) n4)
    have f5 := (u6) p5 _ (made (o := .tup [.str "kth", .int ((1 + r : Nat) : Int), .ref b]) n5)
    have f6 := (made (o := .tup [.ref p4, .ref p5]) n6)
    obtain ⟨PK, PO, EB, ET, EL, PT, PL⟩ := cp.whole ht hl l1 l4 w6
    have pa := pickK (picks_snoc PK (.non f1)) f4 f3 (kth_add_none hrr) (by omega) (by rw [List.length_append, List.length_singleton]; omega) (by rw [List.length_append, List.length_singleton]; omega)
    have pb := pickK PK f5 EB hrr (by omega) (by omega) (by omega)
    exact ⟨q, vs, _, rfl, rfl, k6 _ _ nqa eq, Nat.lt_of_le_of_lt (show vs.length ≤ 1000 by omega) (by decide), rest _ _ ⟨⟨_, _, rfl⟩, cp.add (ws := [_]) w6 k6 (h6.mono (by omega)) nqa eq hvl hvs (pr_one f6 pa pb)⟩⟩
  clear eq hvl hvs cp
  rintro σ Hx ⟨⟨y8, y9, rfl⟩, cp⟩
  obtain ⟨vs, eq, hvl, hvs⟩ := cp.ls
  refine later3 (fun σ Hx => (∃ y8 y9, σ = [some (.ref a), some (.ref b), some vo, some (.int ((us.length : Nat) : Int)), some (.int ((1 + r : Nat) : Int)), some (.ref top), some (.ref low), some (.ref q), y8, y9, none]) ∧ Cp a b top low q us kk vo no kvs fs H (m + 13) 14 Hx) (fun rest => ?_) ?_
  · have w0 : TK Hx Hx := fun _ _ e => e
    have k0 := Kp.refl a Hx
    have h0 := cp.hd
    refine ⟨_, rfl, .inl ⟨rfl, _, SqL.of eq⟩, _, rfl, _, _, rfl, rfl, _, rfl, (by show 1 ≤ sizeLine; decide), fun p1 n1 => ?_⟩
    have t1 := same_new (o := .tup [.str "none"]) n1
    have u1 := TK.of_same t1
    have k1 := k0.trans (Kp.of_same t1)
    have h1 := h0.same t1
    have w1 := w0.trans u1
    refine ⟨(by show 1 ≤ sizeLine; decide), fun p2 n2 => ?_⟩
    have t2 := same_new (o := .tup [.ref p1]) n2
    have u2 := TK.of_same t2
    have k2 := k1.trans (Kp.of_same t2)
    have h2 := h1.same t2
    have w2 := w1.trans u2
    refine ⟨b, p2, us, [.ref p1], rfl, rfl, w2 _ _ cp.eb, upd_same, (Nat.le_trans (show us.length + 1 ≤ 1000 by omega) (by decide)), fun p3 H3 s3 e3 o3 => ?_⟩
    have u3 := TK.of_same s3
    have k3 := k2.trans (Kp.of_same s3)
    have h3 := h2.same s3
    have w3 := w2.trans u3
    refine ⟨(by show 3 ≤ sizeLine; decide), fun p4 n4 => ?_⟩
    have t4 := same_new (o := .tup [.str "kth", .int ((us.length + 1 : Nat) : Int), .ref p3]) n4
    have u4 := TK.of_same t4
    have k4 := k3.trans (Kp.of_same t4)
    have h4 := h3.same t4
    have w4 := w3.trans u4
    refine ⟨(by show 1 ≤ sizeLine; decide), fun p5 n5 => ?_⟩
    have t5 := same_new (o := .tup [.str "none"]) n5
    have u5 := TK.of_same t5
    have k5 := k4.trans (Kp.of_same t5)
    have h5 := h4.same t5
    have w5 := w4.trans u5
    refine ⟨(by show 2 ≤ sizeLine; decide), fun p6 n6 => ?_⟩
    have t6 := same_new (o := .tup [.ref p4, .ref p5]) n6
    have u6 := TK.of_same t6
    have k6 := k5.trans (Kp.of_same t6)
    have h6 := h5.same t6
    have w6 := w5.trans u6
    have f1 := (u2.trans (u3.trans (u4.trans (u5.trans (u6))))) p1 _ (made (o := .tup [.str "none"]) n1)
    have f2 := (u3.trans (u4.trans (u5.trans (u6)))) p2 _ (made (o := .tup [.ref p1]) n2)
    have f3 := (u4.trans (u5.trans (u6))) p3 _ e3
    have f4 := (u5.trans (u6)) p4 _ (made (o := .tup [.str "kth", .int ((us.length + 1 : Nat) : Int), .ref p3]) n4)
    have f5 := (u6) p5 _ (made (o := .tup [.str "none"]) n5)
    have f6 := (made (o := .tup [.ref p4, .ref p5]) n6)
    obtain ⟨PK, PO, EB, ET, EL, PT, PL⟩ := cp.whole ht hl l1 l4 w6
    have hx1 := low_none kk
    rw [← lkk] at hx1
    have pa := pickK (picks_snoc PK (.non f1)) f4 f3 hx1 (by omega) (by rw [List.length_append, List.length_singleton]; omega) (by rw [List.length_append, List.length_singleton]; omega)
    have pb := Pick.non (n := 1) (kvs := kvs) (fs := fs) f5
    exact ⟨q, vs, _, rfl, rfl, k6 _ _ nqa eq, Nat.lt_of_le_of_lt (show vs.length ≤ 1000 by omega) (by decide), rest _ _ ⟨⟨_, _, rfl⟩, cp.add (ws := [_]) w6 k6 (h6.mono (by omega)) nqa eq hvl hvs (pr_one f6 pa pb)⟩⟩
  clear eq hvl hvs cp
  rintro σ Hx ⟨⟨y8, y9, rfl⟩, cp⟩
  obtain ⟨vs, eq, hvl, hvs⟩ := cp.ls
  refine later3 (fun σ Hx => (∃ y8 y9, σ = [some (.ref a), some (.ref b), some vo, some (.int ((us.length : Nat) : Int)), some (.int ((1 + r : Nat) : Int)), some (.ref top), some (.ref low), some (.ref q), y8, y9, none]) ∧ Cp a b top low q us kk vo no kvs fs H (m + 13) 15 Hx) (fun rest => ?_) ?_
  · have w0 : TK Hx Hx := fun _ _ e => e
    have k0 := Kp.refl a Hx
    have h0 := cp.hd
    refine ⟨_, rfl, .inl ⟨rfl, _, SqL.of eq⟩, _, rfl, (by show 1 ≤ sizeLine; decide), fun p1 n1 => ?_⟩
    have t1 := same_new (o := .tup [.str "none"]) n1
    have u1 := TK.of_same t1
    have k1 := k0.trans (Kp.of_same t1)
    have h1 := h0.same t1
    have w1 := w0.trans u1
    refine ⟨(by show 2 ≤ sizeLine; decide), fun p2 n2 => ?_⟩
    have t2 := same_new (o := .tup [vo, .ref p1]) n2
    have u2 := TK.of_same t2
    have k2 := k1.trans (Kp.of_same t2)
    have h2 := h1.same t2
    have w2 := w1.trans u2
    refine ⟨(by show 2 ≤ sizeLine; decide), fun p3 n3 => ?_⟩
    have t3 := same_new (o := .tup [.str "least", .ref p2]) n3
    have u3 := TK.of_same t3
    have k3 := k2.trans (Kp.of_same t3)
    have h3 := h2.same t3
    have w3 := w2.trans u3
    refine ⟨(by show 1 ≤ sizeLine; decide), fun p4 n4 => ?_⟩
    have t4 := same_new (o := .tup [.str "none"]) n4
    have u4 := TK.of_same t4
    have k4 := k3.trans (Kp.of_same t4)
    have h4 := h3.same t4
    have w4 := w3.trans u4
    refine ⟨(by show 2 ≤ sizeLine; decide), fun p5 n5 => ?_⟩
    have t5 := same_new (o := .tup [.ref p3, .ref p4]) n5
    have u5 := TK.of_same t5
    have k5 := k4.trans (Kp.of_same t5)
    have h5 := h4.same t5
    have w5 := w4.trans u5
    have f1 := (u2.trans (u3.trans (u4.trans (u5)))) p1 _ (made (o := .tup [.str "none"]) n1)
    have f2 := (u3.trans (u4.trans (u5))) p2 _ (made (o := .tup [vo, .ref p1]) n2)
    have f3 := (u4.trans (u5)) p3 _ (made (o := .tup [.str "least", .ref p2]) n3)
    have f4 := (u5) p4 _ (made (o := .tup [.str "none"]) n4)
    have f5 := (made (o := .tup [.ref p3, .ref p4]) n5)
    obtain ⟨PK, PO, EB, ET, EL, PT, PL⟩ := cp.whole ht hl l1 l4 w5
    have pa := pick2L PO (Pick.non (n := 1) f1) f3 f2 (low_none [no])
    have pb := Pick.non (n := 1) (kvs := kvs) (fs := fs) f4
    exact ⟨q, vs, _, rfl, rfl, k5 _ _ nqa eq, Nat.lt_of_le_of_lt (show vs.length ≤ 1000 by omega) (by decide), rest _ _ ⟨⟨_, _, rfl⟩, cp.add (ws := [_]) w5 k5 (h5.mono (by omega)) nqa eq hvl hvs (pr_one f5 pa pb)⟩⟩
  clear eq hvl hvs cp
  rintro σ Hx ⟨⟨y8, y9, rfl⟩, cp⟩
  obtain ⟨vs, eq, hvl, hvs⟩ := cp.ls
  have w0 : TK Hx Hx := fun _ _ e => e
  have k0 := Kp.refl a Hx
  have h0 := cp.hd
  refine ⟨_, rfl, (by show 1 ≤ sizeLine; decide), fun p1 n1 => ?_⟩
  have t1 := same_new (o := .tup [.str "none"]) n1
  have u1 := TK.of_same t1
  have k1 := k0.trans (Kp.of_same t1)
  have h1 := h0.same t1
  have w1 := w0.trans u1
  refine ⟨_, rfl, (by show 2 ≤ sizeLine; decide), fun p2 n2 => ?_⟩
  have t2 := same_new (o := .tup [.ref p1, vo]) n2
  have u2 := TK.of_same t2
  have k2 := k1.trans (Kp.of_same t2)
  have h2 := h1.same t2
  have w2 := w1.trans u2
  refine ⟨(by show 2 ≤ sizeLine; decide), fun p3 n3 => ?_⟩
  have t3 := same_new (o := .tup [.str "greatest", .ref p2]) n3
  have u3 := TK.of_same t3
  have k3 := k2.trans (Kp.of_same t3)
  have h3 := h2.same t3
  have w3 := w2.trans u3
  refine ⟨_, rfl, (by show 2 ≤ sizeLine; decide), fun p4 n4 => ?_⟩
  have t4 := same_new (o := .tup [.ref p3, vo]) n4
  have u4 := TK.of_same t4
  have k4 := k3.trans (Kp.of_same t4)
  have h4 := h3.same t4
  have w4 := w3.trans u4
  refine ⟨_, rfl, (by show 1 ≤ sizeLine; decide), fun p5 n5 => ?_⟩
  have t5 := same_new (o := .tup [vo]) n5
  have u5 := TK.of_same t5
  have k5 := k4.trans (Kp.of_same t5)
  have h5 := h4.same t5
  have w5 := w4.trans u5
  refine ⟨(by show 3 ≤ sizeLine; decide), fun p6 n6 => ?_⟩
  have t6 := same_new (o := .tup [.str "kth", .int ((1 : Nat) : Int), .ref p5]) n6
  have u6 := TK.of_same t6
  have k6 := k5.trans (Kp.of_same t6)
  have h6 := h5.same t6
  have w6 := w5.trans u6
  refine ⟨_, rfl, (by show 2 ≤ sizeLine; decide), fun p7 n7 => ?_⟩
  have t7 := same_new (o := .tup [.ref p6, vo]) n7
  have u7 := TK.of_same t7
  have k7 := k6.trans (Kp.of_same t7)
  have h7 := h6.same t7
  have w7 := w6.trans u7
  refine ⟨(by show 2 ≤ sizeLine; decide), fun p8 n8 => ?_⟩
  have t8 := same_new (o := .lst [.ref p4, .ref p7]) n8
  have u8 := TK.of_same t8
  have k8 := k7.trans (Kp.of_same t8)
  have h8 := h7.same t8
  have w8 := w7.trans u8
  have f1 := (u2.trans (u3.trans (u4.trans (u5.trans (u6.trans (u7.trans (u8))))))) p1 _ (made (o := .tup [.str "none"]) n1)
  have f2 := (u3.trans (u4.trans (u5.trans (u6.trans (u7.trans (u8)))))) p2 _ (made (o := .tup [.ref p1, vo]) n2)
  have f3 := (u4.trans (u5.trans (u6.trans (u7.trans (u8))))) p3 _ (made (o := .tup [.str "greatest", .ref p2]) n3)
  have f4 := (u5.trans (u6.trans (u7.trans (u8)))) p4 _ (made (o := .tup [.ref p3, vo]) n4)
  have f5 := (u6.trans (u7.trans (u8))) p5 _ (made (o := .tup [vo]) n5)
  have f6 := (u7.trans (u8)) p6 _ (made (o := .tup [.str "kth", .int ((1 : Nat) : Int), .ref p5]) n6)
  have f7 := (u8) p7 _ (made (o := .tup [.ref p6, vo]) n7)
  obtain ⟨PK, PO, EB, ET, EL, PT, PL⟩ := cp.whole ht hl l1 l4 w8
  have hx1 : IsKth id [[], no] 1 no := top_iff.mpr ⟨List.mem_cons_of_mem _ (List.mem_singleton_self _), fun m hm => by
    rcases List.mem_cons.mp hm with z | z
    · rw [z]
      exact lex_nil no
    · rw [List.mem_singleton.mp z]
      exact lex_irr no⟩
  have hx2 : IsKth id [no] 1 no := top_iff.mpr ⟨List.mem_singleton_self _, fun m hm => by
    rw [List.mem_singleton.mp hm]
    exact lex_irr no⟩
  have pa := pick2G (Pick.non (n := 1) f1) PO f3 f2 hx1
  have pb := PO
  have pc := pickK (.cons PO .nil) f6 f5 hx2 (Nat.le_refl 1) (by decide : 1 ≤ 1) (by decide : 1 ≤ 100)
  refine ⟨q, p8, vs, _, rfl, rfl, k8 _ _ nqa eq, made n8, Nat.le_trans (show vs.length + 2 ≤ 1000 by omega) (by decide), fun p9 n9 => ?_⟩
  have t9 := same_new (o := .lst (vs ++ [.ref p4, .ref p7])) n9
  refine qq p9 _ _ (made n9) (h8.new n9) (fun v hv => ?_) ((h8.same t9).mono (by omega)) (cp.kp.trans (k8.trans (Kp.of_same t9)))
  rcases List.mem_append.mp hv with z | z
  · exact ((hvs v z).tk w8).tk (TK.of_same t9)
  · exact (pr_two (pr_one f4 pa pb) (pr_one f7 pc pb) v z).tk (TK.of_same t9)
end

end Z

namespace Z
open PySem PySem.Spec PyProof.Rows L2 Lw

section
variable {P : Program} {w : World} {K : PySem.W.Frag} {mg : Str → Option Value} {base : Heap}
theorem paired_tk {H H' : Hp} (s : TK H H') : ∀ {ps : List Addr} {kvs : List (Key × V)}, Paired (fun p (kv : Key × V) => H p = some (.tup [kV kv.1, kv.2])) ps kvs → Paired (fun p (kv : Key × V) => H' p = some (.tup [kV kv.1, kv.2])) ps kvs
  | _, _, .nil => .nil
  | _, _, .cons h t => .cons (s _ _ h) (paired_tk s t)
theorem paired_sq {H : Hp} : ∀ {ps : List Addr} {kvs : List (Key × V)}, Paired (fun p (kv : Key × V) => H p = some (.tup [kV kv.1, kv.2])) ps kvs → Paired (fun p (kv : Key × V) => SqT K H p [kV kv.1, kv.2]) ps kvs
  | _, _, .nil => .nil
  | _, _, .cons h t => .cons (SqT.of h) (paired_sq t)
theorem hd_LL {H : Hp} {a : Addr} {n : Nat} (h : Hd H a n) : LL [a] H := fun b hb => by
  obtain ⟨_, _, _, e, _⟩ := h
  rw [List.mem_singleton.mp hb]
  exact ⟨_, e⟩
theorem nk3 {H : Hp} {p : Addr} {x y z : Int} (e : H p = some (.tup [.int x, .int y, .int z])) (hx : x.natAbs < 10 ^ 62) (hy : y.natAbs < 1000) (hz : z.natAbs < 1000) : Nk H (.ref p) [x, y, z] :=
  ⟨p, rfl, e, .inr ⟨x, y, z, rfl, hx, Nat.lt_trans hy (by decide +kernel), Nat.lt_trans hz (by decide +kernel)⟩⟩
def sp_right : Sp := fun vs H Q _ => ∃ (a nm : Addr) (m : Nat) (ws : List Str), vs = [.ref a, .ref nm] ∧ Hd H a m ∧ m ≤ 600000 ∧ H nm = some (.tup (ws.map V.str)) ∧ ws.length ≤ 4 ∧ (∀ z ∈ ws, Lt z ∧ z.length ≤ 8) ∧ ∀ H', Hd H' a (m + 1000) → Kp a H H' → Q (.bl true) H'
theorem ok_right (T : Txt K mg) {k : Nat} : FnG P w K mg base (k + 12) T.f__law_right T.fd__law_right ["_law_hand_here", "_law_names_here"] sp_right := by
  have G__law_take := (ok_take (P := P) (w := w) (base := base) T (k := k)).mono (show k + 1 ≤ k + 11 by omega)
  have G__law_of := (ok_of (P := P) (w := w) (base := base) T (k := k)).mono (show k + 2 ≤ k + 11 by omega)
  have G__law_pick := (ok_pick (P := P) (w := w) (base := base) T (k := k) 1).mono (show k + 3 + 1 ≤ k + 11 by omega)
  have G__law_pairs := (ok_pairs (P := P) (w := w) (base := base) T (k := k)).mono (show k + 3 ≤ k + 11 by omega)
  have G_chosen := (ok_chosen (P := P) (w := w) (base := base) T (k := k) 8).mono (show k + 3 + 8 ≤ k + 11 by omega)
  refine okG (k := k + 11) T.F__law_right sc__law_right (fun vs H Q E h => ?_) (fun cdv A outer s H vs Q E hgd hr h => ?_)
  · obtain ⟨a, nm, m, ws, rfl, _⟩ := h
    rfl
  obtain ⟨a, nm, m, ws, rfl, ha, hm, hnm, hws, hw, q⟩ := h
  refine ⟨_, (pss_cons (ps_asg (pe_tup (pa_cons (pe_call G__law_take hr (by rfl) T.g__law_take T.k__law_take T.b__law_take .nil pass0 (pa_cons (pv 0) (pa_cons pe_int pa_nil))) (pa_cons (pe_op op_add pe_int (pe_call G__law_take hr (by rfl) T.g__law_take T.k__law_take T.b__law_take .nil pass0 (pa_cons (pv 0) (pa_cons pe_int pa_nil)))) pa_nil))) (pg_tup rfl (pgs_cons (pg_name (i := 2) sc__law_right.nd rfl (.inr rfl)) (pgs_cons (pg_name (i := 3) sc__law_right.nd rfl (.inr rfl)) pgs_nil))))
      (pss_cons (ps_set (i := 4) sc__law_right.nd rfl (.inr rfl) (pe_lst (pa_cons (pe_tup pa_nil) (pa_cons (pe_tup (pa_cons (pe_call G__law_take hr (by rfl) T.g__law_take T.k__law_take T.b__law_take .nil pass0 (pa_cons (pv 0) (pa_cons pe_int pa_nil))) (pa_cons pe_int (pa_cons pe_int pa_nil)))) (pa_cons (pe_tup (pa_cons (pe_call G__law_take hr (by rfl) T.g__law_take T.k__law_take T.b__law_take .nil pass0 (pa_cons (pv 0) (pa_cons pe_int pa_nil))) (pa_cons pe_int (pa_cons pe_int pa_nil)))) (pa_cons (pe_tup (pa_cons (pe_op op_sub (pe_op op_pow pe_int pe_int) (pe_call G__law_take hr (by rfl) T.g__law_take T.k__law_take T.b__law_take .nil pass0 (pa_cons (pv 0) (pa_cons pe_int pa_nil)))) (pa_cons pe_int (pa_cons pe_int pa_nil)))) pa_nil))))))
      (pss_cons (ps_set (i := 5) sc__law_right.nd rfl (.inl rfl) (pe_callTy (call_dictP rfl) (by rfl) T.m_dict (by decide +kernel) (pa_cons (pe_lc (own := [("_law_name", 11)]) (g := gName 11) (tt := tYes) rfl sc__law_right.nd (pi_tup (pv 1)) (blkOk_by (N := ["_law_hand_here", "_law_names_here", "_law_count", "_law_spot", "_law_some", "_law_kept", "_law_fresh", "_law_row", "_law_other", "_law_one", "_law_same", "_law_name", "_law_place", "_law_turn"]) (sc := defScope s__law_right) (by decide +kernel)) (fun _ _ _ _ _ => (pg_name (i := 11) sc__law_right.nd rfl (Or.inl rfl))) (fun _ _ _ _ _ => pts_nil) (fun _ _ _ _ _ => (pe_tup (pa_cons (pv 11) (pa_cons (pe_call G__law_of hr (by rfl) T.g__law_of T.k__law_of T.b__law_of .nil pass0 (pa_cons (pv 0) (pa_cons (pv 4) pa_nil))) pa_nil))))) pa_nil)))
      (pss_cons (ps_set (i := 6) sc__law_right.nd rfl (.inl rfl) (pe_callTy call_tuple_of (by rfl) T.m_tuple (by decide +kernel) (pa_cons (pe_lc (own := [("_law_place", 12)]) (g := gName 12) (tt := tYes) rfl sc__law_right.nd (pi_range1 (by rfl) T.m_range (pa_cons (pv 2) pa_nil)) (blkOk_by (N := ["_law_hand_here", "_law_names_here", "_law_count", "_law_spot", "_law_some", "_law_kept", "_law_fresh", "_law_row", "_law_other", "_law_one", "_law_same", "_law_name", "_law_place", "_law_turn"]) (sc := defScope s__law_right) (by decide +kernel)) (fun _ _ _ _ _ => (pg_name (i := 12) sc__law_right.nd rfl (Or.inl rfl))) (fun _ _ _ _ _ => pts_nil) (fun _ _ _ _ _ => (pe_tup (pa_cons (pe_call G__law_take hr (by rfl) T.g__law_take T.k__law_take T.b__law_take .nil pass0 (pa_cons (pv 0) (pa_cons pe_int pa_nil))) (pa_cons (pv 3) (pa_cons (pv 12) pa_nil)))))) pa_nil)))
      (pss_cons (ps_set (i := 7) sc__law_right.nd rfl (.inl rfl) (pe_callTy call_tuple_of (by rfl) T.m_tuple (by decide +kernel) (pa_cons (pe_lc (own := [("_law_turn", 13)]) (g := gName 13) (tt := tYes) rfl sc__law_right.nd (pi_range1 (by rfl) T.m_range (pa_cons (pe_op op_add pe_int (pe_call G__law_take hr (by rfl) T.g__law_take T.k__law_take T.b__law_take .nil pass0 (pa_cons (pv 0) (pa_cons pe_int pa_nil)))) pa_nil)) (blkOk_by (N := ["_law_hand_here", "_law_names_here", "_law_count", "_law_spot", "_law_some", "_law_kept", "_law_fresh", "_law_row", "_law_other", "_law_one", "_law_same", "_law_name", "_law_place", "_law_turn"]) (sc := defScope s__law_right) (by decide +kernel)) (fun _ _ _ _ _ => (pg_name (i := 13) sc__law_right.nd rfl (Or.inl rfl))) (fun _ _ _ _ _ => pts_nil) (fun _ _ _ _ _ => (pe_call G__law_pick hr (by rfl) T.g__law_pick T.k__law_pick T.b__law_pick .nil pass0 (pa_cons (pv 0) (pa_cons (pv 1) (pa_cons (pv 2) (pa_cons pe_int pa_nil))))))) pa_nil)))
      (pss_cons (ps_set (i := 8) sc__law_right.nd rfl (.inl rfl) (pe_call G__law_pick hr (by rfl) T.g__law_pick T.k__law_pick T.b__law_pick .nil pass0 (pa_cons (pv 0) (pa_cons (pv 1) (pa_cons (pv 2) (pa_cons pe_int pa_nil))))))
      (pss_cons (ps_for PassesOwn.never rfl (pi_list (pe_call G__law_pairs hr (by rfl) T.g__law_pairs T.k__law_pairs T.b__law_pairs .nil pass0 (pa_cons (pv 0) (pa_cons (pv 7) (pa_cons (pv 8) pa_nil))))) (pg_tup rfl (pgs_cons (pg_name (i := 9) sc__law_right.nd rfl (.inl rfl)) (pgs_cons (pg_name (i := 10) sc__law_right.nd rfl (.inl rfl)) pgs_nil))) (pss_one (ps_if (pt_cmpR op_ne (pe_callB (call_repr hgd hr) (by rfl) T.m_repr (by decide +kernel) (pa_cons (pe_call G_chosen hr (by rfl) T.g_chosen T.k_chosen T.b_chosen .nil pass0 (pa_cons (pv 9) (pa_cons (pv 5) (pa_cons (pv 6) pa_nil)))) pa_nil)) (pe_callB (call_repr hgd hr) (by rfl) T.m_repr (by decide +kernel) (pa_cons (pe_call G_chosen hr (by rfl) T.g_chosen T.k_chosen T.b_chosen .nil pass0 (pa_cons (pv 10) (pa_cons (pv 5) (pa_cons (pv 6) pa_nil)))) pa_nil)) (nomark _)) (pss_one (ps_ret pe_bl)) pss_nil)))
      (pss_one (ps_ret pe_bl))))))))), ?_⟩
  have nna : nm ≠ a := hd_tup ha hnm (by intro xs z; cases z)
  refine ⟨_, rfl, a, m, 3, rfl, ha, by omega, by decide, by decide, fun c H1 hc g1 k1 => ?_⟩
  refine ⟨_, rfl, a, m + 1, 200, rfl, g1, by omega, by decide, by decide, fun sp H2 hsp g2 k2 => ?_⟩
  refine ⟨_, _, rfl, rfl, (by show 2 ≤ sizeLine; decide), fun tt ntt => ⟨tt, _, rfl, SqT.of upd_same, rfl, _, _, rfl, _, _, rfl, rfl, ?_⟩⟩
  have t3 := same_new (o := .tup [.int (c : Int), .int (3 + (sp : Int))]) ntt
  have k03 := k1.trans (k2.trans (Kp.of_same t3))
  have g3 : Hd (upd H2 tt (.tup [.int (c : Int), .int (3 + (sp : Int))])) a (m + 2) := g2.same t3
  generalize upd H2 tt (.tup [.int (c : Int), .int (3 + (sp : Int))]) = H3 at k03 g3 ⊢
  clear t3
  dsimp only
  refine later3 (fun σ Hx => ∃ so vs, σ = [some (.ref a), some (.ref nm), some (.int (c : Int)), some (.int (3 + (sp : Int))), some (.ref so), none, none, none, none, none, none, none, none, none] ∧ so ≠ a ∧ Hx so = some (.lst vs) ∧ vs.length = 4 ∧ (∀ v ∈ vs, ∃ ns, Nk Hx v ns) ∧ Hd Hx a (m + 5) ∧ Kp a H Hx) (fun rest => ?_) ?_
  · refine ⟨(by show 0 ≤ sizeLine; decide), fun p0 n0 => ⟨_, rfl, a, m + 2, 4, rfl, g3.same (same_new n0), by omega, by decide, by decide, fun r1 Ha hr1 ga ka => ⟨(by show 3 ≤ sizeLine; decide), fun p1 n1 => ⟨_, rfl, a, m + 3, 4, rfl, ga.same (same_new n1), by omega, by decide, by decide, fun r2 Hb hr2 gb kb => ⟨(by show 3 ≤ sizeLine; decide), fun p2 n2 => ?_⟩⟩⟩⟩⟩
    have e0 := same_new (o := .tup []) n0
    have e1 := same_new (o := .tup [.int (r1 : Int), .int 0, .int 0]) n1
    have e2 := same_new (o := .tup [.int (r2 : Int), .int 1, .int 1]) n2
    have p59 : CPow 10 59 := ⟨by decide, by decide, by decide⟩
    refine ⟨_, _, rfl, rfl, p59, _, rfl, a, m + 4, 9, rfl, gb.same e2, by omega, by decide, by decide, fun r3 Hc hr3 gc kc => ⟨_, _, rfl, rfl, (by show 3 ≤ sizeLine; decide), fun p3 n3 => ⟨(by show 4 ≤ sizeLine; decide), fun so nso => ?_⟩⟩⟩
    have e3 := same_new (o := .tup [.int ((10 : Int) ^ (59 : Int).toNat - (r3 : Int)), .int 2, .int 0]) n3
    have e4 := same_new (o := .lst [.ref p0, .ref p1, .ref p2, .ref p3]) nso
    have u1 := TK.of_kp ka (g3.same e0)
    have u2 := TK.of_kp kb (ga.same e1)
    have u3 := TK.of_kp kc (gb.same e2)
    have gd := gc.same e3
    have nsa := gd.new nso
    have f0 := (u1.trans ((TK.of_same e1).trans (u2.trans ((TK.of_same e2).trans (u3.trans ((TK.of_same e3).trans (TK.of_same e4))))))) _ _ (made n0)
    have f1 := (u2.trans ((TK.of_same e2).trans (u3.trans ((TK.of_same e3).trans (TK.of_same e4))))) _ _ (made (o := .tup [.int (r1 : Int), .int 0, .int 0]) n1)
    have f2 := (u3.trans ((TK.of_same e3).trans (TK.of_same e4))) _ _ (made (o := .tup [.int (r2 : Int), .int 1, .int 1]) n2)
    have f3 := (TK.of_same e4) _ _ (made (o := .tup [.int ((10 : Int) ^ (59 : Int).toNat - (r3 : Int)), .int 2, .int 0]) n3)
    refine rest _ _ ⟨so, _, rfl, nsa, made nso, rfl, fun v hv => ?_, gd.same e4, k03.trans ((Kp.of_same e0).trans (ka.trans ((Kp.of_same e1).trans (kb.trans ((Kp.of_same e2).trans (kc.trans ((Kp.of_same e3).trans (Kp.of_same e4))))))))⟩
    simp only [List.mem_cons, List.not_mem_nil, or_false] at hv
    have b1 : ((r1 : Nat) : Int).natAbs < 10 ^ 62 := Nat.lt_trans (show ((r1 : Nat) : Int).natAbs < 1000 by omega) (by decide +kernel)
    have b2 : ((r2 : Nat) : Int).natAbs < 10 ^ 62 := Nat.lt_trans (show ((r2 : Nat) : Int).natAbs < 1000 by omega) (by decide +kernel)
    have b3 : ((10 : Int) ^ (59 : Int).toNat - (r3 : Int)).natAbs < 10 ^ 62 := by
      have e : (10 : Int) ^ (59 : Int).toNat = 100000000000000000000000000000000000000000000000000000000000 := by decide +kernel
      rw [e]
      omega
    rcases hv with e | e | e | e
    · rw [e]; exact ⟨[], p0, rfl, f0, .inl rfl⟩
    · rw [e]; exact ⟨_, nk3 f1 b1 (by decide) (by decide)⟩
    · rw [e]; exact ⟨_, nk3 f2 b2 (by decide) (by decide)⟩
    · rw [e]; exact ⟨_, nk3 f3 b3 (by decide) (by decide)⟩
  clear k03 g3
  rintro σ H3 ⟨so, vs, rfl, nsa, hso, lvs, hvs, g3, k03⟩
  -- kept
  refine later3 (fun σ Hx => ∃ kd kvs, σ = [some (.ref a), some (.ref nm), some (.int (c : Int)), some (.int (3 + (sp : Int))), some (.ref so), some (.ref kd), none, none, none, none, none, none, none, none] ∧ Hx kd = some (.dK kvs) ∧ KvP Hx ws kvs ∧ Hd Hx a (m + 30) ∧ Kp a H Hx) (fun rest => ?_) ?_
  · refine ⟨_, rfl, nm, rfl, ⟨_, SqT.of (k03 _ _ nna hnm)⟩, fun D1 n1 => ?_⟩
    have nD : D1 ≠ a := g3.new n1
    refine Lw.lc_tup (xs := ws.map V.str) (fun j H' => Hd H' a (m + 5 + 6 * j) ∧ Kp a H3 H' ∧ ∃ (ps : List Addr) (kvs : List (Key × V)), H' D1 = some (.lst (ps.map V.ref)) ∧ ps.length = j ∧ kvs.map (·.1) = (ws.take j).map Sum.inr ∧ Paired (fun p (kv : Key × V) => H' p = some (.tup [kV kv.1, kv.2])) ps kvs ∧ ∀ kv ∈ kvs, ∃ ns, Nk H' kv.2 ns) ?_ ?_ ?_ ?_
    · exact ⟨g3.same (same_new n1), Kp.of_same (same_new n1), [], [], upd_same, rfl, rfl, .nil, by intro kv hk; cases hk⟩
    · rintro j H' _ ⟨_, k4, _⟩
      exact SqT.of (k4 _ _ nna (k03 _ _ nna hnm))
    · rintro j x H4 hx ⟨g4, k4, ps, kvs, ea, la, hkeys, hpr, hnk⟩
      have hj := (List.getElem?_eq_some_iff.mp hx).1
      rw [List.length_map] at hj
      have hxz : x = .str ws[j] := by
        rw [List.getElem?_map, List.getElem?_eq_getElem hj] at hx
        exact (Option.some.inj hx).symm
      subst hxz
      refine ⟨rfl, ?_⟩
      dsimp only [tYes]
      refine iteT ?_
      refine ⟨_, rfl, _, rfl, _, rfl, a, so, _, vs, rfl, g4, by omega, k4 _ _ nsa hso, nsa, by omega, by omega, fun u H6 hu g6 k5 => ?_⟩
      obtain ⟨ns, hns⟩ := hvs u hu
      refine ⟨(by show 2 ≤ sizeLine; decide), fun pp npp => ?_⟩
      have t7 := same_new (o := .tup [.str ws[j], u]) npp
      have k47 := k5.trans (Kp.of_same t7)
      have e7 := k47 _ _ nD ea
      have tk47 := TK.of_kp k47 g4
      have tk37 := TK.of_kp (k4.trans k47) g3
      have tk8 : TK (upd H6 pp (.tup [.str ws[j], u])) (upd (upd H6 pp (.tup [.str ws[j], u])) D1 (.lst (ps.map V.ref ++ [.ref pp]))) := TK.at e7
      refine ⟨ps.map V.ref, e7, Nat.lt_of_le_of_lt (show (ps.map V.ref).length ≤ 1000 by rw [List.length_map]; omega) (by decide), ((g6.same t7).at nD).mono (by omega), (k4.trans k47).free n1, ps ++ [pp], kvs ++ [(Sum.inr ws[j], u)], by rw [upd_same, List.map_append]; rfl, by rw [List.length_append, la]; rfl, ?_, ?_, ?_⟩
      · rw [List.map_append, hkeys, List.take_add_one, List.getElem?_eq_getElem hj, List.map_append]
        rfl
      · exact Paired.snoc (paired_tk (tk47.trans tk8) hpr) (tk8 _ _ upd_same)
      · intro kv hk
        rcases List.mem_append.mp hk with y | y
        · obtain ⟨ns', h'⟩ := hnk kv y
          exact ⟨ns', (h'.tk tk47).tk tk8⟩
        · rw [List.mem_singleton.mp y]
          exact ⟨ns, (hns.tk tk37).tk tk8⟩
    rintro H4 ⟨g4, k4, ps, kvs0, ea, la, hkeys, hpr, hnk⟩
    rw [List.length_map] at la g4
    rw [List.length_map, List.take_length] at hkeys
    refine ⟨D1, ps, kvs0, rfl, SqL.of ea, paired_sq hpr, fun kd nkd => ?_⟩
    have t5 := same_new (o := .dK (mergeK [] kvs0)) nkd
    have lkv : kvs0.length = ws.length := by
      have := congrArg List.length hkeys
      rw [List.length_map, List.length_map] at this
      exact this
    have kvp : KvP (upd H4 kd (.dK (mergeK [] kvs0))) ws (mergeK [] kvs0) := by
      obtain ⟨x1, x2, x3⟩ := merge_p (good := fun kv => (∃ z ∈ ws, kv.1 = Sum.inr z) ∧ ∃ ns, Nk (upd H4 kd (.dK (mergeK [] kvs0))) kv.2 ns) kvs0 [] (by intro kv hk; cases hk) (fun kv hk => by
        refine ⟨?_, ?_⟩
        · have : kv.1 ∈ ws.map Sum.inr := by
            rw [← hkeys]
            exact List.mem_map_of_mem hk
          obtain ⟨z, hz, e⟩ := List.mem_map.mp this
          exact ⟨z, hz, e.symm⟩
        · obtain ⟨ns, h'⟩ := hnk kv hk
          exact ⟨ns, h'.same t5⟩)
      have x3' : (mergeK [] kvs0).length ≤ kvs0.length := by simpa using x3
      refine ⟨fun z hz => x2 _ (.inr ?_), x1, by omega⟩
      have : (Sum.inr z : Key) ∈ kvs0.map (·.1) := by
        rw [hkeys]
        exact List.mem_map_of_mem hz
      obtain ⟨kv, hk, e⟩ := List.mem_map.mp this
      exact ⟨kv, hk, e⟩
    exact rest _ _ ⟨kd, _, rfl, made nkd, kvp, (g4.same t5).mono (by omega), k03.trans (k4.trans (Kp.of_same t5))⟩
  clear k03 g3 hvs hso
  rintro σ Hx ⟨kd, kvs, rfl, ekd, kvp, g6, k6⟩
  have nka : kd ≠ a := hd_tup g6 ekd (by intro xs z; cases z)
  -- fresh
  refine later3 (fun σ Hy => ∃ fr fs, σ = [some (.ref a), some (.ref nm), some (.int (c : Int)), some (.int (3 + (sp : Int))), some (.ref so), some (.ref kd), some (.ref fr), none, none, none, none, none, none, none] ∧ Hy kd = some (.dK kvs) ∧ Hy fr = some (.tup fs) ∧ Cx4 Hy kvs fs ws c ∧ Hd Hy a (m + 40) ∧ Kp a H Hy) (fun rest => ?_) ?_
  · refine ⟨_, rfl, _, rfl, by omega, by omega, fun D2 n2 => ?_⟩
    have nD2 : D2 ≠ a := g6.new n2
    refine Lw.lc_range (lo := 0) (n := ((c : Int)).toNat) (fun j H' => Hd H' a (m + 30 + 2 * j) ∧ Kp a Hx H' ∧ ∃ acc, H' D2 = some (.lst acc) ∧ acc.length = j ∧ ∀ v ∈ acc, ∃ ns, Nk H' v ns) ?_ ?_ ?_
    · exact ⟨g6.same (same_new n2), Kp.of_same (same_new n2), [], upd_same, rfl, by intro v hv; cases hv⟩
    · rintro j H7 hj ⟨g7, k7, acc, ea, la, hacc⟩
      refine ⟨rfl, ?_⟩
      dsimp only [tYes]
      refine iteT ?_
      refine ⟨_, rfl, a, _, 4, rfl, g7, by omega, by decide, by decide, fun num H8 hnum g8 k8 => ?_⟩
      refine ⟨_, rfl, _, rfl, (by show 3 ≤ sizeLine; decide), fun p np => ?_⟩
      have t9 := same_new (o := .tup [.int (num : Int), .int (3 + (sp : Int)), .int (0 + (j : Int))]) np
      have k79 := k8.trans (Kp.of_same t9)
      have e9 := k79 _ _ nD2 ea
      have tk := TK.of_kp k79 g7
      have tk9 : TK (upd H8 p (.tup [.int (num : Int), .int (3 + (sp : Int)), .int (0 + (j : Int))])) (upd (upd H8 p (.tup [.int (num : Int), .int (3 + (sp : Int)), .int (0 + (j : Int))])) D2 (.lst (acc ++ [.ref p]))) := TK.at e9
      refine ⟨acc, e9, Nat.lt_of_le_of_lt (show acc.length ≤ 1000 by omega) (by decide), ((g8.same t9).at nD2).mono (by omega), (k7.trans k79).free n2, _, upd_same, by rw [List.length_append, la]; rfl, ?_⟩
      intro v hv
      rcases List.mem_append.mp hv with y | y
      · obtain ⟨ns, h'⟩ := hacc v y
        exact ⟨ns, (h'.tk tk).tk tk9⟩
      · rw [List.mem_singleton.mp y]
        exact ⟨_, Nk.tk (nk3 (made np) (Nat.lt_trans (show ((num : Nat) : Int).natAbs < 1000 by omega) (by decide +kernel)) (by omega) (by omega)) tk9⟩
    · rintro H7 ⟨g7, k7, fs, ea, la, hacc⟩
      have lf : fs.length = c := by omega
      refine ⟨D2, fs, rfl, .inl ⟨SqL.of ea, fun fr nfr => ?_⟩⟩
      have t8 := same_new (o := .tup fs) nfr
      have k68 := k7.trans (Kp.of_same t8)
      have tk8 := TK.of_kp k68 g6
      refine rest _ _ ⟨fr, fs, rfl, k68 _ _ nka ekd, made nfr, ⟨fun z hz => (kvp.tk tk8).get hz, fun i hi => ?_⟩, (g7.same t8).mono (by omega), k6.trans k68⟩
      obtain ⟨ns, h'⟩ := hacc fs[i] (List.getElem_mem (by omega))
      exact ⟨_, ns, List.getElem?_eq_getElem (by omega), h'.same t8⟩
  clear ekd kvp g6 k6
  rintro σ H8 ⟨fr, fs, rfl, ekd, efr, cx, g8, k8⟩
  have nfa : fr ≠ a := hd_tup g8 efr (by intro xs z; cases z)
  -- row
  refine later3 (fun σ Hy => ∃ ro us kk, σ = [some (.ref a), some (.ref nm), some (.int (c : Int)), some (.int (3 + (sp : Int))), some (.ref so), some (.ref kd), some (.ref fr), some (.ref ro), none, none, none, none, none, none] ∧ Hy ro = some (.tup us) ∧ 1 ≤ us.length ∧ us.length ≤ 4 ∧ Picks Hy kvs fs 1 us kk ∧ Hd Hy a (m + 100) ∧ Kp a H8 Hy) (fun rest => ?_) ?_
  · refine ⟨_, rfl, a, m + 40, 4, rfl, g8, by omega, by decide, by decide, fun r5 H5 hr5 g5 k5 => ?_⟩
    refine ⟨_, _, rfl, rfl, _, rfl, by omega, by omega, fun D3 n3 => ?_⟩
    have nD : D3 ≠ a := g5.new n3
    refine Lw.lc_range (lo := 0) (n := ((1 : Int) + (r5 : Int)).toNat) (fun j H' => Hd H' a (m + 41 + 10 * j) ∧ Kp a H5 H' ∧ ∃ (acc : List V) (kk : List (List Int)), H' D3 = some (.lst acc) ∧ acc.length = j ∧ Picks H' kvs fs 1 acc kk) ?_ ?_ ?_
    · exact ⟨(g5.same (same_new n3)).mono (by omega), Kp.of_same (same_new n3), [], [], upd_same, rfl, .nil⟩
    · rintro j H6 hj ⟨g6, k6, acc, kk, ea, la, hp⟩
      have hj4 : j ≤ 3 := by omega
      have k86 := k5.trans k6
      refine ⟨rfl, ?_⟩
      dsimp only [tYes]
      refine iteT ?_
      refine ⟨_, rfl, _, rfl, _, rfl, a, nm, c, _, ws, [a], kvs, fs, rfl, g6, (by show m + 41 + 10 * j + 10 ≤ 800000; omega), k86 _ _ nna (k8 _ _ nna hnm), hws, hw, by omega, List.mem_singleton_self _, hd_LL g6, cx.tk (TK.of_kp k86 g8), fun v d ns H7 hd bd hpk g7 k7 => ?_⟩
      have e7 := k7 _ _ nD ea
      have tk6 := TK.of_kp k7 g6
      have tk7 : TK H7 (upd H7 D3 (.lst (acc ++ [v]))) := TK.at e7
      exact ⟨acc, e7, Nat.lt_of_le_of_lt (show acc.length ≤ 1000 by omega) (by decide), (g7.at nD).mono (by show m + 41 + 10 * j + 10 ≤ m + 41 + 10 * (j + 1); omega), (k6.trans k7).free n3, acc ++ [v], kk ++ [ns], upd_same, by rw [List.length_append, la]; rfl, Lw.Paired.app ((hp.tk tk6).tk tk7) (.cons (hpk.tk tk7) .nil)⟩
    · rintro H6 ⟨g6, k6, acc, kk, ea, la, hp⟩
      refine ⟨D3, acc, rfl, .inl ⟨SqL.of ea, fun ro nro => ?_⟩⟩
      have t7 := same_new (o := .tup acc) nro
      exact rest _ _ ⟨ro, acc, kk, rfl, made nro, by omega, by omega, hp.tk (TK.of_same t7), (g6.same t7).mono (by omega), k5.trans (k6.trans (Kp.of_same t7))⟩
  rintro σ H9 ⟨ro, us, kk, rfl, ero, l1, l4, hpk, g9, k9⟩
  have nra : ro ≠ a := hd_tup g9 ero (by intro xs z; cases z)
  -- other
  refine ⟨_, rfl, _, rfl, _, rfl, a, nm, c, _, ws, [a], kvs, fs, rfl, g9, (by show m + 100 + 10 ≤ 800000; omega), k9 _ _ nna (k8 _ _ nna hnm), hws, hw, by omega, List.mem_singleton_self _, hd_LL g9, cx.tk (TK.of_kp k9 g8), fun vo d no HA hd bd hpo gA kA => ?_⟩
  have tkA := TK.of_kp kA g9
  have k8A := k9.trans kA
  -- the pairs
  refine ⟨_, rfl, _, rfl, _, rfl, a, ro, us, kk, vo, no, _, kvs, fs, rfl, gA, (by show m + 100 + 10 + 30 ≤ 700000; omega), kA _ _ nra ero, l1, l4, (hpk.tk tkA).mono (by decide), hpo.mono (by decide), fun qp wp HB eqp nqa hpr gB kB => ?_⟩
  have k8B := k8A.trans kB
  refine ⟨qp, rfl, ⟨_, SqL.of eqp⟩, for_list (xs := wp) (fun i σ H' => (∃ y9 y10, σ = [some (.ref a), some (.ref nm), some (.int (c : Int)), some (.int (3 + (sp : Int))), some (.ref so), some (.ref kd), some (.ref fr), some (.ref ro), some vo, y9, y10, none, none, none]) ∧ Same HB H') ?_ ?_ ?_ ?_⟩
  · exact ⟨⟨_, _, rfl⟩, Same.refl HB⟩
  · rintro i σ H' _ ⟨_, s1⟩
    exact SqL.of (s1 _ _ eqp)
  · rintro i x σ HC hx ⟨⟨y9, y10, rfl⟩, s1⟩
    obtain ⟨p, x1, x2, ns, rfl, ep, px, py⟩ := hpr x (List.mem_of_getElem? hx)
    have ekdC := s1 _ _ (k8B _ _ nka ekd)
    have efrC := s1 _ _ (k8B _ _ nfa efr)
    have okN : ∀ {H' : Hp} {u : V}, Nk H' u ns → D true H' u (.tuple (ns.map PyData.int)) ∧ Ok (.tuple (ns.map PyData.int)) := fun h' => by
      obtain ⟨t, e, g', sm'⟩ := h'
      subst e
      exact ⟨.tup g' (da_ints ns), (bd_note sm').ok (by decide) (by decide)⟩
    refine ⟨p, _, rfl, SqT.of (s1 _ _ ep), rfl, _, _, rfl, _, _, rfl, rfl, ?_⟩
    refine ⟨_, rfl, _, rfl, _, rfl, x1, kd, fr, kvs, fs, ns, rfl, ekdC, efrC, px.same s1, fun u1 HD hu1 s2 => ?_⟩
    have s12 := s1.trans s2
    refine ⟨u1, _, true, rfl, (okN hu1).1, fun _ => rfl, (okN hu1).2, ?_⟩
    refine ⟨_, rfl, _, rfl, _, rfl, x2, kd, fr, kvs, fs, ns, rfl, s2 _ _ ekdC, s2 _ _ efrC, py.same s12, fun u2 HE hu2 s3 => ?_⟩
    refine ⟨u2, _, true, rfl, (okN hu2).1, fun _ => rfl, (okN hu2).2, rfl, _, rfl, ?_⟩
    rw [decide_eq_true rfl]
    exact iteF ⟨⟨_, _, rfl⟩, s12.trans s3⟩
  · rintro σ HC ⟨_, s1⟩
    exact q HC ((gB.same s1).mono (by show m + 100 + 10 + 30 ≤ m + 1000; omega)) (k8.trans (k8B.trans (Kp.of_same s1)))
end

end Z

namespace Z
open PySem PySem.Spec PyProof.Rows L2 Lw

section
variable {P : Program} {w : World} {K : PySem.W.Frag} {mg : Str → Option Value} {base : Heap}
theorem onto {Hs H H' : Hp} {hp : Addr} (s : Same Hs H) (k : Kp hp H H') (n : Hs hp = none) : Same Hs H' := fun b o e => k b o (fun z => by rw [z, n] at e; cases e) (s b o e)
def sp_law (K : PySem.W.Frag) : Sp := fun vs H Q _ => ∃ (a : Addr) (ns : List Int), vs = [.ref a] ∧ SqL K H a (ns.map V.int) ∧ ns.length ≤ 63 ∧ ∀ H', Q (.bl true) H'
theorem ok_law (T : Txt K mg) {k : Nat} : FnG P w K mg base (k + 13) T.f_law T.fd_law ["_law_script"] (sp_law K) := by
  have G__law_hand := ok_hand (P := P) (w := w) (base := base) T (k := k + 11)
  have G__law_take := ok_take (P := P) (w := w) (base := base) T (k := k + 11)
  have G__law_names := ok_names (P := P) (w := w) (base := base) T (k := k + 9)
  have G__law_right := ok_right (P := P) (w := w) (base := base) T (k := k)
  refine okG (k := k + 12) T.F_law sc_law (fun vs H Q E h => ?_) (fun cdv A outer s H vs Q E hgd hr h => ?_)
  · obtain ⟨a, ns, rfl, _⟩ := h
    rfl
  obtain ⟨a, ns, rfl, hS, h63, q⟩ := h
  refine ⟨_, (pss_cons (ps_for PassesOwn.never rfl (pi_range1 (by rfl) T.m_range (pa_cons (pe_op op_add pe_int (pe_callB (call_min2 rfl) (by rfl) T.m_min (by decide +kernel) (pa_cons pe_int (pa_cons (pe_callB call_len_seq (by rfl) T.m_len (by decide +kernel) (pa_cons (pv 0) pa_nil)) pa_nil)))) pa_nil)) (pg_name (i := 1) sc_law.nd rfl (.inl rfl)) (pss_cons (ps_set (i := 2) sc_law.nd rfl (.inr rfl) (pe_call G__law_hand hr (by rfl) T.g__law_hand T.k__law_hand T.b__law_hand .nil pass0 (pa_cons (pv 0) (pa_cons (pv 1) pa_nil))))
      (pss_cons (ps_set (i := 3) sc_law.nd rfl (.inr rfl) (pe_callTy call_tuple_of (by rfl) T.m_tuple (by decide +kernel) (pa_cons (pe_call G__law_names hr (by rfl) T.g__law_names T.k__law_names T.b__law_names .nil pass0 (pa_cons (pv 2) (pa_cons (pe_op op_add pe_int (pe_call G__law_take hr (by rfl) T.g__law_take T.k__law_take T.b__law_take .nil pass0 (pa_cons (pv 2) (pa_cons pe_int pa_nil)))) pa_nil))) pa_nil)))
      (pss_one (ps_if (pt_not (pt_val (pe_callB (cr_all rfl) (by rfl) T.m_all (by decide +kernel) (pa_cons (pe_lc (own := [("_law_turn", 4)]) (g := gName 4) (tt := tYes) rfl sc_law.nd (pi_range1 (by rfl) T.m_range (pa_cons pe_int pa_nil)) (blkOk_by (N := ["_law_script", "_law_nth", "_law_hand_here", "_law_names_here", "_law_turn"]) (sc := defScope s_law) (by decide +kernel)) (fun _ _ _ _ _ => (pg_name (i := 4) sc_law.nd rfl (Or.inl rfl))) (fun _ _ _ _ _ => pts_nil) (fun _ _ _ _ _ => (pe_callG G__law_right hgd hr (by rfl) T.g__law_right T.k__law_right T.b__law_right (pa_cons (pv 2) (pa_cons (pv 3) pa_nil))))) pa_nil)))) (pss_one (ps_ret pe_bl)) pss_nil)))))
      (pss_one (ps_ret pe_bl))), ?_⟩
  have hl : (ns.map V.int).length = ns.length := List.length_map _
  refine ⟨_, rfl, a, _, rfl, .inl hS, _, _, rfl, _, _, rfl, rfl, _, rfl, ?_, ?_, for_range (lo := 0) (fun i σ H' => (∃ y1 y2 y3 y4, σ = [some (.ref a), y1, y2, y3, y4]) ∧ Same H H') ?_ ?_ ?_⟩
  · show -(2 ^ 62) ≤ 1 + (if (((ns.map V.int).length : Nat) : Int) < 3 then (((ns.map V.int).length : Nat) : Int) else 3)
    split <;> omega
  · show 1 + (if (((ns.map V.int).length : Nat) : Int) < 3 then (((ns.map V.int).length : Nat) : Int) else 3) < 2 ^ 62
    split <;> omega
  · exact ⟨⟨_, _, _, _, rfl⟩, Same.refl H⟩
  · rintro i σ Hs hi ⟨⟨y1, y2, y3, y4, rfl⟩, sS⟩
    have hi4 : i ≤ 4 := by
      have hi' : i < (1 + (if (((ns.map V.int).length : Nat) : Int) < 3 then (((ns.map V.int).length : Nat) : Int) else 3)).toNat := by simpa using hi
      split at hi' <;> omega
    have e0 : (0 : Int) + (i : Int) = ((i : Nat) : Int) := Int.zero_add _
    show tSeq _ _ _ _ _
    rw [e0]
    refine ⟨_, rfl, _, rfl, a, ns, i, rfl, sS.seq hS, by omega, fun hp Ha sa nhp ga => ?_⟩
    refine ⟨_, rfl, _, rfl, hp, 0, 3, rfl, ga, by decide, by decide, by decide, fun c H1 hc g1 k1 => ?_⟩
    refine ⟨_, _, rfl, rfl, hp, 0 + 1, 1 + c, rfl, g1, by decide, by omega, fun pw ws H2 n2 e2 l2 hw g2 k2 => ?_⟩
    refine ⟨pw, _, rfl, .inl ⟨SqL.of e2, fun t nt => ?_⟩⟩
    have t3 := same_new (o := .tup (ws.map V.str)) nt
    have et : (upd H2 t (.tup (ws.map V.str))) t = some (.tup (ws.map V.str)) := upd_same
    have g3 : Hd (upd H2 t (.tup (ws.map V.str))) hp 20 := (g2.same t3).mono (by decide)
    have s3 : Same Hs (upd H2 t (.tup (ws.map V.str))) := (onto (onto sa k1 nhp) k2 nhp).trans t3
    generalize upd H2 t (.tup (ws.map V.str)) = H3 at et g3 s3 ⊢
    clear t3
    have nta : t ≠ hp := hd_tup g3 et (by intro xs z; cases z)
    refine ⟨_, rfl, by decide, by decide, fun D1 n1 => ?_⟩
    have nD : D1 ≠ hp := g3.new n1
    refine Lw.lc_range (lo := 0) (n := (4 : Int).toNat) (fun j H' => Hd H' hp (20 + 1000 * j) ∧ Kp hp H3 H' ∧ H' D1 = some (.lst (List.replicate j (V.bl true)))) ?_ ?_ ?_
    · exact ⟨g3.same (same_new n1), Kp.of_same (same_new n1), upd_same⟩
    · rintro j H4 hj ⟨g4, k4, e4⟩
      have hj3 : j < 4 := hj
      refine ⟨rfl, ?_⟩
      dsimp only [tYes]
      refine iteT ?_
      refine ⟨_, rfl, _, rfl, hp, t, _, ws, rfl, g4, by omega, k4 _ _ nta et, by omega, hw, fun H5 g5 k5 => ?_⟩
      refine ⟨_, k5 _ _ nD e4, ?_, (g5.at nD).mono (by omega), (k4.trans k5).free n1, ?_⟩
      · rw [List.length_replicate]
        exact Nat.lt_of_le_of_lt (show j ≤ 1000 by omega) (by decide)
      · rw [upd_same, List.replicate_succ']
    · rintro H4 ⟨g4, k4, e4⟩
      have e2 : List.replicate (4 : Int).toNat (V.bl true) = [true, true, true, true].map V.bl := rfl
      rw [e2] at e4
      refine ⟨D1, [true, true, true, true], rfl, SqL.of e4, _, rfl, ?_⟩
      exact iteF ⟨⟨_, _, _, _, rfl⟩, sS.trans (onto s3 k4 nhp)⟩
  · rintro σ H' ⟨_, _⟩
    exact q H'
end

end Z

namespace Z
open PySem PySem.Spec PyProof.Rows L2 Lw
set_option maxHeartbeats 0 in
theorem all_mk {l : PySem.W.OpenLaw} {w : World} {K : PySem.W.Frag} {h : Heap} {mg : Str → Option Value} {fa f0 f1 f2 f3 f4 f5 f6 f7 f8 f9 f10 f11 f12 f13 f14 f15 : Addr} {od0 an0 od1 an1 od2 an2 od3 an3 od4 an4 od5 an5 od6 an6 od7 an7 od8 an8 od9 an9 od10 an10 od11 an11 od12 an12 od13 an13 od14 an14 od15 an15 : Option Addr} {sl0 sl1 sl2 sl3 sl4 sl5 sl6 sl7 sl8 sl9 sl10 sl11 sl12 sl13 sl14 sl15 : Array (Option Value)} {oc0 kV0 dc0 pm0 cd0 ct0 oc1 kV1 dc1 pm1 cd1 ct1 oc2 kV2 dc2 pm2 cd2 ct2 oc3 kV3 dc3 pm3 cd3 ct3 oc4 kV4 dc4 pm4 cd4 ct4 oc5 kV5 dc5 pm5 cd5 ct5 oc6 kV6 dc6 pm6 cd6 ct6 oc7 kV7 dc7 pm7 cd7 ct7 oc8 kV8 dc8 pm8 cd8 ct8 oc9 kV9 dc9 pm9 cd9 ct9 oc10 kV10 dc10 pm10 cd10 ct10 oc11 kV11 dc11 pm11 cd11 ct11 oc12 kV12 dc12 pm12 cd12 ct12 oc13 kV13 dc13 pm13 cd13 ct13 oc14 kV14 dc14 pm14 cd14 ct14 oc15 kV15 dc15 pm15 cd15 ct15 : Value}
    (X : K.In h) (G : h.Ns mainGlobals mg) (hfa : mg "law" = some (.ref fa))
    (a0 : PySem.W.nsIn K mainGlobals "kth" = some (some (.ref f0)))
    (l0 : K.lookup f0 = some ⟨oc0, od0, .func (PySem.W.fnOf "kth" "kth" (defArgs s_kth) (defBody s_kth) (defScope s_kth) .none kV0 dc0 pm0 an0 cd0 ct0), sl0⟩)
    (c0 : PySem.W.codeIn K cd0 "kth" = true) (k0 : PySem.W.keepIn K (.ref f0) = true)
    (a1 : PySem.W.nsIn K mainGlobals "parts" = some (some (.ref f1)))
    (l1 : K.lookup f1 = some ⟨oc1, od1, .func (PySem.W.fnOf "parts" "parts" (defArgs s_parts) (defBody s_parts) (defScope s_parts) .none kV1 dc1 pm1 an1 cd1 ct1), sl1⟩)
    (c1 : PySem.W.codeIn K cd1 "parts" = true) (k1 : PySem.W.keepIn K (.ref f1) = true)
    (a2 : PySem.W.nsIn K mainGlobals "chosen" = some (some (.ref f2)))
    (l2 : K.lookup f2 = some ⟨oc2, od2, .func (PySem.W.fnOf "chosen" "chosen" (defArgs s_chosen) (defBody s_chosen) (defScope s_chosen) .none kV2 dc2 pm2 an2 cd2 ct2), sl2⟩)
    (c2 : PySem.W.codeIn K cd2 "chosen" = true) (k2 : PySem.W.keepIn K (.ref f2) = true)
    (a3 : PySem.W.nsIn K mainGlobals "picked" = some (some (.ref f3)))
    (l3 : K.lookup f3 = some ⟨oc3, od3, .func (PySem.W.fnOf "picked" "picked" (defArgs s_picked) (defBody s_picked) (defScope s_picked) .none kV3 dc3 pm3 an3 cd3 ct3), sl3⟩)
    (c3 : PySem.W.codeIn K cd3 "picked" = true) (k3 : PySem.W.keepIn K (.ref f3) = true)
    (a4 : PySem.W.nsIn K mainGlobals "rank" = some (some (.ref f4)))
    (l4 : K.lookup f4 = some ⟨oc4, od4, .func (PySem.W.fnOf "rank" "rank" (defArgs s_rank) (defBody s_rank) (defScope s_rank) .none kV4 dc4 pm4 an4 cd4 ct4), sl4⟩)
    (c4 : PySem.W.codeIn K cd4 "rank" = true) (k4 : PySem.W.keepIn K (.ref f4) = true)
    (a5 : PySem.W.nsIn K mainGlobals "_law_hand" = some (some (.ref f5)))
    (l5 : K.lookup f5 = some ⟨oc5, od5, .func (PySem.W.fnOf "_law_hand" "_law_hand" (defArgs s__law_hand) (defBody s__law_hand) (defScope s__law_hand) .none kV5 dc5 pm5 an5 cd5 ct5), sl5⟩)
    (c5 : PySem.W.codeIn K cd5 "_law_hand" = true) (k5 : PySem.W.keepIn K (.ref f5) = true)
    (a6 : PySem.W.nsIn K mainGlobals "_law_take" = some (some (.ref f6)))
    (l6 : K.lookup f6 = some ⟨oc6, od6, .func (PySem.W.fnOf "_law_take" "_law_take" (defArgs s__law_take) (defBody s__law_take) (defScope s__law_take) .none kV6 dc6 pm6 an6 cd6 ct6), sl6⟩)
    (c6 : PySem.W.codeIn K cd6 "_law_take" = true) (k6 : PySem.W.keepIn K (.ref f6) = true)
    (a7 : PySem.W.nsIn K mainGlobals "_law_of" = some (some (.ref f7)))
    (l7 : K.lookup f7 = some ⟨oc7, od7, .func (PySem.W.fnOf "_law_of" "_law_of" (defArgs s__law_of) (defBody s__law_of) (defScope s__law_of) .none kV7 dc7 pm7 an7 cd7 ct7), sl7⟩)
    (c7 : PySem.W.codeIn K cd7 "_law_of" = true) (k7 : PySem.W.keepIn K (.ref f7) = true)
    (a8 : PySem.W.nsIn K mainGlobals "_law_names" = some (some (.ref f8)))
    (l8 : K.lookup f8 = some ⟨oc8, od8, .func (PySem.W.fnOf "_law_names" "_law_names" (defArgs s__law_names) (defBody s__law_names) (defScope s__law_names) .none kV8 dc8 pm8 an8 cd8 ct8), sl8⟩)
    (c8 : PySem.W.codeIn K cd8 "_law_names" = true) (k8 : PySem.W.keepIn K (.ref f8) = true)
    (a9 : PySem.W.nsIn K mainGlobals "_law_pick" = some (some (.ref f9)))
    (l9 : K.lookup f9 = some ⟨oc9, od9, .func (PySem.W.fnOf "_law_pick" "_law_pick" (defArgs s__law_pick) (defBody s__law_pick) (defScope s__law_pick) .none kV9 dc9 pm9 an9 cd9 ct9), sl9⟩)
    (c9 : PySem.W.codeIn K cd9 "_law_pick" = true) (k9 : PySem.W.keepIn K (.ref f9) = true)
    (a10 : PySem.W.nsIn K mainGlobals "_law_lots" = some (some (.ref f10)))
    (l10 : K.lookup f10 = some ⟨oc10, od10, .func (PySem.W.fnOf "_law_lots" "_law_lots" (defArgs s__law_lots) (defBody s__law_lots) (defScope s__law_lots) .none kV10 dc10 pm10 an10 cd10 ct10), sl10⟩)
    (c10 : PySem.W.codeIn K cd10 "_law_lots" = true) (k10 : PySem.W.keepIn K (.ref f10) = true)
    (a11 : PySem.W.nsIn K mainGlobals "_law_turned" = some (some (.ref f11)))
    (l11 : K.lookup f11 = some ⟨oc11, od11, .func (PySem.W.fnOf "_law_turned" "_law_turned" (defArgs s__law_turned) (defBody s__law_turned) (defScope s__law_turned) .none kV11 dc11 pm11 an11 cd11 ct11), sl11⟩)
    (c11 : PySem.W.codeIn K cd11 "_law_turned" = true) (k11 : PySem.W.keepIn K (.ref f11) = true)
    (a12 : PySem.W.nsIn K mainGlobals "_law_pairs" = some (some (.ref f12)))
    (l12 : K.lookup f12 = some ⟨oc12, od12, .func (PySem.W.fnOf "_law_pairs" "_law_pairs" (defArgs s__law_pairs) (defBody s__law_pairs) (defScope s__law_pairs) .none kV12 dc12 pm12 an12 cd12 ct12), sl12⟩)
    (c12 : PySem.W.codeIn K cd12 "_law_pairs" = true) (k12 : PySem.W.keepIn K (.ref f12) = true)
    (a13 : PySem.W.nsIn K mainGlobals "_law_by_lots" = some (some (.ref f13)))
    (l13 : K.lookup f13 = some ⟨oc13, od13, .func (PySem.W.fnOf "_law_by_lots" "_law_by_lots" (defArgs s__law_by_lots) (defBody s__law_by_lots) (defScope s__law_by_lots) .none kV13 dc13 pm13 an13 cd13 ct13), sl13⟩)
    (c13 : PySem.W.codeIn K cd13 "_law_by_lots" = true) (k13 : PySem.W.keepIn K (.ref f13) = true)
    (a14 : PySem.W.nsIn K mainGlobals "_law_right" = some (some (.ref f14)))
    (l14 : K.lookup f14 = some ⟨oc14, od14, .func (PySem.W.fnOf "_law_right" "_law_right" (defArgs s__law_right) (defBody s__law_right) (defScope s__law_right) .none kV14 dc14 pm14 an14 cd14 ct14), sl14⟩)
    (c14 : PySem.W.codeIn K cd14 "_law_right" = true) (k14 : PySem.W.keepIn K (.ref f14) = true)
    (a15 : PySem.W.nsIn K mainGlobals "law" = some (some (.ref f15)))
    (l15 : K.lookup f15 = some ⟨oc15, od15, .func (PySem.W.fnOf "law" "law" (defArgs s_law) (defBody s_law) (defScope s_law) .none kV15 dc15 pm15 an15 cd15 ct15), sl15⟩)
    (c15 : PySem.W.codeIn K cd15 "law" = true) (k15 : PySem.W.keepIn K (.ref f15) = true)
    (z0 : PySem.W.nsIn K mainGlobals "abs" = some none)
    (z1 : PySem.W.nsIn K mainGlobals "all" = some none)
    (z2 : PySem.W.nsIn K mainGlobals "dict" = some none)
    (z3 : PySem.W.nsIn K mainGlobals "int" = some none)
    (z4 : PySem.W.nsIn K mainGlobals "len" = some none)
    (z5 : PySem.W.nsIn K mainGlobals "list" = some none)
    (z6 : PySem.W.nsIn K mainGlobals "min" = some none)
    (z7 : PySem.W.nsIn K mainGlobals "range" = some none)
    (z8 : PySem.W.nsIn K mainGlobals "repr" = some none)
    (z9 : PySem.W.nsIn K mainGlobals "sorted" = some none)
    (z10 : PySem.W.nsIn K mainGlobals "tuple" = some none) :
    ∃ fd : FuncData, (∀ (s : Shared) (v : Value), BindsTo s fd ⟨[v], []⟩ [("_law_script", v)]) ∧ ∀ base : Heap, K.In base → base.Ns mainGlobals mg → FnG l.prog w K mg base 13 fa fd ["_law_script"] (sp_law K) := by
  have e := hfa.symm.trans (PySem.W.mg_of X G a15)
  cases e
  have F0 := fun_mk (st := s_kth) l0 c0 k0
  have b0 := F0.binds (ps := ["things", "k"]) fun _ _ _ _ _ _ us hl => match us, hl with | [_, _], _ => rfl
  have F1 := fun_mk (st := s_parts) l1 c1 k1
  have b1 := F1.binds (ps := ["choice"]) fun _ _ _ _ _ _ us hl => match us, hl with | [_], _ => rfl
  have F2 := fun_mk (st := s_chosen) l2 c2 k2
  have b2 := F2.binds (ps := ["choice", "held", "came"]) fun _ _ _ _ _ _ us hl => match us, hl with | [_, _, _], _ => rfl
  have F3 := fun_mk (st := s_picked) l3 c3 k3
  have b3 := F3.binds (ps := ["choice", "held", "came", "none"]) fun _ _ _ _ _ _ us hl => match us, hl with | [_, _, _, _], _ => rfl
  have F4 := fun_mk (st := s_rank) l4 c4 k4
  have b4 := F4.binds (ps := ["choice"]) fun _ _ _ _ _ _ us hl => match us, hl with | [_], _ => rfl
  have F5 := fun_mk (st := s__law_hand) l5 c5 k5
  have b5 := F5.binds (ps := ["_law_script", "_law_nth"]) fun _ _ _ _ _ _ us hl => match us, hl with | [_, _], _ => rfl
  have F6 := fun_mk (st := s__law_take) l6 c6 k6
  have b6 := F6.binds (ps := ["_law_hand_here", "_law_upon"]) fun _ _ _ _ _ _ us hl => match us, hl with | [_, _], _ => rfl
  have F7 := fun_mk (st := s__law_of) l7 c7 k7
  have b7 := F7.binds (ps := ["_law_hand_here", "_law_some"]) fun _ _ _ _ _ _ us hl => match us, hl with | [_, _], _ => rfl
  have F8 := fun_mk (st := s__law_names) l8 c8 k8
  have b8 := F8.binds (ps := ["_law_hand_here", "_law_count"]) fun _ _ _ _ _ _ us hl => match us, hl with | [_, _], _ => rfl
  have F9 := fun_mk (st := s__law_pick) l9 c9 k9
  have b9 := F9.binds (ps := ["_law_hand_here", "_law_rooms", "_law_count", "_law_left"]) fun _ _ _ _ _ _ us hl => match us, hl with | [_, _, _, _], _ => rfl
  have F10 := fun_mk (st := s__law_lots) l10 c10 k10
  have b10 := F10.binds (ps := ["_law_row", "_law_size"]) fun _ _ _ _ _ _ us hl => match us, hl with | [_, _], _ => rfl
  have F11 := fun_mk (st := s__law_turned) l11 c11 k11
  have b11 := F11.binds (ps := ["_law_hand_here", "_law_row"]) fun _ _ _ _ _ _ us hl => match us, hl with | [_, _], _ => rfl
  have F12 := fun_mk (st := s__law_pairs) l12 c12 k12
  have b12 := F12.binds (ps := ["_law_hand_here", "_law_row", "_law_other"]) fun _ _ _ _ _ _ us hl => match us, hl with | [_, _, _], _ => rfl
  have F13 := fun_mk (st := s__law_by_lots) l13 c13 k13
  have b13 := F13.binds (ps := ["_law_row", "_law_nth"]) fun _ _ _ _ _ _ us hl => match us, hl with | [_, _], _ => rfl
  have F14 := fun_mk (st := s__law_right) l14 c14 k14
  have b14 := F14.binds (ps := ["_law_hand_here", "_law_names_here"]) fun _ _ _ _ _ _ us hl => match us, hl with | [_, _], _ => rfl
  have F15 := fun_mk (st := s_law) l15 c15 k15
  have b15 := F15.binds (ps := ["_law_script"]) fun _ _ _ _ _ _ us hl => match us, hl with | [_], _ => rfl
  let T : Txt K mg := {
    f_kth := f0, fd_kth := _, F_kth := F0, g_kth := PySem.W.mg_of X G a0, b_kth := b0,
    f_parts := f1, fd_parts := _, F_parts := F1, g_parts := PySem.W.mg_of X G a1, b_parts := b1,
    f_chosen := f2, fd_chosen := _, F_chosen := F2, g_chosen := PySem.W.mg_of X G a2, b_chosen := b2,
    f_picked := f3, fd_picked := _, F_picked := F3, g_picked := PySem.W.mg_of X G a3, b_picked := b3,
    f_rank := f4, fd_rank := _, F_rank := F4, g_rank := PySem.W.mg_of X G a4, b_rank := b4,
    f__law_hand := f5, fd__law_hand := _, F__law_hand := F5, g__law_hand := PySem.W.mg_of X G a5, b__law_hand := b5,
    f__law_take := f6, fd__law_take := _, F__law_take := F6, g__law_take := PySem.W.mg_of X G a6, b__law_take := b6,
    f__law_of := f7, fd__law_of := _, F__law_of := F7, g__law_of := PySem.W.mg_of X G a7, b__law_of := b7,
    f__law_names := f8, fd__law_names := _, F__law_names := F8, g__law_names := PySem.W.mg_of X G a8, b__law_names := b8,
    f__law_pick := f9, fd__law_pick := _, F__law_pick := F9, g__law_pick := PySem.W.mg_of X G a9, b__law_pick := b9,
    f__law_lots := f10, fd__law_lots := _, F__law_lots := F10, g__law_lots := PySem.W.mg_of X G a10, b__law_lots := b10,
    f__law_turned := f11, fd__law_turned := _, F__law_turned := F11, g__law_turned := PySem.W.mg_of X G a11, b__law_turned := b11,
    f__law_pairs := f12, fd__law_pairs := _, F__law_pairs := F12, g__law_pairs := PySem.W.mg_of X G a12, b__law_pairs := b12,
    f__law_by_lots := f13, fd__law_by_lots := _, F__law_by_lots := F13, g__law_by_lots := PySem.W.mg_of X G a13, b__law_by_lots := b13,
    f__law_right := f14, fd__law_right := _, F__law_right := F14, g__law_right := PySem.W.mg_of X G a14, b__law_right := b14,
    f_law := fa, fd_law := _, F_law := F15, g_law := PySem.W.mg_of X G a15, b_law := b15,
    m_abs := PySem.W.mg_none_of X G z0,
    m_all := PySem.W.mg_none_of X G z1,
    m_dict := PySem.W.mg_none_of X G z2,
    m_int := PySem.W.mg_none_of X G z3,
    m_len := PySem.W.mg_none_of X G z4,
    m_list := PySem.W.mg_none_of X G z5,
    m_min := PySem.W.mg_none_of X G z6,
    m_range := PySem.W.mg_none_of X G z7,
    m_repr := PySem.W.mg_none_of X G z8,
    m_sorted := PySem.W.mg_none_of X G z9,
    m_tuple := PySem.W.mg_none_of X G z10 }
  exact ⟨T.fd_law, fun s v => .of_eq rfl, fun base _ _ => ok_law (k := 0) T⟩
end Z
open PySem PySem.W PyProof.Rows
set_option maxHeartbeats 0 in
theorem PySem.Challenge.cw_stilltold_k06_whole_choices_rewritten_holds : PySem.Challenge.rw_stilltold_k06_whole_choices_rewritten.Holds := by
  w_on; o_law; k_head; (case hw => w_witness2)
  k_fill
  refine Lw.walkG (l := PySem.Challenge.rw_stilltold_k06_whole_choices_rewritten) (n := 63) (k := 13) (x := "_law_script") (sp := Z.sp_law) rfl (by decide) rfl ⟨rfl, by decide, by decide⟩ (fun w h Y => PySem.W.kIn_of Y) ?F (fun K _ a ns hl _ hS => ⟨a, ns, rfl, hS, hl, fun _ => rfl⟩)
  case F =>
    intro w mg fa h KX G hmg
    refine' Z.all_mk KX G hmg ?a0 ?l0 ?c0 ?k0 ?a1 ?l1 ?c1 ?k1 ?a2 ?l2 ?c2 ?k2 ?a3 ?l3 ?c3 ?k3 ?a4 ?l4 ?c4 ?k4 ?a5 ?l5 ?c5 ?k5 ?a6 ?l6 ?c6 ?k6 ?a7 ?l7 ?c7 ?k7 ?a8 ?l8 ?c8 ?k8 ?a9 ?l9 ?c9 ?k9 ?a10 ?l10 ?c10 ?k10 ?a11 ?l11 ?c11 ?k11 ?a12 ?l12 ?c12 ?k12 ?a13 ?l13 ?c13 ?k13 ?a14 ?l14 ?c14 ?k14 ?a15 ?l15 ?c15 ?k15 ?z0 ?z1 ?z2 ?z3 ?z4 ?z5 ?z6 ?z7 ?z8 ?z9 ?z10
    (case a0 => k_is); (case l0 => k_is); (case c0 => k_is); (case k0 => k_is); (case a1 => k_is); (case l1 => k_is); (case c1 => k_is); (case k1 => k_is); (case a2 => k_is); (case l2 => k_is); (case c2 => k_is); (case k2 => k_is); (case a3 => k_is); (case l3 => k_is); (case c3 => k_is); (case k3 => k_is); (case a4 => k_is); (case l4 => k_is); (case c4 => k_is); (case k4 => k_is); (case a5 => k_is); (case l5 => k_is); (case c5 => k_is); (case k5 => k_is); (case a6 => k_is); (case l6 => k_is); (case c6 => k_is); (case k6 => k_is); (case a7 => k_is); (case l7 => k_is); (case c7 => k_is); (case k7 => k_is); (case a8 => k_is); (case l8 => k_is); (case c8 => k_is); (case k8 => k_is); (case a9 => k_is); (case l9 => k_is); (case c9 => k_is); (case k9 => k_is); (case a10 => k_is); (case l10 => k_is); (case c10 => k_is); (case k10 => k_is); (case a11 => k_is); (case l11 => k_is); (case c11 => k_is); (case k11 => k_is); (case a12 => k_is); (case l12 => k_is); (case c12 => k_is); (case k12 => k_is); (case a13 => k_is); (case l13 => k_is); (case c13 => k_is); (case k13 => k_is); (case a14 => k_is); (case l14 => k_is); (case c14 => k_is); (case k14 => k_is); (case a15 => k_is); (case l15 => k_is); (case c15 => k_is); (case k15 => k_is); (case z0 => k_is); (case z1 => k_is); (case z2 => k_is); (case z3 => k_is); (case z4 => k_is); (case z5 => k_is); (case z6 => k_is); (case z7 => k_is); (case z8 => k_is); (case z9 => k_is); (case z10 => k_is)
