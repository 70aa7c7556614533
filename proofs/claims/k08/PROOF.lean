import PyProof.Rows.All
import Wide.All
import OpenK.AllK
import Wide.FinOn
import HandS.ForMost
import HandS.IsInst
import HandS.Wide
import HandS.Deep
import HandS.TupAny
import HandS.Flow
import HandS.EndBits
import PyProof.ReprRoads
import PyProof.ReprLen
import HandS.Style
import HandS.Sort
import HandS.SortOrd
import HandS.SortRule
import HandS.SortKw
import HandS.Zip
import HandS.TupMul
import HandS.Text
import HandS.Codes
import PySem.Challenge.RW_stilltold_k08_guards_of_anything
set_option Elab.async false
set_option linter.all false
set_option maxRecDepth 100000
namespace Lw
open PySem PySem.Spec PyProof.Rows L2

/-! ### defs that call repr: what no repr is under way around -/
structure FnG (P : Program) (w : World) (K : PySem.W.Frag) (mg : Str → Option Value) (base : Heap) (k : Nat) (f : Addr) (fd : FuncData) (ps : List Str) (sp : Sp) : Prop where
  lenG : ∀ vs H Q E, sp vs H Q E → vs.length = ps.length
  runG : ∀ (A : Around) (outer : List Env) (s : Shared) (H : Hp) (args : Args) (us : List Value) (vs : List V) (Q : VK) (E : XK), A.guards = some [] →
    Room k A → Env0 P w K mg base A outer s H → BindsTo s fd args (ps.zip us) → Vals vs us → sp vs H Q E →
    codeAny (model P w) A (.call (.ref f) args) (CR CX0 outer P w H s Q E) s

theorem FnG.ofOk {P : Program} {w : World} {K : PySem.W.Frag} {mg : Str → Option Value} {base : Heap} {k : Nat} {f : Addr} {fd : FuncData} {ps : List Str} {sp : Sp}
    (F : FnOk P w K mg base CX0 k f fd ps sp) : FnG P w K mg base k f fd ps sp :=
  ⟨F.len, fun A outer s H args us vs Q E _ => F.run A outer s H args us vs Q E⟩

section
variable {P : Program} {w : World} {K : PySem.W.Frag} {mg : Str → Option Value} {base : Heap}
theorem okG {x qual : Str} {st : Stmt} {f : Addr} {fd : FuncData} {N ps : List Str} {k : Nat} {sp : Sp}
    (F : Fun K x qual st f fd) (S : FnScope N ps (defScope st)) (len : ∀ vs H Q E, sp vs H Q E → vs.length = ps.length)
    (body : ∀ (cdv : Value) (A : Around) (outer : List Env) (s : Shared) (H : Hp) (vs : List V) (Q : VK) (E : XK), A.guards = some [] →
      Room k (A.deeper (envOfC qual (defScope st) s.heap.objs.size f cdv)) → sp vs H Q E →
      ∃ t, PSs (cxOf CX0 P w K mg base N qual (defScope st) f cdv A outer s H E).nox (defBody st) t ∧
        t { nx := fun _ H' => Q .non H', rt := Q } (start N vs) H) :
    FnG P w K mg base (k + 1) f fd ps sp := by
  obtain ⟨oc, od, kV, doc, pm, an, cdv, ct, osl, rfl, lk, hcd⟩ := F.ex
  refine ⟨len, ?_⟩
  intro A outer s H args us vs Q E hgd room e0 bt rv hs
  have hlen := len vs H Q E hs
  have inK : K.In s.heap :=
    e0.mod.kin.keeps fun b o e => (e0.bs b o e).1
  have noLim : s.heap.NoLimit :=
    e0.mod.nolimit.keeps fun b o e => (e0.bs b o e).1
  have kinds : ∀ y ∈ ps.zip us, (defScope st).names.lookup y.1 = some .local ∨
      ((defScope st).names.lookup y.1 = some .cell ∧ ((cellsFrom (s.heap.objs.size + 1) (defScope st).names []).lookup y.1).isSome = true) := by
    rintro ⟨n, v⟩ hy
    rcases S.par n (List.of_mem_zip hy).1 with q | q
    · exact Or.inl q
    · exact Or.inr ⟨q, PySem.W.cellsFrom_some _ _ _ (Or.inl q)⟩
  refine codeAny_call_function room.depth (inK _ _ lk) rfl S.co S.gen rfl (PySem.W.codeRec_of inK hcd) (bt _ _ _ _ ?_)
  refine wpAny_newFunctionEnv_cells S.kind kinds ?_
  intro env henv s1 ic
  subst henv
  refine ⟨noLim.keeps ic.toInCall.keep, codeAny_func ?_⟩
  obtain ⟨t, pt, ht⟩ := body cdv A outer s H vs Q E hgd (room.deeper _) hs
  have I := inv_start (CX := CX0) (E := E) S room.hd e0 hlen rv ic
  refine wpAny_mono (pt.nox.run [] s1 (start N vs) H _ I ht) ?_ (fun _ _ z => z)
  intro fl s' z
  cases fl with
  | ret u =>
    obtain ⟨v, σ', H', J, r', q⟩ := z
    exact ⟨v, H', J.os, J.bare, J.base, J.hok, r', q⟩
  | next =>
    obtain ⟨σ', H', J, q⟩ := z
    exact ⟨V.non, H', J.os, J.bare, J.base, J.hok, rfl, q⟩
  | brk => exact (z.elim fun _ z => z.elim fun _ z => z.2).elim
  | cont => exact (z.elim fun _ z => z.elim fun _ z => z.2).elim
end

section
variable {X : Cx} {k : Nat} {f : Addr} {fd : FuncData} {ps : List Str} {sp : Sp} {x : Str} {p pos : Pos} {e : Expr} {es : List Expr} {t : TA}
theorem pe_callG (F : FnG X.prog X.w X.K X.mg X.base k f fd ps sp) (hgd : X.A.guards = some []) (room : Room k X.A) (hg : Gl X x) (hm : X.mg x = some (.ref f))
    (hk : PySem.W.keepIn X.K (.ref f) = true) (hb : Binds X.K fd ps []) (ha : PA X (e :: es) t)
    (hdb : (x == ("__debug__" : Str)) = false := by decide) (he : starEach (e :: es) X.env = (false, eval e X.env) :: starEach es X.env := by rfl)
    (hpl : (backTo pos (starEach es X.env)).any (·.1) = false := by rfl) : PE X (.Call (.Name x p) (e :: es) [] pos) (tCall sp [] E0 t) := by
  refine ⟨fun pins s σ H Q I h => wpAny_Call_Name_kw (ld_glob I hg hm ?_ hdb)⟩
  refine PySem.W.callWith_K (h₀ := X.base) I.ok.mod.kin hk ?_ he hpl
  refine thn (ha.run pos pins s σ H _ I h) ?_
  rintro us s1 ⟨vs, H1, I1, r, q⟩
  refine ⟨I1.kIn, ?_⟩
  have q' : sp (vs ++ []) H1 Q E0 := q
  rw [List.append_nil] at q'
  have hl : us.length = ps.length := by
    rw [← r.length]
    exact F.lenG _ _ _ _ q'
  have bt : BindsTo s1 fd ⟨us, []⟩ (ps.zip us) := by
    have := hb s1 us I1.kIn (by rw [List.append_nil]; exact hl)
    rw [List.append_nil] at this
    exact this
  refine wpAny_call (codeAny_mono (F.runG X.A X.stack s1 H1 ⟨us, []⟩ us vs Q E0 hgd room I1.env0 bt r q') ?_)
  intro r' s' hq
  cases r' with
  | error e => exact False.elim hq
  | ok fl =>
    cases fl with
    | ret u => exact I1.after hq
    | next => exact False.elim hq
    | brk => exact False.elim hq
    | cont => exact False.elim hq

/-! ### a call by keywords alone -/
theorem pe_kw0 {kws : List Keyword} {ks : List Str} {tk : TA} {g : List Value → List Value → List Value} {gV : List V → List V → List V}
    (F : FnOk X.prog X.w X.K X.mg X.base CX0 k f fd ps sp) (room : Room k X.A) (hg : Gl X x) (hm : X.mg x = some (.ref f)) (hk : PySem.W.keepIn X.K (.ref f) = true)
    (hb : KBinds X.K fd ps ks g gV) (hkw : PK X kws tk) (hall : (backToKw pos (keywordEach kws X.env)).all (·.1.isSome) = true := by rfl)
    (hks : (backToKw pos (keywordEach kws X.env)).filterMap (·.1) = ks := by rfl) (hdb : (x == ("__debug__" : Str)) = false := by decide)
    (hpl : ((backTo pos (starEach [] X.env)).any (·.1) || (backToKw pos (keywordEach kws X.env)).any (·.1.isNone)) = false := by rfl) :
    PE X (.Call (.Name x p) [] kws pos) (tCallK sp gV E0 tNil tk) := by
  refine ⟨fun pins s σ H Q I h => wpAny_Call_Name_kw (ld_glob I hg hm ?_ hdb)⟩
  refine PySem.W.callWith_KW0 (h₀ := X.base) I.ok.mod.kin hk hall ?_ hpl
  refine thn (hkw.run pos pins s σ H _ I h) ?_
  rintro ws s2 ⟨zs, H2, I2, rz, q2⟩
  refine ⟨I2.kIn, ?_⟩
  rw [hks]
  exact run_fnk (us := []) (vs := []) F room hb pass0 I2 .nil rz q2

/-! ### a list display, its place not that of sys.modules -/
def tLstN (t : TA) : TE := fun σ H Q => t σ H fun xs H1 => xs.length ≤ sizeLine ∧ ∀ p, H1 p = none → p ≠ sysModules → Q (.ref p) (upd H1 p (.lst xs))
theorem pe_lstN (h : PA X es t) : PE X (.List es pos) (tLstN t) := by
  refine ⟨fun pins s σ H Q I hq => wpAny_List_spliced (thn (h.run pos pins s σ H _ I hq) ?_)⟩
  rintro us s1 ⟨xs, H1, I1, r, z, q⟩
  refine ⟨by rw [← r.length]; exact z, ?_⟩
  have fresh : H1 s1.heap.objs.size = none := I1.hok.fresh (Nat.le_refl _)
  have big : sysModules < s1.heap.objs.size := by
    have h1 : mainGlobals < X.base.objs.size := I1.ok.mod.glob.lt
    have h2 := Nat.le_trans I1.ok.bsz I1.sz
    exact Nat.lt_of_lt_of_le (Nat.lt_trans (by decide) h1) h2
  refine ⟨.ref s1.heap.objs.size, upd H1 s1.heap.objs.size (.lst xs), I1.laid (t' := s1.toks) ?_ (Nat.le_refl _) ?_, rfl, q _ fresh (Nat.ne_of_gt big)⟩
  · intro b u e
    exact Heap.get?_push_of_some _ e
  · exact ⟨z, us, 0, r, Heap.get?_push_size _ rfl⟩
end
end Lw

namespace Lw
open PySem PySem.Spec PyProof.Rows L2

/-! ### the law's own call, no repr under way around -/
theorem enterG {P : Program} {w : World} {K : PySem.W.Frag} {mg mb : Str → Option Value} {k : Nat} {fa a : Addr} {fd : FuncData} {x : Str} {sp : Sp} {s₁ : Shared} {vs : List Value} {ns : List Int}
    (inK : K.In s₁.heap) (gl : s₁.heap.Ns mainGlobals mg) (bl : s₁.heap.Ns builtinsNs mb) (bb : ∀ x : Str, x ≠ "__name__" → mb x = bootBuiltins x) (lim : s₁.heap.NoLimit) (gens : s₁.gens = #[])
    (ha : s₁.heap.get? a = some { cls := .type "list", data := .seq vs.toArray }) (hints : IntsAre vs ns) (short : ns.length ≤ sizeLine) (room : Room k callerA)
    (F : ∀ base : Heap, K.In base → base.Ns mainGlobals mg → FnG P w K mg base k fa fd [x] sp)
    (bind : ∀ (s : Shared) (u : Value), BindsTo s fd ⟨[u], []⟩ [(x, u)])
    (hsp : ∀ H : Hp, SqL K H a (ns.map V.int) → sp [.ref a] H (fun v _ => v = .bl true) fun _ _ _ => False) :
    codeAny (model P w) callerA (.call (.ref fa) ⟨[.ref a], []⟩)
      (fun r s' => r = .ok (.ret (.bool true)) ∧ OldK s₁.heap s'.heap ∧ s'.os = s₁.os ∧ AllBare s'.gens) s₁ := by
  have rv := vals_ints hints
  have lenV := hints.length
  have main : ∀ H : Hp, (∀ b, H b = none ∨ ∃ o xs, H b = some (.frz o (.lst xs))) → SqL K H a (ns.map V.int) → HOk P w H s₁.heap →
      (∀ b, H b ≠ none → b = a) → (H a ≠ none → K.lookup a = none) →
      codeAny (model P w) callerA (.call (.ref fa) ⟨[.ref a], []⟩)
        (fun r s' => r = .ok (.ret (.bool true)) ∧ OldK s₁.heap s'.heap ∧ s'.os = s₁.os ∧ AllBare s'.gens) s₁ := by
    intro H only sq hok isA notK
    have free : ∀ {b : Addr} {o : Obj} {es : Array DictEntry} {ep : Nat},
        s₁.heap.get? b = some o → o.data = .dict es ep → H b = none := by
      intro b o es ep hb hd
      cases q : H b with
      | none => rfl
      | some u =>
        have eb : b = a := isA b (by rw [q]; exact fun z => nomatch z)
        rw [eb, ha] at hb
        cases hb
        have z : Data.seq vs.toArray _ = Data.dict es ep := hd
        cases z
    have nsT : ∀ {b : Addr} {m : Str → Option Value}, s₁.heap.Ns b m → (hidT s₁.heap H).Ns b m := by
      rintro b m ⟨o, es, ep, e, d, r⟩
      exact ⟨o, es, ep, hidT_get e (free e d), d, r⟩
    have kT : K.In (hidT s₁.heap H) := by
      intro b o e
      refine hidT_get (inK b o e) ?_
      cases q : H b with
      | none => rfl
      | some u =>
        have eb : b = a := isA b (by rw [q]; exact fun z => nomatch z)
        have nl := notK (by rw [← eb, q]; exact fun z => nomatch z)
        rw [← eb, e] at nl
        cases nl
    have md : Mod K mg (hidT s₁.heap H) := by
      obtain ⟨mc, l1, l2⟩ := lim
      exact ⟨kT, nsT gl, ⟨mb, nsT bl, bb⟩, mc, nsT l1, l2⟩
    have e0 : Env0 P w K mg (hidT s₁.heap H) callerA [] s₁ H := by
      refine ⟨rfl, md, fun b o e => of_hidT e, ?_, trivial, ?_, hok, .of_eq gens⟩
      · exact Nat.le_of_eq (hidT_size _ _)
      · intro b hb
        exact absurd (show b ∈ ([] : List Addr) from hb) (List.not_mem_nil)
    have ran := (F _ kT (nsT gl)).runG callerA [] s₁ H ⟨[.ref a], []⟩ [.ref a] [.ref a] _ _ rfl room e0 (bind s₁ (.ref a)) (.cons rfl .nil) (hsp H sq)
    refine codeAny_mono ran ?_
    intro r s' h
    cases r with
    | error e => exact False.elim h
    | ok fl =>
      cases fl with
      | next => exact False.elim h
      | brk => exact False.elim h
      | cont => exact False.elim h
      | ret u =>
        obtain ⟨v, H', os, bare, un, hok', r', q⟩ := h
        have ev : v = .bl true := q
        subst ev
        obtain rfl : u = Value.bool true := r'
        refine ⟨rfl, OldK.of_keep ?_, os, bare⟩
        intro b o e
        rcases only b with z | ⟨ob, xs, z⟩
        · exact un.keep b o e z (fun y => absurd (show b ∈ ([] : List Addr) from y) List.not_mem_nil) List.not_mem_nil
        · have z2 := un.frzs b ob _ z
          have e1 := (hok b _ z).1
          have e2 := (hok' b _ z2).1
          rw [e] at e1
          cases e1
          exact e2
  cases hk : K.lookup a with
  | some o =>
    have e := inK a o hk
    rw [ha] at e
    cases e
    refine main (fun _ => none) (fun _ => Or.inl rfl) (Or.inr ?_) ?_ (fun b z => absurd rfl z) (fun z => absurd rfl z)
    · exact ⟨_, vs.toArray, _, hk, rfl, rfl, rfl, by rw [List.size_toArray, lenV]; exact short, by simpa using rv⟩
    · intro b u z
      have z' : (none : Option HO) = some u := z
      cases z'
  | none =>
    let o₀ : Obj := { cls := .type "list", data := .seq vs.toArray }
    let H₀ : Hp := fun b => if b = a then some (.frz o₀ (.lst (ns.map V.int))) else none
    have at_a : H₀ a = some (.frz o₀ (.lst (ns.map V.int))) := if_pos rfl
    have off : ∀ b, b ≠ a → H₀ b = none := fun b hb => if_neg hb
    refine main H₀ ?_ (Or.inl (Or.inr ⟨o₀, at_a⟩)) ?_ ?_ (fun _ => hk)
    · intro b
      by_cases hb : b = a
      · rw [hb]
        exact Or.inr ⟨_, _, at_a⟩
      · exact Or.inl (off b hb)
    · intro b u z
      by_cases hb : b = a
      · rw [hb, at_a] at z
        cases z
        rw [hb]
        exact ⟨ha, by rw [List.length_map]; exact short, vs, _, rv, ha⟩
      · rw [off b hb] at z
        cases z
    · intro b z
      by_cases hb : b = a
      · exact hb
      · exact absurd (off b hb) z

theorem walkG {l : PySem.W.OpenLaw} {n k : Nat} {q : Program} {loose : List Str} {XP : (Str → Option Value) → Heap → Prop} {YP : World → Heap → Prop} {d : DefRec}
    {K : Params → PySem.W.Frag} {sp : PySem.W.Frag → Sp} {x : Str} (hn : l.most = some n) (hn2 : n ≤ sizeLine) (hdf : d.params.defaults = []) (room : Room k callerA)
    (hY : ∀ (w : World) (h : Heap), YP w h → (K w.params).In h)
    (F : ∀ (w : World) (mg : Str → Option Value) (fa : Addr) (h : Heap), (K w.params).In h → h.Ns mainGlobals mg → mg d.name = some (.ref fa) →
      ∃ fd : FuncData, (∀ (s : Shared) (u : Value), BindsTo s fd ⟨[u], []⟩ [(x, u)]) ∧
        ∀ base : Heap, (K w.params).In base → base.Ns mainGlobals mg → FnG l.prog w (K w.params) mg base k fa fd [x] (sp (K w.params)))
    (hsp : ∀ (K : PySem.W.Frag) (H : Hp) (a : Addr) (ns : List Int), ns.length ≤ n → (∀ z ∈ ns, Builtin.Int.intBits z ≤ 1048576) → SqL K H a (ns.map V.int) →
      sp K [.ref a] H (fun v _ => v = .bl true) fun _ _ _ => False) :
    PySem.W.WalkO q loose XP YP l.row.toRowW d [] (fun f vs => PySem.call f vs) := by
  refine Att.attach_callB hn hdf ?_
  intro w s₀ s₁ mg mb fa o pm cd doc a vs ns G Y ho hd hcd hmg hobj hints hlen hbits hg
  have inK := hY w _ Y
  obtain ⟨fd, hb, hF⟩ := F w mg fa _ inK G.T.g hmg
  exact enterG inK G.T.g G.T.b G.T.builtins G.T.nolimit hg hobj hints (Nat.le_trans hlen hn2) room hF hb fun H hS => hsp _ H a ns hlen hbits hS

/-! ### data in the heap -/
def keyD : Key → PyData
  | .inl i => .int i
  | .inr x => .str x
mutual
/-- v holds the data d; f: no list of it stands at the place of sys.modules -/
inductive D (f : Bool) (H : Hp) : V → PyData → Prop
  | non : D f H .non .none
  | bl (b : Bool) : D f H (.bl b) (.bool b)
  | int (i : Int) : D f H (.int i) (.int i)
  | str (x : Str) : D f H (.str x) (.str x)
  | lst {a : Addr} {xs : List V} {ds : List PyData} : H a = some (.lst xs) → (f = true → a ≠ sysModules) → DA f H xs ds → D f H (.ref a) (.list ds)
  | tup {a : Addr} {xs : List V} {ds : List PyData} : H a = some (.tup xs) → DA f H xs ds → D f H (.ref a) (.tuple ds)
  | dct {a : Addr} {kvs : List (Key × V)} {ds : List PyData} : H a = some (.dK kvs) → DA f H (kvs.map (·.2)) ds → D f H (.ref a) (.dict ((kvs.map fun p => keyD p.1).zip ds))
inductive DA (f : Bool) (H : Hp) : List V → List PyData → Prop
  | nil : DA f H [] []
  | cons {v : V} {vs : List V} {d : PyData} {ds : List PyData} : D f H v d → DA f H vs ds → DA f H (v :: vs) (d :: ds)
end
theorem DA.length {f : Bool} {H : Hp} : ∀ {vs : List V} {ds : List PyData}, DA f H vs ds → vs.length = ds.length
  | _, _, .nil => rfl
  | _, _, .cons _ t => by rw [List.length_cons, List.length_cons, t.length]
theorem DA.get {f : Bool} {H : Hp} : ∀ {vs : List V} {ds : List PyData} (i : Nat) {v : V}, DA f H vs ds → vs[i]? = some v → ∃ d, ds[i]? = some d ∧ D f H v d
  | _, _, _, _, .nil, e => by simp at e
  | _, _, 0, _, .cons h _, e => by
    simp at e
    subst e
    exact ⟨_, rfl, h⟩
  | _, _, i + 1, v, .cons _ t, e => by
    obtain ⟨d, e1, h⟩ := DA.get i (v := v) t (by simpa using e)
    exact ⟨d, by simpa using e1, h⟩
theorem DA.append {f : Bool} {H : Hp} : ∀ {vs ws : List V} {ds es : List PyData}, DA f H vs ds → DA f H ws es → DA f H (vs ++ ws) (ds ++ es)
  | _, _, _, _, .nil, h => h
  | _, _, _, _, .cons h t, g => .cons h (t.append g)
theorem DA.take {f : Bool} {H : Hp} : ∀ {vs : List V} {ds : List PyData} (n : Nat), DA f H vs ds → DA f H (vs.take n) (ds.take n)
  | _, _, 0, _ => .nil
  | _, _, _ + 1, .nil => .nil
  | _, _, n + 1, .cons h t => .cons h (t.take n)
theorem DA.drop {f : Bool} {H : Hp} : ∀ {vs : List V} {ds : List PyData} (n : Nat), DA f H vs ds → DA f H (vs.drop n) (ds.drop n)
  | _, _, 0, h => h
  | _, _, _ + 1, .nil => .nil
  | _, _, n + 1, .cons _ t => t.drop n
theorem DA.rev {f : Bool} {H : Hp} : ∀ {vs : List V} {ds : List PyData}, DA f H vs ds → DA f H vs.reverse ds.reverse
  | _, _, .nil => .nil
  | _, _, .cons h t => by
    rw [List.reverse_cons, List.reverse_cons]
    exact t.rev.append (.cons h .nil)
mutual
theorem D.same {f : Bool} {H H' : Hp} (s : Same H H') : ∀ {v : V} {d : PyData}, D f H v d → D f H' v d
  | _, _, .non => .non
  | _, _, .bl b => .bl b
  | _, _, .int i => .int i
  | _, _, .str x => .str x
  | _, _, .lst e n t => .lst (s _ _ e) n (DA.same s t)
  | _, _, .tup e t => .tup (s _ _ e) (DA.same s t)
  | _, _, .dct e t => .dct (s _ _ e) (DA.same s t)
theorem DA.same {f : Bool} {H H' : Hp} (s : Same H H') : ∀ {vs : List V} {ds : List PyData}, DA f H vs ds → DA f H' vs ds
  | _, _, .nil => .nil
  | _, _, .cons a b => .cons (D.same s a) (DA.same s b)
end
mutual
theorem D.weak {f : Bool} {H : Hp} : ∀ {v : V} {d : PyData}, D f H v d → D false H v d
  | _, _, .non => .non
  | _, _, .bl b => .bl b
  | _, _, .int i => .int i
  | _, _, .str x => .str x
  | _, _, .lst e _ t => .lst e (fun z => nomatch z) (DA.weak t)
  | _, _, .tup e t => .tup e (DA.weak t)
  | _, _, .dct e t => .dct e (DA.weak t)
theorem DA.weak {f : Bool} {H : Hp} : ∀ {vs : List V} {ds : List PyData}, DA f H vs ds → DA false H vs ds
  | _, _, .nil => .nil
  | _, _, .cons a b => .cons (D.weak a) (DA.weak b)
end

/-! ### the data are read by the machine -/
theorem readsAll_app {h : Heap} : ∀ {vs : List Value} {ds : List PyData} {as : List Addr}, ReadsAll h vs ds as → True := fun _ => trivial
theorem pairs_keys {P : Program} {w : World} {h : Heap} : ∀ {es : List DictEntry} {kvs : List (Key × Value)}, Pairs (mixKind P w) es kvs →
    ReadsAll h (es.map (·.key)) (kvs.map fun p => keyD p.1) []
  | _, _, .nil => .nil
  | _, _, .cons (kv := kv) (e := e) hk _ t => by
    have r : Reads h e.key (keyD kv.1) [] := by
      rcases keyIs_shape (show keyIs kv.1 e.key = true from hk) with ⟨i, tk, e1, e2⟩ | ⟨x, tk, e1, e2⟩
      · rw [e1, e2]; exact Reads.int i tk
      · rw [e1, e2]; exact Reads.str x tk
    exact ReadsAll.cons r (pairs_keys t)
theorem pairs_vals {P : Program} {w : World} : ∀ {es : List DictEntry} {kvs : List (Key × Value)}, Pairs (mixKind P w) es kvs → es.map (·.val) = kvs.map (·.2)
  | _, _, .nil => rfl
  | _, _, .cons _ hv t => by rw [List.map_cons, List.map_cons, hv, pairs_vals t]
theorem kv_keys : ∀ {kvs : List (Key × V)} {vs : List (Key × Value)}, KV kvs vs → kvs.map (fun p => keyD p.1) = vs.map fun p => keyD p.1
  | _, _, .nil => rfl
  | _, _, .cons h t => by rw [List.map_cons, List.map_cons, h.1, kv_keys t]
theorem kv_vals : ∀ {kvs : List (Key × V)} {vs : List (Key × Value)}, KV kvs vs → Vals (kvs.map (·.2)) (vs.map (·.2))
  | _, _, .nil => .nil
  | _, _, .cons h t => .cons h.2 (kv_vals t)
section
variable {X : Cx} {pins : List (Addr × Obj)} {σ : L2.St} {H : Hp} {s : Shared}
mutual
theorem D.reads {f : Bool} (I : Inv X pins σ H s) : ∀ {v : V} {d : PyData}, D f H v d → ∀ u, RelV v u → ∃ as, Reads s.heap u d as ∧ (f = true → sysModules ∉ as)
  | _, _, .non, u, r => by
    cases r
    exact ⟨_, Reads.none, fun _ => List.not_mem_nil⟩
  | _, _, .bl b, u, r => by
    cases r
    exact ⟨_, Reads.bool b, fun _ => List.not_mem_nil⟩
  | _, _, .int i, u, r => by
    obtain ⟨t, rfl⟩ := r
    exact ⟨_, Reads.int i t, fun _ => List.not_mem_nil⟩
  | _, _, .str x, u, r => by
    obtain ⟨t, rfl⟩ := r
    exact ⟨_, Reads.str x t, fun _ => List.not_mem_nil⟩
  | _, _, .lst (a := a) (xs := xs) e n t, u, r => by
    cases (show u = Value.ref a from r)
    obtain ⟨_, its, k, rv, ho⟩ := (show ObjOk X.prog X.w H s.heap a (.lst xs) from I.hok a _ e)
    obtain ⟨as, ra, na⟩ := DA.reads I t its rv
    refine ⟨_, Reads.list ho rfl rfl ra, fun hf z => ?_⟩
    rcases List.mem_cons.mp z with z | z
    · exact n hf z.symm
    · exact na hf z
  | _, _, .tup (a := a) (xs := xs) e t, u, r => by
    cases (show u = Value.ref a from r)
    obtain ⟨_, its, rv, o, ho, hc, k, hd⟩ := (show ObjOk X.prog X.w H s.heap a (.tup xs) from I.hok a _ e)
    obtain ⟨as, ra, na⟩ := DA.reads I t its rv
    exact ⟨_, Reads.tuple ho hc hd ra, na⟩
  | _, _, .dct (a := a) (kvs := kvs) (ds := ds) e t, u, r => by
    cases (show u = Value.ref a from r)
    obtain ⟨_, ns, vs, kv, o, es, ep, ho, ex, hd, _, pr, _⟩ := (show ObjOk X.prog X.w H s.heap a (.dK kvs) from I.hok a _ e)
    obtain ⟨as, ra, na⟩ := DA.reads I t _ (kv_vals kv)
    have hl : (kvs.map fun p => keyD p.1).length = ds.length := by
      have := t.length
      rw [List.length_map] at this
      rw [List.length_map]
      exact this
    have r1 := pairs_keys (h := s.heap) pr
    rw [← kv_keys kv] at r1
    rw [← pairs_vals pr] at ra
    refine ⟨_, Reads.dict ho ex.1 hd (as := []) (bs := as) ?_ ?_, fun hf z => ?_⟩
    · rw [List.map_fst_zip (Nat.le_of_eq hl)]
      exact r1
    · rw [List.map_snd_zip (Nat.le_of_eq hl.symm)]
      exact ra
    · rcases List.mem_cons.mp z with z | z
      · rw [← z] at ns
        exact absurd ns (by decide)
      · exact na hf (by simpa using z)
theorem DA.reads {f : Bool} (I : Inv X pins σ H s) : ∀ {vs : List V} {ds : List PyData}, DA f H vs ds → ∀ us, Vals vs us → ∃ as, ReadsAll s.heap us ds as ∧ (f = true → sysModules ∉ as)
  | _, _, .nil, us, r => by
    cases r
    exact ⟨_, ReadsAll.nil, fun _ => List.not_mem_nil⟩
  | _, _, .cons h t, us, r => by
    cases r with
    | cons r1 r2 =>
      obtain ⟨as, q1, n1⟩ := D.reads I h _ r1
      obtain ⟨bs, q2, n2⟩ := DA.reads I t _ r2
      exact ⟨_, ReadsAll.cons q1 q2, fun hf z => (List.mem_append.mp z).elim (n1 hf) (n2 hf)⟩
end
end

/-! ### repr -/
/-- what repr takes -/
structure Ok (d : PyData) : Prop where
  sh : d.showable = true
  dp : d.depth ≤ 100
  ln : d.shown.length ≤ sizeLine
def rRepr : List V → Hp → VK → Prop := fun xs H Q => ∃ (v : V) (d : PyData) (f : Bool), xs = [v] ∧ D f H v d ∧ (d.hasDict = true → f = true) ∧ Ok d ∧ Q (.str d.shown) H
theorem call_repr {X : Cx} {k : Nat} (hgd : X.A.guards = some []) (room : Room k X.A) : CallR X (.builtin "repr") rRepr := by
  intro pins s σ H xs us Q I r h
  obtain ⟨v, d, f, rfl, hd, hf, ok, q⟩ := h
  obtain ⟨u, rfl, ru⟩ := vals1 r
  cases hd with
  | non =>
    cases ru
    exact PySem.P.repr_of_none ⟨.str _, H, I.tok _, ⟨_, rfl⟩, by simpa only [PyData.shown] using q⟩
  | bl b =>
    cases ru
    exact PySem.P.repr_of_bool ⟨.str _, H, I.tok _, ⟨_, rfl⟩, by simpa only [PyData.shown] using q⟩
  | int i =>
    obtain ⟨t, rfl⟩ := ru
    have hz : i.natAbs.log2 < 1920 := by simpa only [PyData.showable, decide_eq_true_eq] using ok.sh
    exact PySem.P.repr_of_int hz ⟨.str _, H, I.tok _, ⟨_, rfl⟩, by simpa only [PyData.shown] using q⟩
  | str x =>
    obtain ⟨t, rfl⟩ := ru
    have hz : (reprText x).length ≤ sizeLine := by simpa only [PyData.shown] using ok.ln
    exact PySem.P.repr_of_str ⟨.str _, H, I.tok _, ⟨_, rfl⟩, by simpa only [PyData.shown] using q⟩ hz
  | lst e n t =>
    cases ru
    obtain ⟨as, rd, na⟩ := D.reads I (.lst e n t) _ rfl
    have hu := room.un
    have hdp := ok.dp
    exact repr_of_reads' rd ok.sh (fun z => na (hf z)) hgd (by omega) (fun _ _ e => e) (fun h' tk t2 hk => ⟨.str _, H, I.kept (t' := t2) hk, ⟨_, rfl⟩, q⟩) ok.ln
  | tup e t =>
    cases ru
    obtain ⟨as, rd, na⟩ := D.reads I (.tup e t) _ rfl
    have hu := room.un
    have hdp := ok.dp
    exact repr_of_reads' rd ok.sh (fun z => na (hf z)) hgd (by omega) (fun _ _ e => e) (fun h' tk t2 hk => ⟨.str _, H, I.kept (t' := t2) hk, ⟨_, rfl⟩, q⟩) ok.ln
  | dct e t =>
    cases ru
    obtain ⟨as, rd, na⟩ := D.reads I (.dct e t) _ rfl
    have hu := room.un
    have hdp := ok.dp
    exact repr_of_reads' rd ok.sh (fun z => na (hf z)) hgd (by omega) (fun _ _ e => e) (fun h' tk t2 hk => ⟨.str _, H, I.kept (t' := t2) hk, ⟨_, rfl⟩, q⟩) ok.ln
end Lw

namespace Lw
open PySem PySem.Spec PyProof.Rows L2

/-! ### powers of great numbers -/
def CPowW (i j : Int) : Prop := 0 ≤ j ∧ (Builtin.Int.intBits i : Int) * j ≤ 2 ^ 27
theorem op_powW {X : Cx} : OpR X (binaryOp .Pow) (rI CPowW fun i j => .int (i ^ j.toNat)) :=
  opI fun _ _ _ _ _ _ _ hc q => pow_int hc.1 hc.2 q

/-! ### a tuple turned about -/
section
variable {prog : Program} {w : World} {A : Around} {E : Value → Shared → Prop} {s : Shared}
theorem places_back (n : Nat) : Builtin.Slice.slicePlaces ((n : Int) - 1) (-1) (-1) = n := by
  unfold Builtin.Slice.slicePlaces
  rw [if_neg (by decide)]
  by_cases h : n = 0
  · subst h
    rfl
  · rw [if_pos (by omega)]
    have e : (((n : Int) - 1 - -1 - 1) / (- -1)) = (n : Int) - 1 := by
      rw [show (- -1 : Int) = 1 from rfl, Int.ediv_one]
      omega
    rw [e]
    omega
theorem pick_back (xs : Array Value) : ((List.range xs.size).filterMap fun (k : Nat) => xs[((xs.size : Int) - 1 + (k : Int) * (-1)).toNat]?) = xs.toList.reverse := by
  have e : ∀ k ∈ List.range xs.size, xs[((xs.size : Int) - 1 + (k : Int) * (-1)).toNat]? = xs.toList.reverse[k]? := by
    intro k hk
    have hk' : k < xs.size := List.mem_range.mp hk
    have e1 : ((xs.size : Int) - 1 + (k : Int) * (-1)).toNat = xs.size - 1 - k := by omega
    rw [e1, List.getElem?_reverse (by rw [Array.length_toList]; exact hk'), Array.length_toList, Array.getElem?_toList]
  have fm : ∀ (l : List Nat) (f g : Nat → Option Value), (∀ k ∈ l, f k = g k) → l.filterMap f = l.filterMap g := by
    intro l f g
    induction l with
    | nil => intro _; rfl
    | cons k l ih =>
      intro h
      rw [List.filterMap_cons, List.filterMap_cons, h k List.mem_cons_self, ih fun j hj => h j (List.mem_cons_of_mem _ hj)]
  rw [fm _ _ _ e]
  have e2 : xs.size = xs.toList.reverse.length := by rw [List.length_reverse, Array.length_toList]
  rw [e2]
  generalize xs.toList.reverse = ys
  induction ys with
  | nil => rfl
  | cons y ys ih =>
    rw [List.length_cons, List.range_succ_eq_map, List.filterMap_cons]
    show y :: _ = _
    rw [List.filterMap_map]
    exact congrArg (y :: ·) ih
theorem getItem_back {t sl : Addr} {items : Array Value} {tk : Tok} {Q : Value → Shared → Prop} (ht : IsTup s.heap t items) (hs : s.heap.IsSliceOf sl .none .none (.int (-1) tk))
    (h : Q (.ref s.heap.objs.size) { s with heap := s.heap.push { cls := .type "tuple", data := .seq items.toList.reverse.toArray } }) (hz : items.size ≤ sizeLine) :
    wpAny (model prog w) A (getItem (.ref t) (.ref sl)) Q E s := by
  have room : sizeOk (.seq items.toList.reverse.toArray) := by
    show items.toList.reverse.toArray.size ≤ sizeLine
    rw [List.size_toArray, List.length_reverse, Array.length_toList]
    exact hz
  obtain ⟨os, hos, hcs, hds⟩ := id hs
  have hTs : s.TypeIs (.ref sl) "slice" := ⟨os, hos, hcs⟩
  unfold getItem
  try with_reducible refine wpAny_holding ?_
  first
    | refine wpAny_bind (wpAny_pure ?_)
    | skip
  refine wpAny_bind (wpAny_sequenceKey ht.typeIs (by decide) ?_)
  refine wpAny_bind (wpAny_callSpecial?_slot (name := Str.ofString "__getitem__") ht.typeIs
    PyProof.Rows.slot_tuple_getitem (wpAny_call_entry PyProof.Rows.slot_tuple_getitem ht.typeIs entry_tuple_getitem ?_ (args_tuple_getitem _ _)))
  show wpAny _ _ (Builtin.Tuple.tupleItemsOf (.ref t) >>= _) _ _ s
  refine wpAny_bind (tupleItemsOf_ ht ?_)
  refine wpAny_bind (wpAny_typeOf hTs ?_)
  rw [if_pos (by decide)]
  refine wpAny_bind (m := Builtin.Slice.sliceApplied (.ref sl) (pure (items.size : Int))) ?_
  unfold Builtin.Slice.sliceApplied Builtin.Slice.sliceFields
  refine wpAny_bind (wpAny_bind (wpAny_field hos hds (x := Value.none) rfl (wpAny_bind
    (wpAny_field hos hds (x := Value.none) rfl (wpAny_bind (wpAny_field hos hds (x := .int (-1) tk) rfl (wpAny_pure ?_)))))))
  refine wpAny_bind (slicePart_int ?_)
  show wpAny _ _ (if ((-1 : Int) == 0) = true then _ else _) _ _ s
  rw [if_neg (by decide)]
  refine wpAny_bind (slicePart_none (wpAny_bind (slicePart_none (wpAny_bind (wpAny_pure ?_)))))
  show wpAny _ _ (pure ((items.size : Int) - 1, (-1 : Int), Builtin.Slice.slicePlaces ((items.size : Int) - 1) (-1) (-1))) _ _ s
  rw [places_back]
  refine wpAny_pure ?_
  show wpAny _ _ (if (((items.size : Int) - 1 == 0) && ((-1 : Int) == 1) && (items.size == items.size)) = true then _ else _) _ _ s
  rw [if_neg (by simp), pick_back]
  first
    | exact wpAny_bind (m := Builtin.Tuple.tupleExact _) (wpAny_newObj_type (wpAny_pure ⟨_, rfl, wpAny_pure h⟩) room)
    | exact wpAny_bind (m := Builtin.Tuple.tupleExact _)
        (wpAny_newObj_type (wpAny_bind (wpAny_pure (wpAny_pure ⟨_, rfl, wpAny_pure h⟩))) room)
end
section
variable {X : Cx}
def tRevT (K : PySem.W.Frag) (te : TE) : TE := fun σ H Q => te σ H fun x H1 => ∃ a xs, x = .ref a ∧ SqT K H1 a xs ∧ ∀ p, H1 p = none → Q (.ref p) (upd H1 p (.tup xs.reverse))
theorem vals_rev : ∀ {xs : List V} {us : List Value}, Vals xs us → Vals xs.reverse us.reverse
  | _, _, .nil => .nil
  | _, _, .cons h t => by
    rw [List.reverse_cons, List.reverse_cons]
    exact (vals_rev t).append (.cons h .nil)
theorem pe_revT {e : Expr} {te : TE} {k : Nat} {p1 p2 p3 pos : Pos} (he : PE X e te) :
    PE X (.Subscript e (.Slice none none (some (.UnaryOp .USub (.Constant (.int 1) k p1) p2)) p3) pos) (tRevT X.K te) := by
  refine ⟨fun pins s σ H Q I h => Subscript_ (thn (he.run pins s σ H _ I h) ?_)⟩
  rintro v s1 ⟨x, H1, I1, r1, a, xs, rfl, hx, q⟩
  cases r1
  have hst : PO X (some (.UnaryOp .USub (.Constant (.int 1) k p1) p2)) (tPart (tUn (rU fun i => .int (-i)) (tC (.int 1)))) :=
    po_some (pe_un un_neg pe_int)
  refine wpAny_Slice (thn (po_none.run pins s1 σ H1 (fun o H2 => o = none ∧ H2 = H1) I1 ⟨rfl, rfl⟩) ?_)
  rintro vl s2 ⟨l, H2, I2, pl, el, e2⟩
  subst el e2
  refine thn (po_none.run pins s2 σ H2 (fun o H3 => o = none ∧ H3 = H2) I2 ⟨rfl, rfl⟩) ?_
  rintro vu s3 ⟨u, H3, I3, pu, eu, e3⟩
  subst eu e3
  refine thn (hst.run pins s3 σ H3 (fun o H4 => o = some (-1) ∧ H4 = H3) I3 ⟨1, rfl, -1, rfl, rfl, rfl⟩) ?_
  rintro vs s4 ⟨o, H4, I4, ps, eo, e4⟩
  subst eo e4
  cases pl
  cases pu
  cases ps with
  | int i tk =>
    have I5 : Inv X pins σ H4 { s4 with heap := s4.heap.push { cls := .type "slice", data := .fields #[.none, .none, .int (-1) tk] } } :=
      I4.kept (t' := s4.toks) fun b ob q => Heap.get?_push_of_some _ q
    obtain ⟨its, r, ht, hz⟩ := I5.tuple hx
    have hlen := r.length
    show wpAny (model X.prog X.w) X.A (subscriptTail e (.Slice none none (some (.UnaryOp .USub (.Constant (.int 1) k p1) p2)) p3) (.ref a)
      (.ref s4.heap.objs.size)) (EP X pins σ Q) X.xe { s4 with heap := s4.heap.push { cls := .type "slice", data := .fields #[.none, .none, .int (-1) tk] } }
    refine tail_any (ops := [.ref a, .ref s4.heap.objs.size]) ht.typeIs PyProof.Rows.slot_tuple_getitem.lookup ?_ (by with_unfolding_all rfl)
    refine getItem_back ht (Heap.IsSliceOf.new _ _ _ _) ?_ (by rw [List.size_toArray]; omega)
    refine ⟨.ref _, _, I5.laid (t' := s4.toks) (o := .tup xs.reverse) (fun b ob q => Heap.get?_push_of_some _ q) (Nat.le_refl _) ?_, rfl, q _ (I5.hok.fresh (Nat.le_refl _))⟩
    exact ⟨by rw [List.length_reverse]; exact hz, its.reverse, vals_rev r, IsTup.new _ _⟩
/-! ### tuples cut and put together: one way out -/
theorem cut_whole {xs : List V} {lo hi : Option Int} (h : HT.sIx xs.length 0 lo = 0 ∧ HT.sIx xs.length xs.length hi = xs.length) : cutV xs lo hi = xs := by
  unfold cutV
  rw [h.1, h.2, List.drop_zero, Nat.sub_zero]
  exact List.take_length
def rSlU : V → Option Int → Option Int → Hp → VK → Prop := fun x lo hi H Q => ∃ a xs, x = .ref a ∧ H a = some (.tup xs) ∧
  ∀ p H', Same H H' → H' p = some (.tup (cutV xs lo hi)) → (p = a ∨ H p = none) → Q (.ref p) H'
theorem upd_grow {H : Hp} {p : Addr} {o : HO} (h : H p = none) : Same H (upd H p o) := fun b u q => by
  rw [upd_ne (ne_of_none q h)]
  exact q
theorem sl_U : SlR X rSlU := by
  intro pins s σ H x v vl vu lo hi sl Q I rx hs pl pu h
  obtain ⟨a, xs, rfl, hx, q⟩ := h
  refine sl_tupA pins s σ H _ v vl vu lo hi sl Q I rx hs pl pu ⟨a, xs, rfl, SqT.of hx, fun hw => ?_, fun _ p np => ?_⟩
  · exact q a H (Same.refl H) (by rw [cut_whole hw]; exact hx) (Or.inl rfl)
  · exact q p _ (upd_grow np) upd_same (Or.inr np)
def rCatU : R2 := fun x y H Q => ∃ a b xs ys, x = .ref a ∧ y = .ref b ∧ H a = some (.tup xs) ∧ H b = some (.tup ys) ∧ xs.length + ys.length ≤ sizeLine ∧
  ∀ p H', Same H H' → H' p = some (.tup (xs ++ ys)) → (p = a ∨ p = b ∨ H p = none) → Q (.ref p) H'
theorem op_catU : OpR X (binaryOp .Add) rCatU := by
  intro pins s σ H x y v u Q I rx ry h
  obtain ⟨a, b, xs, ys, rfl, rfl, ha, hb, hz, q⟩ := h
  refine op_catA pins s σ H _ _ v u Q I rx ry ⟨a, b, xs, ys, rfl, rfl, SqT.of ha, SqT.of hb, hz, fun e => ?_, fun _ e => ?_, fun _ _ p np => ?_⟩
  · exact q b H (Same.refl H) (by rw [e]; exact hb) (Or.inr (Or.inl rfl))
  · exact q a H (Same.refl H) (by rw [e, List.append_nil]; exact ha) (Or.inl rfl)
  · exact q p _ (upd_grow np) upd_same (Or.inr (Or.inr np))
def cutD (ds : List PyData) (lo hi : Option Int) : List PyData := (ds.drop (HT.sIx ds.length 0 lo)).take (HT.sIx ds.length ds.length hi - HT.sIx ds.length 0 lo)
theorem DA.cut {f : Bool} {H : Hp} {xs : List V} {ds : List PyData} (h : DA f H xs ds) (lo hi : Option Int) : DA f H (cutV xs lo hi) (cutD ds lo hi) := by
  unfold cutV cutD
  rw [h.length]
  exact (h.drop _).take _
theorem cutD_mem {ds : List PyData} {lo hi : Option Int} {x : PyData} (h : x ∈ cutD ds lo hi) : x ∈ ds := List.mem_of_mem_drop (List.mem_of_mem_take h)
theorem cutV_le (xs : List V) (lo hi : Option Int) : (cutV xs lo hi).length ≤ xs.length := cutV_length xs lo hi
end
end Lw

namespace Lw
open PySem PySem.Spec PyProof.Rows L2

/-! ### kinds of data -/
def tyD : PyData → String
  | .none => "NoneType"
  | .bool _ => "bool"
  | .int _ => "int"
  | .str _ => "str"
  | .list _ => "list"
  | .tuple _ => "tuple"
  | .dict _ => "dict"
theorem D.ty {f : Bool} {K : PySem.W.Frag} {H : Hp} {v : V} {d : PyData} (h : D f H v d) : TyX K H v (.type (tyD d)) := by
  cases h with
  | non => exact .base .non
  | bl b => exact .base (.bl b)
  | int i => exact .base (.int i)
  | str x => exact .base (.str x)
  | lst e n t => exact .base (.lst e)
  | tup e t => exact .base (.tup e)
  | dct e t => exact .base (.dK e)
def isIntD : PyData → Bool
  | .int _ => true
  | .bool _ => true
  | _ => false
def isBoolD : PyData → Bool
  | .bool _ => true
  | _ => false
def isTupD : PyData → Bool
  | .tuple _ => true
  | _ => false
def isStrD : PyData → Bool
  | .str _ => true
  | _ => false
section
variable {K : PySem.W.Frag} {H : Hp} {f : Bool} {v : V} {d : PyData} {Q : VK}
theorem kit_int (d : PyData) : PySem.W.kitOne K (.type (tyD d)) (.type "int") = some (isIntD d) := by
  cases d with
  | none => exact kit_ty (by decide +kernel : kitB "NoneType" "int" = some false)
  | bool b => exact kit_ty (by decide +kernel : kitB "bool" "int" = some true)
  | int i => exact kit_ty (by decide +kernel : kitB "int" "int" = some true)
  | str x => exact kit_ty (by decide +kernel : kitB "str" "int" = some false)
  | list xs => exact kit_ty (by decide +kernel : kitB "list" "int" = some false)
  | tuple xs => exact kit_ty (by decide +kernel : kitB "tuple" "int" = some false)
  | dict kvs => exact kit_ty (by decide +kernel : kitB "dict" "int" = some false)
theorem kit_bool (d : PyData) : PySem.W.kitOne K (.type (tyD d)) (.type "bool") = some (isBoolD d) := by
  cases d with
  | none => exact kit_ty (by decide +kernel : kitB "NoneType" "bool" = some false)
  | bool b => exact kit_ty (by decide +kernel : kitB "bool" "bool" = some true)
  | int i => exact kit_ty (by decide +kernel : kitB "int" "bool" = some false)
  | str x => exact kit_ty (by decide +kernel : kitB "str" "bool" = some false)
  | list xs => exact kit_ty (by decide +kernel : kitB "list" "bool" = some false)
  | tuple xs => exact kit_ty (by decide +kernel : kitB "tuple" "bool" = some false)
  | dict kvs => exact kit_ty (by decide +kernel : kitB "dict" "bool" = some false)
theorem kit_tup (d : PyData) : PySem.W.kitOne K (.type (tyD d)) (.type "tuple") = some (isTupD d) := by
  cases d with
  | none => exact kit_ty (by decide +kernel : kitB "NoneType" "tuple" = some false)
  | bool b => exact kit_ty (by decide +kernel : kitB "bool" "tuple" = some false)
  | int i => exact kit_ty (by decide +kernel : kitB "int" "tuple" = some false)
  | str x => exact kit_ty (by decide +kernel : kitB "str" "tuple" = some false)
  | list xs => exact kit_ty (by decide +kernel : kitB "list" "tuple" = some false)
  | tuple xs => exact kit_ty (by decide +kernel : kitB "tuple" "tuple" = some true)
  | dict kvs => exact kit_ty (by decide +kernel : kitB "dict" "tuple" = some false)
theorem kit_str (d : PyData) : PySem.W.kitOne K (.type (tyD d)) (.type "str") = some (isStrD d) := by
  cases d with
  | none => exact kit_ty (by decide +kernel : kitB "NoneType" "str" = some false)
  | bool b => exact kit_ty (by decide +kernel : kitB "bool" "str" = some false)
  | int i => exact kit_ty (by decide +kernel : kitB "int" "str" = some false)
  | str x => exact kit_ty (by decide +kernel : kitB "str" "str" = some true)
  | list xs => exact kit_ty (by decide +kernel : kitB "list" "str" = some false)
  | tuple xs => exact kit_ty (by decide +kernel : kitB "tuple" "str" = some false)
  | dict kvs => exact kit_ty (by decide +kernel : kitB "dict" "str" = some false)
end
/-- a new thing is laid -/
theorem same_new {H : Hp} {p : Addr} {o : HO} (h : H p = none) : Same H (upd H p o) := fun b u q => by
  rw [upd_ne (ne_of_none q h)]
  exact q

/-! ### draws -/
/-- the hand that draws: at most n draws were mixed -/
def Hd (H : Hp) (a : Addr) (n : Nat) : Prop := ∃ g m c : Int, H a = some (.lst [.int g, .int m, .int c]) ∧ 0 ≤ m ∧ m < 2305843009213693921 ∧ 0 ≤ c ∧ c ≤ n
/-- all but what stands at a is as it was -/
def Kp (a : Addr) (H H' : Hp) : Prop := ∀ b o, b ≠ a → H b = some o → H' b = some o
theorem Kp.refl (a : Addr) (H : Hp) : Kp a H H := fun _ _ _ h => h
theorem Kp.trans {a : Addr} {H H1 H2 : Hp} (x : Kp a H H1) (y : Kp a H1 H2) : Kp a H H2 := fun b o n h => y b o n (x b o n h)
theorem Kp.of_same {a : Addr} {H H' : Hp} (x : Same H H') : Kp a H H' := fun b o _ h => x b o h
theorem Kp.upd {a : Addr} {H H' : Hp} {o : HO} (x : Kp a H H') : Kp a H (L2.upd H' a o) := fun b u n h => by
  rw [upd_ne n]
  exact x b u n h
theorem Hd.same {H H' : Hp} {a : Addr} {n : Nat} (x : Hd H a n) (s : Same H H') : Hd H' a n := by
  obtain ⟨g, m, c, e, r⟩ := x
  exact ⟨g, m, c, s _ _ e, r⟩
theorem Hd.mono {H : Hp} {a : Addr} {n k : Nat} (x : Hd H a n) (h : n ≤ k) : Hd H a k := by
  obtain ⟨g, m, c, e, h1, h2, h3, h4⟩ := x
  exact ⟨g, m, c, e, h1, h2, h3, by omega⟩
/-- the heap without what stands at some places -/
def remL (as : List Addr) (H : Hp) : Hp := fun b => if b ∈ as then none else H b
theorem remL_ne {as : List Addr} {b : Addr} {H : Hp} (h : b ∉ as) : remL as H b = H b := if_neg h
theorem remL_some {as : List Addr} {b : Addr} {H : Hp} {o : HO} (h : remL as H b = some o) : b ∉ as ∧ H b = some o := by
  by_cases e : b ∈ as
  · rw [show remL as H b = none from if_pos e] at h
    cases h
  · rw [remL_ne e] at h
    exact ⟨e, h⟩
theorem remL_same {as : List Addr} {H : Hp} : Same (remL as H) H := fun b o h => (remL_some h).2
theorem same_remL {as : List Addr} {H H' : Hp} (k : Same H H') : Same (remL as H) (remL as H') := fun b o h => by
  obtain ⟨n, e⟩ := remL_some h
  rw [remL_ne n]
  exact k b o e
theorem Kp.remL {as : List Addr} {a : Addr} {H H' : Hp} (ha : a ∈ as) (k : Kp a H H') : Same (Lw.remL as H) (Lw.remL as H') := fun b o h => by
  obtain ⟨n, e⟩ := remL_some h
  rw [remL_ne n]
  exact k b o (fun z => n (z ▸ ha)) e
/-- these places are taken -/
def Trk (as : List Addr) (H : Hp) : Prop := ∀ b ∈ as, H b ≠ none
theorem Trk.same {as : List Addr} {H H' : Hp} (t : Trk as H) (k : Same H H') : Trk as H' := fun b hb z => by
  cases e : H b with
  | none => exact t b hb e
  | some o =>
    rw [k b o e] at z
    cases z
theorem Trk.kp {as : List Addr} {a : Addr} {n : Nat} {H H' : Hp} (t : Trk as H) (k : Kp a H H') (h : Hd H' a n) : Trk as H' := fun b hb z => by
  by_cases e0 : b = a
  · obtain ⟨g, m, c, e, _⟩ := h
    rw [e0, e] at z
    cases z
  · cases e : H b with
    | none => exact t b hb e
    | some o =>
      rw [k b o e0 e] at z
      cases z
theorem Trk.new {as : List Addr} {H : Hp} {p : Addr} (t : Trk as H) (h : H p = none) : p ∉ as := fun z => t p z h
theorem remL_new {as : List Addr} {H : Hp} {p : Addr} {o : HO} (t : Trk as H) (h : H p = none) : remL as (upd H p o) p = some o := by
  rw [remL_ne (t.new h), upd_same]

/-! ### how large data are -/
theorem int_short {i : Int} (h : i.natAbs < 10 ^ 62) : (PyData.shown (.int i)).length ≤ 64 := by
  have e := int_text_length_le10 (k := 62) (by decide) h
  show (Str.ofString (toString i)).length ≤ 64
  rw [PySem.ofString_length]
  omega
structure Bd (n m : Nat) (d : PyData) : Prop where
  lf : d.leavesShort 64 = true
  sh : d.showable = true
  dp : d.depth ≤ n
  wt : d.weight ≤ m
theorem Bd.mono {n m n' m' : Nat} {d : PyData} (h : Bd n m d) (hn : n ≤ n') (hm : m ≤ m') : Bd n' m' d := ⟨h.lf, h.sh, Nat.le_trans h.dp hn, Nat.le_trans h.wt hm⟩
theorem Bd.ok {n m : Nat} {d : PyData} (h : Bd n m d) (hn : n ≤ 100) (hm : m ≤ 250000) : Ok d := by
  refine ⟨h.sh, Nat.le_trans h.dp hn, ?_⟩
  have h1 := PyData.shown_le 64 (by decide) d h.lf
  have h2 : (64 + 2) * d.weight + 64 ≤ 16777216 := by
    have := h.wt
    omega
  exact Nat.le_trans h1 h2
theorem all_of {n m : Nat} : ∀ {ds : List PyData}, (∀ x ∈ ds, Bd n m x) → PyData.leavesShortAll 64 ds = true ∧ PyData.showableAll ds = true ∧ PyData.depthAll ds ≤ n ∧ PyData.weightAll ds ≤ ds.length * (m + 1)
  | [], _ => by
    refine ⟨rfl, rfl, ?_, ?_⟩
    · show PyData.depthAll [] ≤ n
      simp only [PyData.depthAll]
      exact Nat.zero_le _
    · simp only [PyData.weightAll]
      exact Nat.zero_le _
  | x :: ds, h => by
    have hx := h x List.mem_cons_self
    obtain ⟨a, b, c, d⟩ := all_of (ds := ds) fun y hy => h y (List.mem_cons_of_mem _ hy)
    refine ⟨?_, ?_, ?_, ?_⟩
    · simp only [PyData.leavesShortAll, hx.lf, a, Bool.and_self]
    · simp only [PyData.showableAll, hx.sh, b, Bool.and_self]
    · simp only [PyData.depthAll]
      have := hx.dp
      omega
    · simp only [PyData.weightAll, List.length_cons, Nat.succ_mul]
      have := hx.wt
      omega
theorem Bd.tuple {n m k : Nat} {ds : List PyData} (h : ∀ x ∈ ds, Bd n m x) (hk : ds.length * (m + 1) ≤ k) : Bd (n + 1) k (.tuple ds) := by
  obtain ⟨a, b, c, d⟩ := all_of h
  exact ⟨by simpa only [PyData.leavesShort] using a, by simpa only [PyData.showable] using b, by simp only [PyData.depth]; omega, by simp only [PyData.weight]; omega⟩
theorem Bd.list {n m k : Nat} {ds : List PyData} (h : ∀ x ∈ ds, Bd n m x) (hk : ds.length * (m + 1) ≤ k) : Bd (n + 1) k (.list ds) := by
  obtain ⟨a, b, c, d⟩ := all_of h
  exact ⟨by simpa only [PyData.leavesShort] using a, by simpa only [PyData.showable] using b, by simp only [PyData.depth]; omega, by simp only [PyData.weight]; omega⟩
theorem Bd.int {n : Nat} {i : Int} (h : i.natAbs < 10 ^ 62) : Bd n 210 (.int i) := by
  have hl : i.natAbs.log2 < 206 := PySem.Flt.log2_lt_of (by decide) (Nat.lt_of_lt_of_le h (by decide +kernel))
  refine ⟨?_, ?_, ?_, ?_⟩
  · simp only [PyData.leavesShort, decide_eq_true_eq]
    exact int_short h
  · simp only [PyData.showable, decide_eq_true_eq]
    omega
  · simp only [PyData.depth]
    exact Nat.zero_le _
  · simp only [PyData.weight]
    split <;> omega
theorem Bd.flat0 {n m : Nat} {d : PyData} (h : d = .none ∨ (∃ b, d = .bool b) ∨ d = .str "" ∨ d = .str "0" ∨ d = .tuple [] ∨ d = .list [] ∨ d = .dict []) (hn : 1 ≤ n) (hm : 1 ≤ m) : Bd n m d := by
  have z : Bd 1 1 d := by
    rcases h with rfl | ⟨b, rfl⟩ | rfl | rfl | rfl | rfl | rfl
    all_goals exact ⟨by decide +kernel +revert, by decide +kernel +revert, by decide +kernel +revert, by decide +kernel +revert⟩
  exact z.mono hn hm
/-! ### rows of data, by their whole weight -/
structure BA (n t : Nat) (ds : List PyData) : Prop where
  lf : PyData.leavesShortAll 64 ds = true
  sh : PyData.showableAll ds = true
  dp : PyData.depthAll ds ≤ n
  wt : PyData.weightAll ds ≤ t
theorem BA.mono {n t n' t' : Nat} {ds : List PyData} (h : BA n t ds) (hn : n ≤ n') (ht : t ≤ t') : BA n' t' ds := ⟨h.lf, h.sh, Nat.le_trans h.dp hn, Nat.le_trans h.wt ht⟩
theorem BA.nil {n t : Nat} : BA n t [] := ⟨rfl, rfl, by simp only [PyData.depthAll]; exact Nat.zero_le _, by simp only [PyData.weightAll]; exact Nat.zero_le _⟩
theorem wa_append : ∀ (ds es : List PyData), PyData.weightAll (ds ++ es) = PyData.weightAll ds + PyData.weightAll es
  | [], es => by simp only [List.nil_append, PyData.weightAll, Nat.zero_add]
  | d :: ds, es => by
    have := wa_append ds es
    simp only [List.cons_append, PyData.weightAll]
    omega
theorem da_append : ∀ (ds es : List PyData), PyData.depthAll (ds ++ es) = max (PyData.depthAll ds) (PyData.depthAll es)
  | [], es => by simp only [List.nil_append, PyData.depthAll, Nat.zero_max]
  | d :: ds, es => by
    have := da_append ds es
    simp only [List.cons_append, PyData.depthAll]
    omega
theorem la_append : ∀ (ds es : List PyData), PyData.leavesShortAll 64 (ds ++ es) = (PyData.leavesShortAll 64 ds && PyData.leavesShortAll 64 es)
  | [], es => by simp only [List.nil_append, PyData.leavesShortAll, Bool.true_and]
  | d :: ds, es => by simp only [List.cons_append, PyData.leavesShortAll, la_append ds es, Bool.and_assoc]
theorem sa_append : ∀ (ds es : List PyData), PyData.showableAll (ds ++ es) = (PyData.showableAll ds && PyData.showableAll es)
  | [], es => by simp only [List.nil_append, PyData.showableAll, Bool.true_and]
  | d :: ds, es => by simp only [List.cons_append, PyData.showableAll, sa_append ds es, Bool.and_assoc]
theorem BA.append {n t u : Nat} {ds es : List PyData} (h : BA n t ds) (g : BA n u es) : BA n (t + u) (ds ++ es) := by
  refine ⟨?_, ?_, ?_, ?_⟩
  · rw [la_append, h.lf, g.lf]
    rfl
  · rw [sa_append, h.sh, g.sh]
    rfl
  · rw [da_append]
    have := h.dp
    have := g.dp
    omega
  · rw [wa_append]
    have := h.wt
    have := g.wt
    omega
theorem BA.parts {n t : Nat} {ds es : List PyData} (h : BA n t (ds ++ es)) : BA n t ds ∧ BA n t es := by
  have h1 := h.lf
  have h2 := h.sh
  have h3 := h.dp
  have h4 := h.wt
  rw [la_append, Bool.and_eq_true] at h1
  rw [sa_append, Bool.and_eq_true] at h2
  rw [da_append] at h3
  rw [wa_append] at h4
  exact ⟨⟨h1.1, h2.1, by omega, by omega⟩, ⟨h1.2, h2.2, by omega, by omega⟩⟩
theorem BA.take {n t : Nat} {ds : List PyData} (h : BA n t ds) (k : Nat) : BA n t (ds.take k) := by
  rw [← List.take_append_drop k ds] at h
  exact h.parts.1
theorem BA.drop {n t : Nat} {ds : List PyData} (h : BA n t ds) (k : Nat) : BA n t (ds.drop k) := by
  rw [← List.take_append_drop k ds] at h
  exact h.parts.2
theorem BA.cut {n t : Nat} {ds : List PyData} (h : BA n t ds) (lo hi : Option Int) : BA n t (cutD ds lo hi) := (h.drop _).take _
theorem BA.one {n m : Nat} {d : PyData} (h : Bd n m d) : BA n (m + 1) [d] := by
  refine ⟨?_, ?_, ?_, ?_⟩
  · simp only [PyData.leavesShortAll, h.lf, Bool.and_self]
  · simp only [PyData.showableAll, h.sh, Bool.and_self]
  · simp only [PyData.depthAll]
    have := h.dp
    omega
  · simp only [PyData.weightAll]
    have := h.wt
    omega
theorem BA.rev {n t : Nat} : ∀ {ds : List PyData}, BA n t ds → BA n t ds.reverse
  | [], h => h
  | d :: ds, h => by
    have e : d :: ds = [d] ++ ds := rfl
    have p := (e ▸ h : BA n t ([d] ++ ds)).parts
    have hw := h.wt
    simp only [PyData.weightAll] at hw
    have r : BA n (PyData.weightAll ds) ds.reverse := BA.rev ⟨p.2.lf, p.2.sh, p.2.dp, Nat.le_refl _⟩
    have o : BA n (d.weight + 1) [d] := ⟨p.1.lf, p.1.sh, p.1.dp, by simp only [PyData.weightAll]; omega⟩
    rw [List.reverse_cons]
    exact (r.append o).mono (Nat.le_refl _) (by omega)
theorem BA.tuple {n t : Nat} {ds : List PyData} (h : BA n t ds) : Bd (n + 1) t (.tuple ds) :=
  ⟨by simpa only [PyData.leavesShort] using h.lf, by simpa only [PyData.showable] using h.sh, by simp only [PyData.depth]; have := h.dp; omega, by simp only [PyData.weight]; exact h.wt⟩
theorem BA.list {n t : Nat} {ds : List PyData} (h : BA n t ds) : Bd (n + 1) t (.list ds) :=
  ⟨by simpa only [PyData.leavesShort] using h.lf, by simpa only [PyData.showable] using h.sh, by simp only [PyData.depth]; have := h.dp; omega, by simp only [PyData.weight]; exact h.wt⟩
/-- v is a tuple of the data ds, apart from some places -/
def Tp (as : List Addr) (H : Hp) (b : Addr) (ds : List PyData) : Prop := b ∉ as ∧ ∃ xs, H b = some (.tup xs) ∧ DA true (remL as H) xs ds
theorem Tp.same {as : List Addr} {H H' : Hp} {b : Addr} {ds : List PyData} (h : Tp as H b ds) (s : Same H H') : Tp as H' b ds := by
  obtain ⟨n, xs, e, t⟩ := h
  exact ⟨n, xs, s _ _ e, t.same (same_remL s)⟩
theorem Tp.kp {as : List Addr} {a : Addr} {H H' : Hp} {b : Addr} {ds : List PyData} (h : Tp as H b ds) (ha : a ∈ as) (k : Kp a H H') : Tp as H' b ds := by
  obtain ⟨n, xs, e, t⟩ := h
  exact ⟨n, xs, k _ _ (fun z => n (z ▸ ha)) e, t.same (k.remL ha)⟩
theorem Tp.d {as : List Addr} {H : Hp} {b : Addr} {ds : List PyData} (h : Tp as H b ds) : D true (remL as H) (.ref b) (.tuple ds) := by
  obtain ⟨n, xs, e, t⟩ := h
  exact .tup (by rw [remL_ne n]; exact e) t
end Lw

namespace Lw
open PySem PySem.Spec PyProof.Rows L2

/-! ### rows of ints, by their order -/
abbrev lex := HT.lexLt
theorem lex_cons (x y : Int) (xs ys : List Int) : lex (x :: xs) (y :: ys) = if x = y then lex xs ys else decide (x < y) := rfl
theorem lex_irr : ∀ x : List Int, lex x x = false
  | [] => rfl
  | a :: x => by
    rw [lex_cons, if_pos rfl]
    exact lex_irr x
theorem lex_asym : ∀ x y : List Int, lex x y = true → lex y x = false
  | [], [], h => by cases h
  | [], _ :: _, _ => rfl
  | _ :: _, [], h => by cases h
  | a :: x, b :: y, h => by
    rw [lex_cons] at h ⊢
    by_cases e : a = b
    · subst e
      rw [if_pos rfl] at h ⊢
      exact lex_asym x y h
    · rw [if_neg e, decide_eq_true_eq] at h
      rw [if_neg (fun z => e z.symm), decide_eq_false_iff_not]
      omega
theorem lex_tr : ∀ x y z : List Int, lex y x = false → lex z y = false → lex z x = false
  | [], [], [], _, _ => rfl
  | [], [], _ :: _, _, _ => rfl
  | [], _ :: _, [], _, h => by cases h
  | [], _ :: _, _ :: _, _, _ => rfl
  | _ :: _, [], _, h, _ => by cases h
  | _ :: _, _ :: _, [], _, h => by cases h
  | a :: x, b :: y, c :: z, h1, h2 => by
    rw [lex_cons] at h1 h2 ⊢
    by_cases e1 : b = a
    · subst e1
      rw [if_pos rfl] at h1
      by_cases e2 : c = b
      · subst e2
        rw [if_pos rfl] at h2 ⊢
        exact lex_tr x y z h1 h2
      · rw [if_neg e2] at h2 ⊢
        exact h2
    · rw [if_neg e1, decide_eq_false_iff_not] at h1
      by_cases e2 : c = b
      · subst e2
        rw [if_neg e1, decide_eq_false_iff_not]
        omega
      · rw [if_neg e2, decide_eq_false_iff_not] at h2
        rw [if_neg (show ¬ c = a by omega), decide_eq_false_iff_not]
        omega
theorem lex_eq : ∀ x y : List Int, lex x y = false → lex y x = false → x = y
  | [], [], _, _ => rfl
  | [], _ :: _, h, _ => by cases h
  | _ :: _, [], _, h => by cases h
  | a :: x, b :: y, h1, h2 => by
    rw [lex_cons] at h1 h2
    by_cases e : a = b
    · subst e
      rw [if_pos rfl] at h1 h2
      rw [lex_eq x y h1 h2]
    · rw [if_neg e, decide_eq_false_iff_not] at h1
      rw [if_neg (fun z => e z.symm), decide_eq_false_iff_not] at h2
      omega
theorem swo_key {α : Type} (k : α → List Int) : SrtO.Swo fun v u => lex (k v) (k u) :=
  ⟨fun x y h => lex_asym _ _ h, fun x y z h1 h2 => lex_tr _ _ _ h1 h2⟩

/-- v is a tuple of the ints ns -/
def TI (h : Heap) (v : Value) (ns : List Int) : Prop := ∃ (a : Addr) (o : Obj) (its : Array Value) (n : Nat), v = .ref a ∧ h.get? a = some o ∧ o.cls = .type "tuple" ∧ o.data = .seq its n ∧ IntsAre its.toList ns
theorem TI.keeps {h h' : Heap} {v : Value} {ns : List Int} (t : TI h v ns) (k : ∀ b o, h.get? b = some o → o.cls = .type "tuple" → h'.get? b = some o) : TI h' v ns := by
  obtain ⟨a, o, its, n, e, ho, hc, r⟩ := t
  exact ⟨a, o, its, n, e, k a o ho hc, hc, r⟩
section
variable {prog : Program} {w : World} {A : Around} {E : Value → Shared → Prop} {s : Shared} {Q : Bool → Shared → Prop}
theorem lex_walk {b : Bool} : ∀ {xs ys : List Value} {ns ms : List Int} {fin : Bool} (i : Nat), IntsAre xs ns → IntsAre ys ms → fin = decide (ns.length < ms.length) → Q (lex ns ms) s → PySem.W.KatLex prog w A b fin Q (xs.zip ys) i s
  | _, _, _, _, fin, i, .nil, .nil, hf, h => by
    subst hf
    exact PySem.W.kat_nil h
  | _, _, _, _, fin, i, .nil, .cons (ns := ms) m t hy, hf, h => by
    have e : fin = true := by
      rw [hf]
      exact decide_eq_true (by simp)
    rw [e]
    exact PySem.W.kat_nil (i := i) h
  | _, _, _, _, fin, i, .cons (ns := ns) m t hy, .nil, hf, h => by
    have e : fin = false := by
      rw [hf]
      exact decide_eq_false (by simp)
    rw [e]
    exact PySem.W.kat_nil (i := i) h
  | _, _, _, _, fin, i, .cons (ns := ns) x t hx, .cons (ns := ms) y u hy, hf, h => by
    refine PySem.W.kat_cons (SeqAt.EqAt.int_int x t y u prog w _ _ ?_)
    refine PySem.W.kat_go (fun e1 => ?_) (fun e1 => ?_)
    · have ex : x = y := by simpa using e1
      have h' : Q (lex ns ms) s := by
        rw [show lex (x :: ns) (y :: ms) = lex ns ms by rw [lex_cons, if_pos ex]] at h
        exact h
      refine PySem.W.kat_yes (lex_walk (i + 1) hx hy ?_ h')
      rw [hf]
      exact decide_eq_decide.mpr (by simp)
    · have ex : ¬ x = y := by simpa using e1
      have h' : Q (decide (x < y)) s := by
        rw [show lex (x :: ns) (y :: ms) = decide (x < y) by rw [lex_cons, if_neg ex]] at h
        exact h
      exact PySem.W.kat_no (TS.oneLt_ints _ h')
/-- the three ways in which two such tuples are compared -/
theorem ti_tuples {x y : Value} {ns ms : List Int} (hx : TI s.heap x ns) (hy : TI s.heap y ms) (h : Q (lex ns ms) s) : wpAny (model prog w) A (keyLt' (tuples' true) x y) Q E s := by
  obtain ⟨a, o, its, n, rfl, ho, hc, hd, hi⟩ := hx
  obtain ⟨b, p, jts, m, rfl, hp, hc2, hd2, hj⟩ := hy
  refine PySem.W.kat_lt ho hd hp hd2 (lex_walk 0 hi hj ?_ h)
  have e1 := hi.length
  have e2 := hj.length
  rw [Array.length_toList] at e1 e2
  rw [← e1, ← e2]
theorem ti_general {x y : Value} {ns ms : List Int} (hu : A.units < cLine) (hx : TI s.heap x ns) (hy : TI s.heap y ms) (h : Q (lex ns ms) s) : wpAny (model prog w) A (keyLt' general' x y) Q E s := by
  obtain ⟨a, o, its, n, rfl, ho, hc, hd, hi⟩ := hx
  obtain ⟨b, p, jts, m, rfl, hp, hc2, hd2, hj⟩ := hy
  show wpAny _ _ (oneLt' false (.ref a) (.ref b)) Q E s
  exact PySem.W.kat_one _ _ (HT.lt_tupInts ⟨o, ho, hc, n, hd⟩ ⟨p, hp, hc2, m, hd2⟩ hi hj hu h)
theorem ti_one {x y : Value} {ns ms : List Int} (hu : A.units < cLine) (hx : TI s.heap x ns) (hy : TI s.heap y ms) (h : Q (lex ns ms) s) : wpAny (model prog w) A (keyLt' oneType' x y) Q E s := by
  obtain ⟨a, ⟨cls, dd, data, sl⟩, its, n, rfl, ho, hc, hd, hi⟩ := hx
  obtain ⟨b, ⟨cls2, dd2, data2, sl2⟩, jts, m, rfl, hp, hc2, hd2, hj⟩ := hy
  simp only at hc hd hc2 hd2
  subst hc hd hc2 hd2
  rw [keyLt'_oneType, oneLt'_eq]
  simp only [if_true]
  refine wpAny_bind (wpAny_cRoomFor hu ?_)
  refine wpAny_bind (wpAny_callSpecialIfBound?_slot ⟨_, ho, rfl⟩ PySem.F.slot_tuple_lt (call_meets PySem.F.slot_tuple_lt ⟨_, ho, rfl⟩ PySem.F.entry_tuple_lt (PySem.F.args_tuple_lt_2 _ _)
    (HT.tuple_lt_ints a b its jts n m dd dd2 sl sl2 ns ms hi hj) ⟨ho, hp, ?_⟩))
  exact wpAny_truthy_bool h
end
section
variable {M : Model} {A : Around} {E : Value → Shared → Prop} {s : Shared}
/-- the first part of a tuple -/
def fstH (h : Heap) : Value → Option Value
  | .ref a => match h.get? a with
    | some o => match o.data with
      | .seq its _ => its[0]?
      | _ => none
    | none => none
  | _ => none
theorem fst_ti {h : Heap} {a : Addr} {o : Obj} {its : Array Value} {n : Nat} (ho : h.get? a = some o) (hd : o.data = .seq its n) : fstH h (.ref a) = its[0]? := by
  unfold fstH
  simp only [ho, hd]
theorem fst_some {h : Heap} {v : Value} {ns : List Int} (t : TI h v ns) : (fstH h v).isSome = true ↔ ns ≠ [] := by
  obtain ⟨a, o, its, n, e, ho, hc, hd, hi⟩ := t
  subst e
  rw [fst_ti ho hd, ← Array.getElem?_toList]
  generalize its.toList = l at hi
  cases hi with
  | nil => simp
  | cons x t r => simp
theorem firsts_run {k : Value → List Int} : ∀ (vs : List Value) {Q : List (Option Value) → Shared → Prop}, (∀ v ∈ vs, TI s.heap v (k v)) → Q (vs.map (fstH s.heap)) s → wpAny M A (vs.mapM firstOfTuple') Q E s
  | [], _, _, h => by
    rw [List.mapM_nil]
    exact wpAny_pure h
  | v :: vs, Q, hp, h => by
    obtain ⟨a, o, its, n, e, ho, hc, hd, hi⟩ := hp v List.mem_cons_self
    subst e
    rw [List.mapM_cons]
    refine wpAny_bind ?_
    rw [PySem.W.kas_first_eq]
    refine wpAny_bind (PySem.W.Looks.here (show PySem.W.Looks M s.heap (typeOf (.ref a)) o.cls from (PySem.W.Looks.ld ho).andThen .now) ?_)
    rw [hc, if_neg (by first | decide | simp)]
    refine wpAny_bind (listItems_at ho hd (wpAny_pure ?_))
    refine wpAny_bind (firsts_run vs (Q := fun bs s' => wpAny M A (pure (its[0]? :: bs)) Q E s') (fun u hu => hp u (List.mem_cons_of_mem _ hu)) (wpAny_pure ?_))
    rw [List.map_cons, fst_ti ho hd] at h
    exact h
theorem types_tup {k : Value → List Int} {vs : List Value} (h : ∀ v ∈ vs, TI s.heap v (k v)) (h0 : 0 < vs.length) {Q : Option Value → Shared → Prop} (hq : Q (some (.type "tuple")) s) : wpAny M A (oneTypeOnly' vs.toArray) Q E s := by
  rw [oneTypeOnly'_eq, List.mapM_toArray, map_eq_pure_bind]
  refine wpAny_bind (wpAny_bind (PySem.W.kas_mapM (r := Value.type "tuple") _ (fun v hv Q' hq' => ?_) (wpAny_pure ?_)))
  · obtain ⟨a, o, its, n, e, ho, hc, _⟩ := h v hv
    subst e
    have l : PySem.W.Looks M s.heap (typeOf (.ref a)) o.cls := (PySem.W.Looks.ld ho).andThen .now
    rw [hc] at l
    exact l.here hq'
  · have all : ((List.map (fun _ => Value.type "tuple") vs).toArray.all fun x => x == Value.type "tuple") = true := by
      simp only [List.all_toArray, List.all_map, List.all_eq_true]
      intro _ _
      rfl
    have at0 : (List.map (fun _ => Value.type "tuple") vs).toArray[0]? = some (Value.type "tuple") := by
      match vs, h0 with
      | v :: vs, _ => simp
    rw [at0]
    simp only [all, if_true]
    exact wpAny_pure hq
end
section
variable {prog : Program} {w : World} {A : Around} {E : Value → Shared → Prop} {s : Shared}
theorem tups_sortable {a : Addr} {vs : List Value} {k : Value → List Int} (hu : A.units < cLine) (h0 : 0 < vs.length) (hp : ∀ v ∈ vs, TI s.heap v (k v)) (ha : ∀ o, s.heap.get? a = some o → o.cls ≠ .type "tuple") :
    SrtO.SortableO prog w A s a vs fun v u => lex (k v) (k u) := by
  intro h' keep
  have hp' : ∀ v ∈ vs, TI h' v (k v) := fun v hm => (hp v hm).keeps fun b o e c => keep b o (fun z => by subst z; exact ha o e c) e
  by_cases hall : ∀ v ∈ vs, k v ≠ []
  · refine ⟨tuples' true, fun Q E hq => ?_, fun p q hm hm' => ti_tuples (hp' _ hm) (hp' _ hm') ⟨rfl, rfl⟩⟩
    have ks : ∀ us : List Value, (∀ v ∈ us, TI h' v (k v) ∧ k v ≠ []) → ∃ fs : List Value, PySem.W.KatTups h' us fs ∧ fs.length = us.length ∧ ∀ f ∈ fs, ∃ x t, f = Value.int x t := by
      intro us
      induction us with
      | nil => intro _; exact ⟨[], PySem.W.KatTups.nil, rfl, fun f hf => by cases hf⟩
      | cons u us ih =>
        intro hus
        obtain ⟨fs, f1, f2, f3⟩ := ih fun v hv => hus v (List.mem_cons_of_mem _ hv)
        obtain ⟨⟨b, o, its, n, e, ho, hc, hd, hi⟩, hne⟩ := hus u List.mem_cons_self
        subst e
        obtain ⟨x, t, hx⟩ : ∃ x t, its[0]? = some (Value.int x t) := by
          rw [← Array.getElem?_toList]
          generalize its.toList = l at hi
          generalize k (.ref b) = ns at hi hne
          cases hi with
          | nil => exact absurd rfl hne
          | cons x t r => exact ⟨x, t, rfl⟩
        refine ⟨.int x t :: fs, PySem.W.KatTups.cons ho hc hd hx f1, by rw [List.length_cons, List.length_cons, f2], fun f hf => ?_⟩
        rcases List.mem_cons.mp hf with e | hf
        · exact ⟨x, t, e⟩
        · exact f3 f hf
    obtain ⟨fs, f1, f2, f3⟩ := ks vs fun v hv => ⟨hp' v hv, hall v hv⟩
    refine PySem.W.kat_kind (T := .type "int") f1 (by omega) (fun f hm => ?_) (by rfl) ?_
    · obtain ⟨x, t, rfl⟩ := f3 f hm
      exact PySem.W.Looks.now
    · have e : (Value.type "int" != Value.type "tuple") = true := by
        first
          | decide +kernel
          | rfl
      rw [e]
      exact hq
  · have notall : ¬ ((vs.map (fstH h')).toArray.all fun x => x.isSome) = true := fun z => hall fun v hv => by
      rw [List.all_toArray, List.all_eq_true] at z
      exact (fst_some (hp' v hv)).mp (z _ (List.mem_map.mpr ⟨v, hv, rfl⟩))
    by_cases h1 : (((vs.map (fstH h')).toArray[0]?).bind id).isSome = true
    · refine ⟨general', fun Q E hq => ?_, fun p q hm hm' => ti_general hu (hp' _ hm) (hp' _ hm') ⟨rfl, rfl⟩⟩
      rw [keyKind'_eq, List.mapM_toArray, map_eq_pure_bind]
      refine wpAny_bind (wpAny_bind (firsts_run (s := { s with heap := h' }) (k := k) vs hp' (wpAny_pure ?_)))
      rw [if_neg notall, if_pos h1]
      exact wpAny_pure hq
    · refine ⟨oneType', fun Q E hq => ?_, fun p q hm hm' => ti_one hu (hp' _ hm) (hp' _ hm') ⟨rfl, rfl⟩⟩
      rw [keyKind'_eq, List.mapM_toArray, map_eq_pure_bind]
      refine wpAny_bind (wpAny_bind (firsts_run (s := { s with heap := h' }) (k := k) vs hp' (wpAny_pure ?_)))
      rw [if_neg notall, if_neg h1]
      exact wpAny_bind (types_tup (s := { s with heap := h' }) hp' h0 (wpAny_pure hq))
end
/-! ### sorted of a tuple -/
section
variable {prog : Program} {w : World} {A : Around} {E : Value → Shared → Prop} {s : Shared}
theorem collect_tup {l : Addr} {vs : List Value} {Q : List Value → Shared → Prop} (hl : IsTup s.heap l vs.toArray) (hsz : vs.length ≤ sizeLine)
    (h : Q vs { s with heap := (s.heap.push (seqObj "list" #[] 0)).update s.heap.objs.size (Obj.mapSeq (· ++ vs.toArray)) }) : wpAny (model prog w) A (collect (.ref l)) Q E s := by
  obtain ⟨o, ho, hc, n, hd⟩ := id hl
  unfold collect
  refine wpAny_bind (wpAny_runValue (codeAny_builtin entry_proto_collect' ?_))
  show wpAny _ _ (do again (.builtin "list.__iadd__" ⟨[← newList [], .ref l], []⟩)) _ _ s
  refine wpAny_bind (wpAny_newList (wpAny_pure ⟨Code.quiet_builtin _ (by decide +kernel), codeAny_builtin entry_list_iadd' ?_⟩))
  show wpAny _ _ (Builtin.List.listExtendWith (.ref s.heap.objs.size) (.ref l) (.ref s.heap.objs.size)) _ _ { s with heap := s.heap.push (seqObj "list" #[] 0) }
  unfold Builtin.List.listExtendWith
  have old : (s.heap.push (seqObj "list" #[] 0)).get? l = some o := Heap.get?_push_of_some _ ho
  refine wpAny_bind (wpAny_typeOf (T := "tuple") ⟨o, old, hc⟩ ?_)
  have yes : (Value.type "tuple" == Value.type "tuple") = true := by rfl
  rw [if_pos (by rw [yes]; simp)]
  refine wpAny_bind (listItems_at old hd ?_)
  refine wpAny_bind (listItems_at (xs := #[]) (n := 0) (Heap.get?_push_size _ rfl) rfl ?_)
  rw [if_neg (by simp)]
  refine wpAny_bind (listUpdate_at (xs := #[]) (n := 0) (Heap.get?_push_size _ rfl) rfl ?_ (Nat.zero_le _)
    (by show (#[] ++ vs.toArray).size ≤ sizeLine + 1; simp only [Array.size_append, List.size_toArray, List.length_nil]; omega))
  refine wpAny_pure ?_
  show wpAny (model prog w) A (do
      let o ← load s.heap.objs.size
      match o.data with
      | .seq xs _ => pure xs.toList
      | _ => unsupported "internal:collect") Q E { s with heap := (s.heap.push (seqObj "list" #[] 0)).update s.heap.objs.size (Obj.mapSeq (· ++ vs.toArray)) }
  refine wpAny_bind (wpAny_load (get?_update_seq (Heap.get?_push_size _ rfl) _) ?_)
  show wpAny _ _ (pure ((#[] : Array Value) ++ vs.toArray).toList) Q E _
  have e : ((#[] : Array Value) ++ vs.toArray).toList = vs := by simp
  rw [e]
  exact wpAny_pure h
/-- sorted(t, reverse=True), t a tuple or a list of tuples of ints -/
theorem sorted_tups {l : Addr} {vs : List Value} {k : Value → List Int} {Q : Value → Shared → Prop} (hu : A.units + 2 < cLine) (hl : IsTup s.heap l vs.toArray ∨ s.heap.IsList l vs.toArray) (hz : vs.length ≤ sizeLine) (hp : ∀ v ∈ vs, TI s.heap v (k v))
    (h : ∀ out : List Value, out.Perm vs → out.Pairwise (fun x y => lex (k x) (k y) = false) → Q (.ref (s.heap.objs.size + 1)) { s with heap := sortedAll s.heap vs out.toArray }) :
    wpAny (model prog w) A (call (.builtin "sorted") [.ref l] [(Str.ofString "reverse", .bool true)]) Q E s := by
  have fin : ∀ out : List Value, SrtO.Srtd (fun v u => lex (k v) (k u)) out → SrtO.Stb (fun v u => lex (k v) (k u)) out (if true = true then vs.reverse else vs) →
      Q (.ref (s.heap.objs.size + 1)) { s with heap := sortedAll s.heap vs (if true = true then out.toArray.reverse else out.toArray) } := by
    intro out h1 h2
    rw [if_pos rfl] at h2 ⊢
    have e : out.toArray.reverse = out.reverse.toArray := by simp
    rw [e]
    refine h _ (((List.reverse_perm out).trans h2.perm).trans (List.reverse_perm vs)) ?_
    exact List.pairwise_reverse.mpr h1
  have sortable : 2 ≤ vs.length → ∀ (h₁ : Heap) (a : Addr), h₁.get? a = some (seqObj "list" vs.toArray 0) → (∀ b o, s.heap.get? b = some o → b ≠ a ∧ h₁.get? b = some o) →
      SrtO.SortableO prog w A.in1.in1 { s with heap := h₁ } a vs fun v u => lex (k v) (k u) := by
    intro h2 h₁ a ha kk
    refine tups_sortable (s := { s with heap := h₁ }) (by show A.units + 1 + 1 < cLine; omega) (by omega) (fun v hm => (hp v hm).keeps fun b o e _ => (kk b o e).2) fun o e => ?_
    have e' : some o = some (seqObj "list" vs.toArray 0) := e.symm.trans ha
    cases e'
    exact fun c => absurd (Value.type.inj c) (by decide)
  rcases hl with hl | hl
  · refine call_function_entry_kw kind_sorted plain_sorted entry_sorted (args_sorted_rev _ _) ?_
    unfold Builtin.«sorted»
    refine wpAny_bind (m := checkCount "sorted" 1 1 _) (wpAny_pure ?_)
    refine wpAny_bind (collect_tup hl hz ?_)
    refine wpAny_bind (wpAny_newList ?_ hz)
    have sz : ((s.heap.push (seqObj "list" #[] 0)).update s.heap.objs.size (Obj.mapSeq (· ++ vs.toArray))).objs.size = s.heap.objs.size + 1 := by
      rw [Heap.size_update, size_push']
    have new : (((s.heap.push (seqObj "list" #[] 0)).update s.heap.objs.size (Obj.mapSeq (· ++ vs.toArray))).push (seqObj "list" vs.toArray 0)).get? (s.heap.objs.size + 1) = some (seqObj "list" vs.toArray 0) := by
      rw [← sz]
      exact Heap.get?_push_size _ rfl
    have keep : ∀ b o, s.heap.get? b = some o → b ≠ s.heap.objs.size + 1 ∧ (((s.heap.push (seqObj "list" #[] 0)).update s.heap.objs.size (Obj.mapSeq (· ++ vs.toArray))).push (seqObj "list" vs.toArray 0)).get? b = some o := by
      intro b o q
      have lt : b < s.heap.objs.size := Heap.lt_size q
      refine ⟨Nat.ne_of_lt (Nat.lt_succ_of_lt lt), Heap.get?_push_of_some _ ?_⟩
      rw [Heap.get?_update_ne _ _ _ _ (Nat.ne_of_lt lt)]
      exact Heap.get?_push_of_some _ q
    show wpAny _ _ _ _ _ { s with heap := ((s.heap.push (seqObj "list" #[] 0)).update s.heap.objs.size (Obj.mapSeq (· ++ vs.toArray))).push (seqObj "list" vs.toArray 0) }
    rw [sz]
    refine wpAny_bind (wpAny_holding (wpAny_call_entry_kw slot_list_sort ⟨_, new, rfl⟩ entry_list_sort ?_ (args_list_sort_rev _ _)))
    refine SrtR.list_sort_ordR (swo_key k) new hz (fun h2 => sortable h2 _ _ new keep) fun out hs hb => ⟨_, rfl, ?_⟩
    exact wpAny_pure ⟨_, rfl, fin out hs hb⟩
  · exact SrtR.sorted_ordK (fun _ => rfl) (args_sorted_rev _ _) (fun _ => args_list_sort_rev _ _) (swo_key k) hl hz sortable fin
end
section
variable {X : Cx}
def rSortTR (K : PySem.W.Frag) : List V → List V → Hp → VK → Prop := fun vs zs H Q => ∃ (a : Addr) (xs : List V) (k : V → List Int), vs = [V.ref a] ∧ zs = [V.bl true] ∧ (SqT K H a xs ∨ SqL K H a xs) ∧
  (∀ x ∈ xs, ∃ t, x = V.ref t ∧ H t = some (.tup ((k x).map V.int))) ∧
  ∀ ys p, ys.Perm xs → ys.Pairwise (fun x y => lex (k x) (k y) = false) → H p = none → Q (.ref p) (upd H p (.lst ys))
theorem cr_sortTR {r : Nat} (room : Room r X.A) : CallRK X (.builtin "sorted") [Str.ofString "reverse"] (rSortTR X.K) := by
  intro pins s σ H vs zs us ws Q I r rz h
  obtain ⟨a, xs, k, rfl, rfl, hs, hx, q⟩ := h
  obtain rfl := Vals.ref1 r
  obtain ⟨w1, rfl, e1⟩ := vals1 rz
  obtain rfl : w1 = Value.bool true := e1
  obtain ⟨its, rv, hl, hz⟩ : ∃ its : List Value, Vals xs its ∧ (IsTup s.heap a its.toArray ∨ s.heap.IsList a its.toArray) ∧ xs.length ≤ sizeLine := by
    rcases hs with hs | hs
    · obtain ⟨its, rv, p, hz⟩ := I.tuple hs
      exact ⟨its, rv, .inl p, hz⟩
    · obtain ⟨its, rv, p, hz⟩ := I.list hs
      exact ⟨its, rv, .inr p.isList, hz⟩
  obtain ⟨e1, e2⟩ := refs_back rv fun x m => by
    obtain ⟨t, e, _⟩ := hx x m
    exact ⟨t, e⟩
  refine sorted_tups (k := fun u => k (backV u)) (by have := room.un; omega) hl (by rw [← rv.length]; exact hz) (fun v hv => ?_) fun out h1 h2 => ?_
  · obtain ⟨t, rfl⟩ := e2 v hv
    have hm : V.ref t ∈ xs := by
      rw [e1]
      exact List.mem_map.mpr ⟨_, hv, rfl⟩
    obtain ⟨t', e, ht⟩ := hx _ hm
    cases e
    obtain ⟨_, its2, r2, o, ho, hc, n, hd⟩ := I.hok _ _ ht
    exact ⟨t, o, its2.toArray, n, rfl, ho, hc, hd, intsAre_of r2⟩
  · have h3 : ∀ u ∈ out, ∃ b, u = Value.ref b := fun u hu => e2 u (h1.mem_iff.mp hu)
    obtain ⟨n, hn⟩ := PyProof.Rows.sortedAll_at s.heap its out.toArray
    have hb : (out.map backV).Perm xs := by
      rw [e1]
      exact h1.map backV
    refine ⟨.ref _, upd H (s.heap.objs.size + 1) (.lst (out.map backV)), I.laid (t' := s.toks) (fun _ _ => PyProof.Rows.sortedAll_old) (Nat.le_succ _) ⟨?_, out, n, vals_back h3, hn⟩, rfl, q _ _ hb (List.pairwise_map.mpr h2) (I.hok.fresh (Nat.le_succ _))⟩
    rw [hb.length_eq]
    exact hz
end
end Lw

namespace Lw
open PySem PySem.Spec PyProof.Rows L2

/-! ### comprehensions over a tuple, over a range -/
/-- what a comprehension's reading asks behind its source -/
def LcEnd (J : It) (g : TG) (tt : TT) (te : TE) (vs : List Nat) (σ : L2.St) (H1 : Hp) (D : Addr) (Qd : Hp → Prop) : Prop :=
  ∃ W : Nat → Nat → Hp → Prop, (∃ m, W 0 m (upd H1 D (.lst []))) ∧ ∀ i m H, W i m H →
    (J.stop i H ∧ Qd H) ∨ (J.go i H ∧ ∃ Nx : Hp → Prop, (∀ H', Nx H' → ∃ m', m' < m ∧ W (i + 1) m' H') ∧ ∀ x H', J.yld i H x H' → g x (wipe σ vs) H' fun σ2 H2 => wipe σ2 vs = wipe σ vs ∧ tt σ2 H2 fun b H3 =>
      if b = true then te σ2 H3 fun y H4 => ∃ acc, H4 D = some (.lst acc) ∧ acc.length < sizeLine ∧ Nx (upd H4 D (.lst (acc ++ [y]))) else Nx H3)
theorem lc_tup {K : PySem.W.Frag} {a : Addr} {xs : List V} {g : TG} {tt : TT} {te : TE} {vs : List Nat} {σ : L2.St} {H1 : Hp} {D : Addr} {Qd : Hp → Prop} (Pv : Nat → Hp → Prop) (h0 : Pv 0 (upd H1 D (.lst []))) (hl : ∀ i H, i ≤ xs.length → Pv i H → SqT K H a xs)
    (hs : ∀ i x H, xs[i]? = some x → Pv i H → g x (wipe σ vs) H fun σ2 H2 => wipe σ2 vs = wipe σ vs ∧ tt σ2 H2 fun b H3 =>
      if b = true then te σ2 H3 fun y H4 => ∃ acc, H4 D = some (.lst acc) ∧ acc.length < sizeLine ∧ Pv (i + 1) (upd H4 D (.lst (acc ++ [y]))) else Pv (i + 1) H3) (hd : ∀ H, Pv xs.length H → Qd H) :
    LcEnd (Itt K a) g tt te vs σ H1 D Qd := by
  refine ⟨fun i m H => m = xs.length - i ∧ i ≤ xs.length ∧ Pv i H, ⟨xs.length, by simp, Nat.zero_le _, h0⟩, ?_⟩
  rintro i m H ⟨rfl, hi, p⟩
  have q := hl i H hi p
  by_cases lt : i < xs.length
  · refine Or.inr ⟨⟨xs, xs[i], q, by simp [lt]⟩, Pv (i + 1), ?_, ?_⟩
    · intro H' p'
      exact ⟨xs.length - (i + 1), by omega, rfl, lt, p'⟩
    · rintro x H' ⟨e, y⟩
      subst e
      exact hs i x _ (y xs q) p
  · have e : i = xs.length := by omega
    subst e
    exact Or.inl ⟨⟨xs, q, Nat.le_refl _⟩, hd H p⟩
theorem lc_range {lo : Int} {n : Nat} {g : TG} {tt : TT} {te : TE} {vs : List Nat} {σ : L2.St} {H1 : Hp} {D : Addr} {Qd : Hp → Prop} (Pv : Nat → Hp → Prop) (h0 : Pv 0 (upd H1 D (.lst [])))
    (hs : ∀ i H, i < n → Pv i H → g (.int (lo + i)) (wipe σ vs) H fun σ2 H2 => wipe σ2 vs = wipe σ vs ∧ tt σ2 H2 fun b H3 =>
      if b = true then te σ2 H3 fun y H4 => ∃ acc, H4 D = some (.lst acc) ∧ acc.length < sizeLine ∧ Pv (i + 1) (upd H4 D (.lst (acc ++ [y]))) else Pv (i + 1) H3) (hd : ∀ H, Pv n H → Qd H) :
    LcEnd (Itr lo n) g tt te vs σ H1 D Qd := by
  refine ⟨fun i m H => m = n - i ∧ i ≤ n ∧ Pv i H, ⟨n, by simp, Nat.zero_le _, h0⟩, ?_⟩
  rintro i m H ⟨rfl, hi, p⟩
  by_cases lt : i < n
  · refine Or.inr ⟨lt, Pv (i + 1), ?_, ?_⟩
    · intro H' p'
      exact ⟨n - (i + 1), by omega, rfl, lt, p'⟩
    · rintro x H' ⟨e, y⟩
      subst e y
      exact hs i _ lt p
  · have e : i = n := by omega
    subst e
    exact Or.inl ⟨Nat.le_refl _, hd H p⟩

/-! ### the k-th greatest -/
section
variable {α : Type}
def above (key : α → List Int) (xs : List α) (v : α) : Nat := (xs.filter fun x => lex (key v) (key x)).length
def below (key : α → List Int) (xs : List α) (v : α) : Nat := (xs.filter fun x => lex (key x) (key v)).length
structure IsKth (key : α → List Int) (xs : List α) (k : Nat) (v : α) : Prop where
  up : above key xs v < k
  dn : below key xs v + k ≤ xs.length
theorem filter_false {p : α → Bool} {l : List α} (h : ∀ x ∈ l, p x = false) : l.filter p = [] :=
  List.filter_eq_nil_iff.mpr fun x hx => by
    rw [h x hx]
    exact Bool.false_ne_true
theorem kth_parts {key : α → List Int} {xs A B : List α} {v : α} (hp : (A ++ v :: B).Perm xs) (hs : (A ++ v :: B).Pairwise fun x y => lex (key x) (key y) = false) : IsKth key xs (A.length + 1) v := by
  obtain ⟨h1, h2, h3⟩ := List.pairwise_append.mp hs
  obtain ⟨h4, h5⟩ := List.pairwise_cons.mp h2
  have up : ∀ x ∈ v :: B, lex (key v) (key x) = false := by
    intro x hx
    rcases List.mem_cons.mp hx with z | hx
    · rw [z]
      exact lex_irr _
    · exact h4 x hx
  have dn : ∀ x ∈ A, lex (key x) (key v) = false := fun x hx => h3 x hx _ List.mem_cons_self
  have n1 : above key xs v = ((A ++ v :: B).filter fun x => lex (key v) (key x)).length := (hp.filter _).length_eq.symm
  have n2 : below key xs v = ((A ++ v :: B).filter fun x => lex (key x) (key v)).length := (hp.filter _).length_eq.symm
  rw [List.filter_append, filter_false up, List.append_nil] at n1
  rw [List.filter_append, filter_false dn, List.nil_append, List.filter_cons_of_neg (by rw [lex_irr]; exact Bool.false_ne_true)] at n2
  have f1 := List.length_filter_le (fun x => lex (key v) (key x)) A
  have f2 := List.length_filter_le (fun x => lex (key x) (key v)) B
  have hl := hp.length_eq
  rw [List.length_append, List.length_cons] at hl
  exact ⟨by omega, by omega⟩
theorem kth_of_sorted {key : α → List Int} {xs ys : List α} {k : Nat} {v : α} (hp : ys.Perm xs) (hs : ys.Pairwise fun x y => lex (key x) (key y) = false) (h : ys[k]? = some v) : IsKth key xs (k + 1) v := by
  obtain ⟨hk, hv⟩ := List.getElem?_eq_some_iff.mp h
  have e : ys = ys.take k ++ v :: ys.drop (k + 1) := by
    rw [← hv, ← List.drop_eq_getElem_cons hk]
    exact (List.take_append_drop k ys).symm
  have lt : (ys.take k).length = k := by
    rw [List.length_take]
    omega
  have r := kth_parts (key := key) (xs := xs) (A := ys.take k) (v := v) (B := ys.drop (k + 1)) (by rw [← e]; exact hp) (by rw [← e]; exact hs)
  rw [lt] at r
  exact r
theorem filter_le {p q : α → Bool} : ∀ {l : List α}, (∀ x, p x = true → q x = true) → (l.filter p).length ≤ (l.filter q).length
  | [], _ => Nat.le_refl _
  | x :: l, h => by
    have ih := filter_le (l := l) h
    cases hp : p x with
    | true =>
      rw [List.filter_cons_of_pos hp, List.filter_cons_of_pos (h x hp), List.length_cons, List.length_cons]
      omega
    | false =>
      rw [List.filter_cons_of_neg (by rw [hp]; exact Bool.false_ne_true)]
      cases hq : q x with
      | true =>
        rw [List.filter_cons_of_pos hq, List.length_cons]
        omega
      | false =>
        rw [List.filter_cons_of_neg (by rw [hq]; exact Bool.false_ne_true)]
        exact ih
theorem filter_split {p : α → Bool} : ∀ l : List α, (l.filter p).length + (l.filter fun x => !p x).length = l.length
  | [] => rfl
  | x :: l => by
    have ih := filter_split (p := p) l
    cases hp : p x with
    | true =>
      rw [List.filter_cons_of_pos hp, List.filter_cons_of_neg (by rw [hp]; decide), List.length_cons, List.length_cons]
      omega
    | false =>
      rw [List.filter_cons_of_neg (by rw [hp]; decide), List.filter_cons_of_pos (by rw [hp]; rfl), List.length_cons, List.length_cons]
      omega
theorem kth_less {key : α → List Int} {xs : List α} {k : Nat} {u v : α} (hu : IsKth key xs k u) (hv : IsKth key xs k v) : lex (key u) (key v) = false := by
  cases h : lex (key u) (key v) with
  | false => rfl
  | true =>
    exfalso
    have O := swo_key key
    have e1 : (xs.filter fun x => !lex (key x) (key v)).length ≤ above key xs u := by
      refine filter_le fun x hx => ?_
      have hx' : lex (key x) (key v) = false := by simpa using hx
      exact O.ltle (x := u) (y := v) (z := x) h hx'
    have e2 := filter_split (p := fun x => lex (key x) (key v)) xs
    have e3 : (xs.filter fun x => lex (key x) (key v)).length = below key xs v := rfl
    have := hu.up
    have := hv.dn
    omega
theorem kth_same {key : α → List Int} {xs : List α} {k : Nat} {u v : α} (hu : IsKth key xs k u) (hv : IsKth key xs k v) : key u = key v := lex_eq _ _ (kth_less hu hv) (kth_less hv hu)
end
end Lw

namespace Lw
open PySem PySem.Spec PyProof.Rows L2

/-! ### a text once or not at all -/
def rMulS : R2 := fun x y H Q => ∃ (z : Str) (b : Bool), x = .str z ∧ y = .int (if b = true then 1 else 0) ∧ Q (.str (if b = true then z else Str.empty)) H
theorem op_mulS {X : Cx} : OpR X (binaryOp .Mult) rMulS := by
  intro pins s σ H x y v u Q I rx ry h
  obtain ⟨z, b, rfl, rfl, q⟩ := h
  obtain ⟨t, rfl⟩ := rx
  obtain ⟨t', rfl⟩ := ry
  cases b with
  | false => exact PySem.P.mul_str_none (by decide) (by decide) ⟨.str Str.empty, H, I.tok _, ⟨_, rfl⟩, q⟩
  | true =>
    refine PySem.P.mul_str (by decide) (fun _ e => ?_) (fun _ e => ?_) ?_
    · exact absurd e (by simp)
    · exact absurd e (by simp)
    · exact ⟨.str z, H, I, ⟨_, rfl⟩, q⟩

/-! ### a tuple once, or several times -/
theorem tuple_mul1 (l : Addr) (items : Array Value) (n : Nat) (dd : Option Addr) (sl : Array (Option Value)) (u : Tok) :
    Meets (Builtin.«tuple.__mul__» ⟨[.ref l, .int 1 u], []⟩) (fun _ R s => s.heap.get? l = some { cls := .type "tuple", dict := dd, data := .seq items n, slots := sl } ∧ R (.ok (.ret (Value.ref l))) s) :=
  .of_wp fun prog w A R s h => by
    obtain ⟨hp, g, d, tk, os⟩ := s
    obtain ⟨hl, h⟩ := h
    have f1 := AutoSeq1.idx_int
    wp_walk using wpAny_loadPart' hl
    exact ⟨_, rfl, h⟩
def rRepU : R2 := fun x y H Q => ∃ l k xs, x = .ref l ∧ y = .int k ∧ H l = some (.tup xs) ∧ xs ≠ [] ∧ 1 ≤ k ∧ k ≤ 1000 ∧ xs.length ≤ 1000 ∧
  ∀ p H', Same H H' → H' p = some (.tup (List.replicate k.toNat xs).flatten) → (p = l ∨ H p = none) → Q (.ref p) H'
theorem op_repU {X : Cx} : OpR X (binaryOp .Mult) rRepU := by
  intro pins s σ H x y v u Q I rx ry h
  obtain ⟨l, k, xs, rfl, rfl, hT, hne, h1, h2, hz, q⟩ := h
  by_cases hk : k = 1
  · subst hk
    cases rx
    obtain ⟨t, rfl⟩ := ry
    obtain ⟨its, r, ⟨⟨cls, dd, data, sl⟩, ho, hc, n, hd⟩, hs⟩ := I.tuple (SqT.of hT)
    simp only at hc hd
    subst hc hd
    refine wpAny_binaryOp_repeat_ref (T := "tuple") (U := "int") (by decide) ⟨_, ho, rfl⟩ (fun s' => typeIs_int s' 1 t) noFill_tuple_mul F.fills_int_mul F.slot_int_rmul repeat_tuple F.slot_int_index.lookup
      (call_meets F.slot_int_rmul (typeIs_int s 1 t) F.entry_int_rmul (F.args_int_rmul_2 _ _) (int_rmul_tuple 1 t l its.toArray n dd sl)
        ⟨ho, rfl, ⟨_, ho, rfl⟩, call_meets F.slot_tuple_mul ⟨_, ho, rfl⟩ F.entry_tuple_mul (F.args_tuple_mul_2 _ _) (tuple_mul1 l its.toArray n dd sl t) ⟨ho, ?_⟩⟩)
    refine ⟨.ref l, H, I, rfl, q l H (Same.refl H) ?_ (Or.inl rfl)⟩
    have e : (List.replicate (1 : Int).toNat xs).flatten = xs := by
      show (List.replicate 1 xs).flatten = xs
      simp
    rw [e]
    exact hT
  · exact op_repT pins s σ H _ _ v u Q I rx ry ⟨l, k, xs, rfl, rfl, SqT.of hT, hne, by omega, h2, hz, fun p np => q p _ (upd_grow np) upd_same (Or.inr np)⟩

/-! ### len, the written part told -/
def rLen (K : PySem.W.Frag) : List V → Hp → VK → Prop := fun xs H Q => ∃ p ys, xs = [V.ref p] ∧ (SqL K H p ys ∨ SqT K H p ys) ∧ Q (.int ys.length) H
theorem call_lenK {X : Cx} {K : PySem.W.Frag} (h : X.K = K := by rfl) : CallR X (.builtin "len") (rLen K) := by
  subst h
  exact call_len_seq
def rIsiKK (K : PySem.W.Frag) : List V → Hp → VK → Prop := rIsi K
theorem call_isiKK {X : Cx} {K : PySem.W.Frag} (h : X.K = K := by rfl) : CallR X (.builtin "isinstance") (rIsi K) := by
  subst h
  exact call_isi

/-! ### texts of letters -/
def Lt (z : Str) : Prop := ∀ c ∈ z.cps.toList, 97 ≤ c ∧ c ≤ 122
theorem app_cps (x y : Str) : (x ++ y).cps.toList = x.cps.toList ++ y.cps.toList := by
  show (x.cps ++ y.cps).toList = _
  simp
theorem len_cps (z : Str) : z.length = z.cps.toList.length := by
  show z.cps.size = _
  simp
theorem lt_app {x y : Str} (hx : Lt x) (hy : Lt y) : Lt (x ++ y) := by
  intro c hc
  rw [app_cps] at hc
  rcases List.mem_append.mp hc with h | h
  · exact hx c h
  · exact hy c h
theorem lt_one {c : Nat} (h : 97 ≤ c ∧ c ≤ 122) : Lt ⟨#[c]⟩ := by
  intro d hd
  have e : d = c := by simpa using hd
  rw [e]
  exact h
theorem lt_empty : Lt Str.empty := by
  intro c hc
  exact absurd hc (by decide +revert)
theorem lt_cut {z : Str} (h : Lt z) (lo hi : Option Int) : Lt (cutS z lo hi) := by
  intro c hc
  have hc' : c ∈ (z.cps.toList.drop (HT.sIx z.length 0 lo)).take (HT.sIx z.length z.length hi - HT.sIx z.length 0 lo) := by
    have : (cutS z lo hi).cps.toList = (z.cps.toList.drop (HT.sIx z.length 0 lo)).take (HT.sIx z.length z.length hi - HT.sIx z.length 0 lo) := by
      unfold cutS
      simp
    rw [← this]
    exact hc
  exact h c (List.mem_of_mem_drop (List.mem_of_mem_take hc'))
theorem cut_len (z : Str) (lo hi : Option Int) : (cutS z lo hi).length = min (HT.sIx z.length z.length hi - HT.sIx z.length 0 lo) (z.length - HT.sIx z.length 0 lo) := by
  rw [len_cps (cutS z lo hi)]
  unfold cutS
  show ((z.cps.toList.drop (HT.sIx z.length 0 lo)).take (HT.sIx z.length z.length hi - HT.sIx z.length 0 lo)).toArray.toList.length = _
  rw [List.toList_toArray, List.length_take, List.length_drop, ← len_cps]
theorem cut_two (z : Str) (i : Nat) : (cutS z none (some (i : Int))).length + (cutS z (some (i : Int)) none).length = z.length := by
  rw [cut_len, cut_len, HT.sIx_none, HT.sIx_none, HT.sIx_nat, HT.sIx_nat]
  omega
theorem join_lt : ∀ {ys : List Str}, (∀ y ∈ ys, Lt y) → Lt (Str.join Str.empty ys) ∧ (Str.join Str.empty ys).length = (ys.map (·.length)).sum
  | [], _ => ⟨lt_empty, rfl⟩
  | [y], h => ⟨h y List.mem_cons_self, by simp [Str.join]⟩
  | x :: y :: r, h => by
    obtain ⟨h1, h2⟩ := join_lt (ys := y :: r) fun z hz => h z (List.mem_cons_of_mem _ hz)
    have e : Str.join Str.empty (x :: y :: r) = x ++ Str.empty ++ Str.join Str.empty (y :: r) := rfl
    refine ⟨by rw [e]; exact lt_app (lt_app (h x List.mem_cons_self) lt_empty) h1, ?_⟩
    rw [e, strLen_append, strLen_append, h2]
    simp only [List.map_cons, List.sum_cons]
    have : Str.empty.length = 0 := rfl
    omega
theorem bd_str {n : Nat} {z : Str} (h : Lt z) {m : Nat} (hm : z.length ≤ m) : Bd n m (.str z) := by
  refine ⟨?_, rfl, ?_, ?_⟩
  · simp only [PyData.leavesShort, List.all_eq_true, decide_eq_true_eq]
    intro c hc
    have := (h c hc).2
    exact Nat.lt_of_le_of_lt this (by decide)
  · simp only [PyData.depth]
    exact Nat.zero_le _
  · simp only [PyData.weight]
    exact hm
end Lw

namespace Lw
open PySem PySem.Spec PyProof.Rows L2

/-! ### a tuple beside none -/
def rNe0 : R2 := fun x y H Q => ∃ a b xs, x = .ref a ∧ y = .ref b ∧ H a = some (.tup xs) ∧ H b = some (.tup []) ∧ Q (.bl (!decide (xs.length = 0))) H
def rEq0 : R2 := fun x y H Q => ∃ a b xs, x = .ref a ∧ y = .ref b ∧ H a = some (.tup xs) ∧ H b = some (.tup []) ∧ Q (.bl (decide (xs.length = 0))) H
theorem op_ne0 {X : Cx} {k : Nat} (room : Room k X.A) : OpR X (compareOp .NotEq) rNe0 := by
  intro pins s σ H x y v u Q I rx ry h
  obtain ⟨a, b, xs, rfl, rfl, ha, hb, q⟩ := h
  cases rx
  cases ry
  obtain ⟨its, r1, p1, _⟩ := I.tuple (SqT.of ha)
  obtain ⟨its2, r2, p2, _⟩ := I.tuple (SqT.of hb)
  cases r2
  have hl := r1.length
  refine SeqAt.RcNeAt.tuples (e := fun _ => true) p1 p2 room.units0 (fun j h1 h2 => absurd h2 (Nat.not_lt_zero j)) X.prog X.w X.xe _ ?_
  have e : (!((List.range (min its.toArray.size ([] : List Value).toArray.size)).all (fun _ => true) && its.toArray.size == ([] : List Value).toArray.size)) = !decide (xs.length = 0) := by
    rw [List.size_toArray, ← hl]
    show (!(((List.range (min xs.length 0)).all fun _ => true) && (xs.length == 0))) = _
    rw [Nat.min_zero]
    show (!(true && (xs.length == 0))) = _
    rw [Bool.true_and]
    rfl
  rw [e]
  exact ⟨.bl (!decide (xs.length = 0)), H, I, rfl, q⟩
theorem op_eq0 {X : Cx} {k : Nat} (room : Room k X.A) : OpR X (compareOp .Eq) rEq0 := by
  intro pins s σ H x y v u Q I rx ry h
  obtain ⟨a, b, xs, rfl, rfl, ha, hb, q⟩ := h
  cases rx
  cases ry
  obtain ⟨its, r1, p1, _⟩ := I.tuple (SqT.of ha)
  obtain ⟨its2, r2, p2, _⟩ := I.tuple (SqT.of hb)
  cases r2
  have hl := r1.length
  refine SeqAt.RcAt.tuples (e := fun _ => true) p1 p2 room.units0 (fun j h1 h2 => absurd h2 (Nat.not_lt_zero j)) X.prog X.w X.xe _ ?_
  have e : ((List.range (min its.toArray.size ([] : List Value).toArray.size)).all (fun _ => true) && its.toArray.size == ([] : List Value).toArray.size) = decide (xs.length = 0) := by
    rw [List.size_toArray, ← hl]
    show (((List.range (min xs.length 0)).all fun _ => true) && (xs.length == 0)) = _
    rw [Nat.min_zero]
    show (true && (xs.length == 0)) = _
    rw [Bool.true_and]
    rfl
  rw [e]
  exact ⟨.bl (decide (xs.length = 0)), H, I, rfl, q⟩

/-! ### more of how large data are -/
theorem len_le_wa : ∀ ds : List PyData, ds.length ≤ PyData.weightAll ds
  | [] => Nat.zero_le _
  | d :: ds => by
    have := len_le_wa ds
    simp only [PyData.weightAll, List.length_cons]
    omega
theorem Bd.small {n : Nat} {i : Int} (h : i.natAbs < 16) : Bd n 5 (.int i) := by
  have hl : i.natAbs.log2 < 4 := PySem.Flt.log2_lt_of (by decide) h
  have b := Bd.int (n := n) (i := i) (Nat.lt_trans h (by decide +kernel))
  refine ⟨b.lf, b.sh, b.dp, ?_⟩
  simp only [PyData.weight]
  split <;> omega
theorem Bd.ofTup {n m : Nat} {ds : List PyData} (h : Bd n m (.tuple ds)) : BA n m ds ∧ ∀ x ∈ ds, Bd (n - 1) m x := by
  have h1 := h.lf
  have h2 := h.sh
  have h3 := h.dp
  have h4 := h.wt
  simp only [PyData.leavesShort] at h1
  simp only [PyData.showable] at h2
  simp only [PyData.depth] at h3
  simp only [PyData.weight] at h4
  refine ⟨⟨h1, h2, by omega, h4⟩, ?_⟩
  have all : ∀ es : List PyData, PyData.leavesShortAll 64 es = true → PyData.showableAll es = true → PyData.depthAll es + 1 ≤ n → PyData.weightAll es ≤ m → ∀ x ∈ es, Bd (n - 1) m x := by
    intro es
    induction es with
    | nil =>
      intro _ _ _ _ x hx
      cases hx
    | cons e es ih =>
      intro a b c d x hx
      simp only [PyData.leavesShortAll, Bool.and_eq_true] at a
      simp only [PyData.showableAll, Bool.and_eq_true] at b
      simp only [PyData.depthAll] at c
      simp only [PyData.weightAll] at d
      rcases List.mem_cons.mp hx with z | z
      · rw [z]
        exact ⟨a.1, b.1, by omega, by omega⟩
      · exact ih a.2 b.2 (by omega) (by omega) x z
  exact all ds h1 h2 h3 h4
theorem D.tupOf {f : Bool} {H : Hp} {v : V} {ds : List PyData} (h : D f H v (.tuple ds)) : ∃ a xs, v = .ref a ∧ H a = some (.tup xs) ∧ DA f H xs ds := by
  cases h with
  | tup e t => exact ⟨_, _, rfl, e, t⟩
theorem Tp.of {as : List Addr} {H : Hp} {v : V} {ds : List PyData} (h : D true (remL as H) v (.tuple ds)) : ∃ b, v = .ref b ∧ Tp as H b ds := by
  obtain ⟨b, xs, e, g, t⟩ := h.tupOf
  obtain ⟨n, g'⟩ := remL_some g
  exact ⟨b, e, n, xs, g', t⟩

/-! ### a list of a tuple's parts, its place not that of sys.modules -/
theorem call_listN {X : Cx} : CallR X (.type "list") (fun vs H Q => ∃ b ys, vs = [.ref b] ∧ H b = some (.tup ys) ∧ ∀ l, H l = none → l ≠ sysModules → Q (.ref l) (upd H l (.lst ys))) := by
  intro pins s σ H vs us Q I rv ⟨b, ys, e, hb, q⟩
  subst e
  obtain ⟨u, rfl, ru⟩ := vals1 rv
  cases ru
  obtain ⟨its, rr, pl, hz⟩ := I.tuple (SqT.of hb)
  have hlen := rr.length
  obtain ⟨o, ho, hc, n, hd⟩ := pl
  have far : s.heap.objs.size ≠ sysModules := by
    have h1 : mainGlobals < X.base.objs.size := I.ok.mod.glob.lt
    have h2 := Nat.le_trans I.ok.bsz I.sz
    exact Nat.ne_of_gt (Nat.lt_of_lt_of_le (Nat.lt_trans (by decide) h1) h2)
  refine call_list_seq b (.inr rfl) ho hc hd (fun h' c kp e => ?_) (by rw [List.size_toArray]; omega)
  have new := q _ (I.hok.fresh (Nat.le_refl _)) far
  exact ⟨.ref s.heap.objs.size, _, I.laid (o := .lst ys) (t' := s.toks) kp (Nat.le_refl _) ⟨hz, its, c, rr, e⟩, rfl, new⟩

/-! ### places that were free -/
theorem Kp.free {a p : Addr} {H H' : Hp} {o : HO} (k : Kp a H H') (h : H p = none) : Kp a H (L2.upd H' p o) := fun b u n e => by
  have nb : b ≠ p := fun z => by
    rw [z, h] at e
    cases e
  rw [upd_ne nb]
  exact k b u n e
theorem Kp.none {a p : Addr} {n : Nat} {H H' : Hp} (k : Kp a H H') (g : Hd H' a n) (h : H' p = Option.none) : H p = Option.none := by
  have np : p ≠ a := fun z => by
    obtain ⟨_, _, _, e, _⟩ := g
    rw [z, e] at h
    cases h
  cases e : H p with
  | none => rfl
  | some o =>
    rw [k p o np e] at h
    cases h
theorem Tp.cut {as : List Addr} {H H' : Hp} {b p : Addr} {xs : List V} {ds : List PyData} {lo hi : Option Int} (nb : b ∉ as) (da : DA true (remL as H) xs ds) (tr : Trk as H) (s : Same H H') (e : H' p = some (.tup (cutV xs lo hi))) (o : p = b ∨ H p = Option.none) : Tp as H' p (cutD ds lo hi) := by
  refine ⟨?_, _, e, (da.cut lo hi).same (same_remL s)⟩
  rcases o with rfl | o
  · exact nb
  · exact tr.new o
theorem Tp.cat {as : List Addr} {H H' : Hp} {b c p : Addr} {xs ys : List V} {ds es : List PyData} (nb : b ∉ as) (nc : c ∉ as) (da : DA true (remL as H) xs ds) (db : DA true (remL as H) ys es) (tr : Trk as H) (s : Same H H') (e : H' p = some (.tup (xs ++ ys))) (o : p = b ∨ p = c ∨ H p = Option.none) : Tp as H' p (ds ++ es) := by
  refine ⟨?_, _, e, (da.append db).same (same_remL s)⟩
  rcases o with rfl | rfl | o
  · exact nb
  · exact nc
  · exact tr.new o
theorem remL_less {a : Addr} {as : List Addr} {H : Hp} : Same (remL (a :: as) H) (remL as H) := fun b o e => by
  obtain ⟨n, g⟩ := remL_some e
  rw [remL_ne (fun z => n (List.mem_cons_of_mem _ z))]
  exact g
/-- some rest of a goal, known later -/
theorem later {a b : TS} {k : Ends} {σ : L2.St} {H : Hp} {P : Hp → Prop} (h2 : ∀ H, P H → b k σ H) (h1 : (∀ H, P H → b k σ H) → tSeq a b k σ H) : tSeq a b k σ H := h1 h2
theorem Hd.at {H : Hp} {a p : Addr} {n : Nat} {o : HO} (h : Hd H a n) (np : p ≠ a) : Hd (upd H p o) a n := by
  obtain ⟨g, m, c, e, r⟩ := h
  exact ⟨g, m, c, by rw [upd_ne np.symm]; exact e, r⟩
theorem Hd.new {H : Hp} {a p : Addr} {n : Nat} (h : Hd H a n) (e : H p = Option.none) : p ≠ a := fun z => by
  obtain ⟨_, _, _, g, _⟩ := h
  rw [z, g] at e
  cases e
theorem Trk.at {as : List Addr} {H : Hp} {p : Addr} {o : HO} (t : Trk as H) : Trk as (upd H p o) := fun b hb z => by
  by_cases e : b = p
  · rw [e, upd_same] at z
    cases z
  · rw [upd_ne e] at z
    exact t b hb z
theorem Trk.cons {as : List Addr} {H : Hp} {p : Addr} (t : Trk as H) (h : H p ≠ Option.none) : Trk (p :: as) H := fun b hb => by
  rcases List.mem_cons.mp hb with e | e
  · rw [e]
    exact h
  · exact t b e
theorem remL_in {as : List Addr} {H : Hp} {p : Addr} {o : HO} (h : p ∈ as) : Same (remL as H) (remL as (upd H p o)) := fun b u e => by
  obtain ⟨n, g⟩ := remL_some e
  have nb : b ≠ p := fun z => n (z ▸ h)
  rw [remL_ne n, upd_ne nb]
  exact g
theorem da_of {H : Hp} {p : PyData → Prop} : ∀ {vs : List V}, (∀ v ∈ vs, ∃ d, D true H v d ∧ p d) → ∃ ds, DA true H vs ds ∧ ∀ d ∈ ds, p d
  | [], _ => ⟨[], .nil, fun d hd => by cases hd⟩
  | v :: vs, h => by
    obtain ⟨d, h1, h2⟩ := h v List.mem_cons_self
    obtain ⟨ds, h3, h4⟩ := da_of (vs := vs) fun u hu => h u (List.mem_cons_of_mem _ hu)
    refine ⟨d :: ds, .cons h1 h3, fun e he => ?_⟩
    rcases List.mem_cons.mp he with z | z
    · rw [z]
      exact h2
    · exact h4 e z
/-- none, or a small number -/
def Spot (v : V) : Prop := v = .non ∨ ∃ k : Nat, v = .int k ∧ k < 16
theorem Spot.d {H : Hp} {v : V} (h : Spot v) : ∃ d, D true H v d ∧ Bd 1 5 d := by
  rcases h with e | ⟨k, e, hk⟩
  · subst e
    exact ⟨.none, .non, Bd.flat0 (.inl rfl) (by decide) (by decide)⟩
  · subst e
    exact ⟨.int k, .int _, Bd.small (by omega)⟩
end Lw

namespace Z
open PySem PySem.Spec PyProof.Rows L2 Lw
def kbG {α : Type} : List α → List α → List α
  | [], [x, y] => [y, x]
  | us, ws => us ++ ws
def topS (i : Nat) : Stmt := PySem.Challenge.pw_stilltold_k08_guards_of_anything.main.body.getD i (.Pass ⟨0, 0, 0, 0⟩)
abbrev s_is_whole : Stmt := topS 1
abbrev s_is_within : Stmt := topS 2
abbrev s_is_row : Stmt := topS 3
abbrev s_is_guard : Stmt := topS 6
abbrev s_is_place : Stmt := topS 7
abbrev s_free : Stmt := topS 8
abbrev s__law_hand : Stmt := topS 10
abbrev s__law_take : Stmt := topS 11
abbrev s__law_of : Stmt := topS 12
abbrev s__law_names : Stmt := topS 13
abbrev s__law_gate : Stmt := topS 14
abbrev s__law_due : Stmt := topS 15
abbrev s__law_bent : Stmt := topS 16
abbrev s__law_right : Stmt := topS 17
abbrev s_law : Stmt := topS 18
theorem sc_is_whole : FnScope ["thing"] ["thing"] (defScope s_is_whole) := ⟨rfl, rfl, rfl, by decide +kernel, rfl, by decide +kernel, by decide +kernel⟩
theorem sc_is_within : FnScope ["thing", "least", "most"] ["thing", "least", "most"] (defScope s_is_within) := ⟨rfl, rfl, rfl, by decide +kernel, rfl, by decide +kernel, by decide +kernel⟩
theorem sc_is_row : FnScope ["thing", "least", "most"] ["thing", "least", "most"] (defScope s_is_row) := ⟨rfl, rfl, rfl, by decide +kernel, rfl, by decide +kernel, by decide +kernel⟩
theorem sc_is_guard : FnScope ["deeds", "thing", "place"] ["deeds", "thing"] (defScope s_is_guard) := ⟨rfl, rfl, rfl, by decide +kernel, rfl, by decide +kernel, by decide +kernel⟩
theorem sc_is_place : FnScope ["deeds", "places", "thing", "behind"] ["deeds", "places", "thing"] (defScope s_is_place) := ⟨rfl, rfl, rfl, by decide +kernel, rfl, by decide +kernel, by decide +kernel⟩
theorem sc_free : FnScope ["deeds"] ["deeds"] (defScope s_free) := ⟨rfl, rfl, rfl, by decide +kernel, rfl, by decide +kernel, by decide +kernel⟩
theorem sc__law_hand : FnScope ["_law_script", "_law_nth", "_law_cell", "_law_great"] ["_law_script", "_law_nth"] (defScope s__law_hand) := ⟨rfl, rfl, rfl, by decide +kernel, rfl, by decide +kernel, by decide +kernel⟩
theorem sc__law_take : FnScope ["_law_hand_here", "_law_upon", "_law_digit", "_law_prime", "_law_drawn"] ["_law_hand_here", "_law_upon"] (defScope s__law_take) := ⟨rfl, rfl, rfl, by decide +kernel, rfl, by decide +kernel, by decide +kernel⟩
theorem sc__law_of : FnScope ["_law_hand_here", "_law_some"] ["_law_hand_here", "_law_some"] (defScope s__law_of) := ⟨rfl, rfl, rfl, by decide +kernel, rfl, by decide +kernel, by decide +kernel⟩
theorem sc__law_names : FnScope ["_law_hand_here", "_law_count", "_law_letters", "_law_start", "_law_leap", "_law_long", "_law_turn", "_law_stem", "_law_cut", "_law_found", "_law_letter", "_law_word"] ["_law_hand_here", "_law_count"] (defScope s__law_names) := ⟨rfl, rfl, rfl, by decide +kernel, rfl, by decide +kernel, by decide +kernel⟩
theorem sc__law_gate : FnScope ["_law_hand_here", "_law_acts", "_law_most_places", "_law_count", "_law_found", "_law_turn", "_law_act"] ["_law_hand_here", "_law_acts", "_law_most_places"] (defScope s__law_gate) := ⟨rfl, rfl, rfl, by decide +kernel, rfl, by decide +kernel, by decide +kernel⟩
theorem sc__law_due : FnScope ["_law_size", "_law_item", "_law_place", "_law_spot"] ["_law_size", "_law_item"] (defScope s__law_due) := ⟨rfl, rfl, rfl, by decide +kernel, rfl, by decide +kernel, by decide +kernel⟩
theorem sc__law_bent : FnScope ["_law_hand_here", "_law_item", "_law_spot"] ["_law_hand_here", "_law_item"] (defScope s__law_bent) := ⟨rfl, rfl, rfl, by decide +kernel, rfl, by decide +kernel, by decide +kernel⟩
theorem sc__law_right : FnScope ["_law_acts", "_law_item", "_law_looked", "_law_due_here", "_law_answer"] ["_law_acts", "_law_item"] (defScope s__law_right) := ⟨rfl, rfl, rfl, by decide +kernel, rfl, by decide +kernel, by decide +kernel⟩
theorem sc_law : FnScope ["_law_script", "_law_nth", "_law_hand_here", "_law_words", "_law_acts", "_law_open_one", "_law_some", "_law_turn", "_law_gate_here", "_law_again", "_law_bent_here", "_law_word", "_law_item"] ["_law_script"] (defScope s_law) := ⟨rfl, rfl, rfl, by decide +kernel, rfl, by decide +kernel, by decide +kernel⟩
structure Txt (K : PySem.W.Frag) (mg : Str → Option Value) where
  f_is_whole : Addr
  fd_is_whole : FuncData
  F_is_whole : Fun K "is_whole" "is_whole" s_is_whole f_is_whole fd_is_whole
  g_is_whole : mg "is_whole" = some (.ref f_is_whole)
  b_is_whole : Binds K fd_is_whole ["thing"] []
  f_is_within : Addr
  fd_is_within : FuncData
  F_is_within : Fun K "is_within" "is_within" s_is_within f_is_within fd_is_within
  g_is_within : mg "is_within" = some (.ref f_is_within)
  b_is_within : Binds K fd_is_within ["thing", "least", "most"] []
  f_is_row : Addr
  fd_is_row : FuncData
  F_is_row : Fun K "is_row" "is_row" s_is_row f_is_row fd_is_row
  g_is_row : mg "is_row" = some (.ref f_is_row)
  b_is_row : Binds K fd_is_row ["thing", "least", "most"] []
  f_is_guard : Addr
  fd_is_guard : FuncData
  F_is_guard : Fun K "is_guard" "is_guard" s_is_guard f_is_guard fd_is_guard
  g_is_guard : mg "is_guard" = some (.ref f_is_guard)
  b_is_guard : Binds K fd_is_guard ["deeds", "thing"] []
  f_is_place : Addr
  fd_is_place : FuncData
  F_is_place : Fun K "is_place" "is_place" s_is_place f_is_place fd_is_place
  g_is_place : mg "is_place" = some (.ref f_is_place)
  b_is_place : Binds K fd_is_place ["deeds", "places", "thing"] []
  f_free : Addr
  fd_free : FuncData
  F_free : Fun K "free" "free" s_free f_free fd_free
  g_free : mg "free" = some (.ref f_free)
  b_free : Binds K fd_free ["deeds"] []
  f__law_hand : Addr
  fd__law_hand : FuncData
  F__law_hand : Fun K "_law_hand" "_law_hand" s__law_hand f__law_hand fd__law_hand
  g__law_hand : mg "_law_hand" = some (.ref f__law_hand)
  b__law_hand : Binds K fd__law_hand ["_law_script", "_law_nth"] []
  f__law_take : Addr
  fd__law_take : FuncData
  F__law_take : Fun K "_law_take" "_law_take" s__law_take f__law_take fd__law_take
  g__law_take : mg "_law_take" = some (.ref f__law_take)
  b__law_take : Binds K fd__law_take ["_law_hand_here", "_law_upon"] []
  f__law_of : Addr
  fd__law_of : FuncData
  F__law_of : Fun K "_law_of" "_law_of" s__law_of f__law_of fd__law_of
  g__law_of : mg "_law_of" = some (.ref f__law_of)
  b__law_of : Binds K fd__law_of ["_law_hand_here", "_law_some"] []
  f__law_names : Addr
  fd__law_names : FuncData
  F__law_names : Fun K "_law_names" "_law_names" s__law_names f__law_names fd__law_names
  g__law_names : mg "_law_names" = some (.ref f__law_names)
  b__law_names : Binds K fd__law_names ["_law_hand_here", "_law_count"] []
  f__law_gate : Addr
  fd__law_gate : FuncData
  F__law_gate : Fun K "_law_gate" "_law_gate" s__law_gate f__law_gate fd__law_gate
  g__law_gate : mg "_law_gate" = some (.ref f__law_gate)
  b__law_gate : Binds K fd__law_gate ["_law_hand_here", "_law_acts", "_law_most_places"] []
  f__law_due : Addr
  fd__law_due : FuncData
  F__law_due : Fun K "_law_due" "_law_due" s__law_due f__law_due fd__law_due
  g__law_due : mg "_law_due" = some (.ref f__law_due)
  b__law_due : Binds K fd__law_due ["_law_size", "_law_item"] []
  f__law_bent : Addr
  fd__law_bent : FuncData
  F__law_bent : Fun K "_law_bent" "_law_bent" s__law_bent f__law_bent fd__law_bent
  g__law_bent : mg "_law_bent" = some (.ref f__law_bent)
  b__law_bent : Binds K fd__law_bent ["_law_hand_here", "_law_item"] []
  f__law_right : Addr
  fd__law_right : FuncData
  F__law_right : Fun K "_law_right" "_law_right" s__law_right f__law_right fd__law_right
  g__law_right : mg "_law_right" = some (.ref f__law_right)
  b__law_right : Binds K fd__law_right ["_law_acts", "_law_item"] []
  f_law : Addr
  fd_law : FuncData
  F_law : Fun K "law" "law" s_law f_law fd_law
  g_law : mg "law" = some (.ref f_law)
  b_law : Binds K fd_law ["_law_script"] []
  kb_is_guard : KBinds K fd_is_guard ["deeds", "thing"] ["thing", "deeds"] kbG kbG
  kb_free : KBinds K fd_free ["deeds"] ["deeds"] (fun us ws => us ++ ws) (fun us ws => us ++ ws)
  m_abs : mg "abs" = none
  m_all : mg "all" = none
  m_bool : mg "bool" = none
  m_int : mg "int" = none
  m_isinstance : mg "isinstance" = none
  m_len : mg "len" = none
  m_list : mg "list" = none
  m_min : mg "min" = none
  m_range : mg "range" = none
  m_repr : mg "repr" = none
  m_tuple : mg "tuple" = none
  m_MOST_PLACES : ∃ u, mg "MOST_PLACES" = some u ∧ RelV (.int 4) u
theorem Txt.k_is_whole {K : PySem.W.Frag} {mg : Str → Option Value} (T : Txt K mg) : PySem.W.keepIn K (.ref T.f_is_whole) = true := T.F_is_whole.kp
theorem Txt.k_is_within {K : PySem.W.Frag} {mg : Str → Option Value} (T : Txt K mg) : PySem.W.keepIn K (.ref T.f_is_within) = true := T.F_is_within.kp
theorem Txt.k_is_row {K : PySem.W.Frag} {mg : Str → Option Value} (T : Txt K mg) : PySem.W.keepIn K (.ref T.f_is_row) = true := T.F_is_row.kp
theorem Txt.k_is_guard {K : PySem.W.Frag} {mg : Str → Option Value} (T : Txt K mg) : PySem.W.keepIn K (.ref T.f_is_guard) = true := T.F_is_guard.kp
theorem Txt.k_is_place {K : PySem.W.Frag} {mg : Str → Option Value} (T : Txt K mg) : PySem.W.keepIn K (.ref T.f_is_place) = true := T.F_is_place.kp
theorem Txt.k_free {K : PySem.W.Frag} {mg : Str → Option Value} (T : Txt K mg) : PySem.W.keepIn K (.ref T.f_free) = true := T.F_free.kp
theorem Txt.k__law_hand {K : PySem.W.Frag} {mg : Str → Option Value} (T : Txt K mg) : PySem.W.keepIn K (.ref T.f__law_hand) = true := T.F__law_hand.kp
theorem Txt.k__law_take {K : PySem.W.Frag} {mg : Str → Option Value} (T : Txt K mg) : PySem.W.keepIn K (.ref T.f__law_take) = true := T.F__law_take.kp
theorem Txt.k__law_of {K : PySem.W.Frag} {mg : Str → Option Value} (T : Txt K mg) : PySem.W.keepIn K (.ref T.f__law_of) = true := T.F__law_of.kp
theorem Txt.k__law_names {K : PySem.W.Frag} {mg : Str → Option Value} (T : Txt K mg) : PySem.W.keepIn K (.ref T.f__law_names) = true := T.F__law_names.kp
theorem Txt.k__law_gate {K : PySem.W.Frag} {mg : Str → Option Value} (T : Txt K mg) : PySem.W.keepIn K (.ref T.f__law_gate) = true := T.F__law_gate.kp
theorem Txt.k__law_due {K : PySem.W.Frag} {mg : Str → Option Value} (T : Txt K mg) : PySem.W.keepIn K (.ref T.f__law_due) = true := T.F__law_due.kp
theorem Txt.k__law_bent {K : PySem.W.Frag} {mg : Str → Option Value} (T : Txt K mg) : PySem.W.keepIn K (.ref T.f__law_bent) = true := T.F__law_bent.kp
theorem Txt.k__law_right {K : PySem.W.Frag} {mg : Str → Option Value} (T : Txt K mg) : PySem.W.keepIn K (.ref T.f__law_right) = true := T.F__law_right.kp
theorem Txt.k_law {K : PySem.W.Frag} {mg : Str → Option Value} (T : Txt K mg) : PySem.W.keepIn K (.ref T.f_law) = true := T.F_law.kp
end Z

namespace Z
open PySem PySem.Spec PyProof.Rows L2 Lw

/-! ### draws: the hand, a draw, one of some -/
section
variable {P : Program} {w : World} {K : PySem.W.Frag} {mg : Str → Option Value} {base : Heap}
theorem bit_small (b : Bool) : -(2 ^ 64) < (if b = true then (1 : Int) else 0) ∧ (if b = true then (1 : Int) else 0) < 2 ^ 64 := by cases b <;> exact ⟨by decide, by decide⟩
def sp_hand (K : PySem.W.Frag) : Sp := fun vs H Q _ => ∃ (a : Addr) (ns : List Int) (k : Nat), vs = [.ref a, .int k] ∧ SqL K H a (ns.map V.int) ∧ k ≤ 1000 ∧
  ∀ p H', Same H H' → H p = none → Hd H' p 0 → Q (.ref p) H'
theorem ok_hand (T : Txt K mg) {k : Nat} : FnOk P w K mg base CX0 (k + 1) T.f__law_hand T.fd__law_hand ["_law_script", "_law_nth"] (sp_hand K) := by
  refine T.F__law_hand.ok sc__law_hand (fun vs H Q E h => ?_) (fun cdv A outer s H vs Q E hr h => ?_)
  · obtain ⟨a, ns, k, rfl, _⟩ := h
    rfl
  obtain ⟨a, ns, k, rfl, hS, hk, q⟩ := h
  refine ⟨_, (pss_cons (ps_set (i := 2) sc__law_hand.nd rfl (.inl rfl) (pe_ifExp (pt_cmpR op_lt (pv 1) (pe_callB call_len_seq (by rfl) T.m_len (by decide +kernel) (pa_cons (pv 0) pa_nil)) (nomark _)) (pe_ix ix_list (pv 0) (pv 1) (fun _ _ => rfl)) (pe_op op_add (pe_op op_mul pe_int (pv 1)) pe_int)))
      (pss_cons (ps_set (i := 3) sc__law_hand.nd rfl (.inl rfl) (pe_op op_mul (pe_op op_mod (pe_callB call_abs (by rfl) T.m_abs (by decide +kernel) (pa_cons (pv 2) pa_nil)) (pe_op op_powW (pe_op op_pow pe_int pe_int) pe_int)) (pe_callTy call_int1 (by rfl) T.m_int (by decide +kernel) (pa_cons (pe_cmpR op_ge (pe_callB call_abs (by rfl) T.m_abs (by decide +kernel) (pa_cons (pv 2) pa_nil)) (pe_op op_pow pe_int pe_int) (nomark _)) pa_nil))))
      (pss_one (ps_ret (pe_lst (pa_cons (pv 3) (pa_cons (pe_op op_mod (pe_op op_mul (pe_op op_add (pe_op op_add (pe_op op_mod (pv 2) pe_int) (pe_op op_mul (pe_op op_mul pe_int (pv 1)) (pv 1))) pe_int) pe_int) pe_int) (pa_cons pe_int pa_nil)))))))), ?_⟩
  have p1 : CPow 10 60 := ⟨by decide, by decide, by decide⟩
  have p2 : CPowW ((10 : Int) ^ (60 : Int).toNat) 15 := ⟨by decide, by decide +kernel⟩
  have p3 : CPow 10 18 := ⟨by decide, by decide, by decide⟩
  have p4 : (0 : Int) < ((10 : Int) ^ (60 : Int).toNat) ^ (15 : Int).toNat := by decide +kernel
  have fin : ∀ (x y : Int), ∀ p, H p = none → Q (.ref p) (upd H p (.lst [.int x, .int (y % 2305843009213693921), .int 0])) := by
    intro x y p np
    refine q p _ (same_new np) np ⟨_, _, _, upd_same, ?_, ?_, Int.le_refl 0, Int.le_refl 0⟩
    · exact Int.emod_nonneg _ (by decide)
    · exact Int.emod_lt_of_pos _ (by decide)
  refine ⟨.int k, rfl, .ref a, rfl, a, _, rfl, .inl hS, _, _, rfl, rfl, _, rfl, ite2 (fun c => ?_) (fun c => ?_)⟩
  · have c' : (k : Int) < (((ns.map V.int).length : Nat) : Int) := of_decide_eq_true c
    rw [List.length_map] at c'
    have hk' : k < ns.length := by omega
    have at_k : atI (ns.map V.int) (k : Int) = some (.int ns[k]) := atI_nat (by rw [List.getElem?_map, List.getElem?_eq_getElem hk']; rfl)
    refine ⟨_, rfl, _, rfl, a, _, _, _, rfl, rfl, hS, at_k, ?_⟩
    refine ⟨_, rfl, _, rfl, _, _, rfl, rfl, p1, _, _, rfl, rfl, p2, _, _, rfl, rfl, p4, _, rfl, _, rfl, _, _, rfl, rfl, p3, _, _, rfl, rfl, .inr ⟨_, rfl, _, _, rfl, rfl, .inr ?_, ?_⟩⟩
    · exact bit_small _
    refine ⟨_, rfl, _, rfl, _, _, rfl, rfl, (by show (0 : Int) < 2305843009213693951; decide), _, rfl, _, _, rfl, rfl, .inl ⟨by decide, by decide⟩, _, rfl, _, _, rfl, rfl, .inr ⟨by omega, by omega⟩, _, _, rfl, rfl, _, _, rfl, rfl,
      _, _, rfl, rfl, .inr ⟨by decide, by decide⟩, _, _, rfl, rfl, (by show (0 : Int) < 2305843009213693921; decide), (by show 3 ≤ sizeLine; decide), ?_⟩
    exact fin _ _
  · refine ⟨_, rfl, _, _, rfl, rfl, .inl ⟨by decide, by decide⟩, _, _, rfl, rfl, ?_⟩
    refine ⟨_, rfl, _, rfl, _, _, rfl, rfl, p1, _, _, rfl, rfl, p2, _, _, rfl, rfl, p4, _, rfl, _, rfl, _, _, rfl, rfl, p3, _, _, rfl, rfl, .inr ⟨_, rfl, _, _, rfl, rfl, .inr ?_, ?_⟩⟩
    · exact bit_small _
    refine ⟨_, rfl, _, rfl, _, _, rfl, rfl, (by show (0 : Int) < 2305843009213693951; decide), _, rfl, _, _, rfl, rfl, .inl ⟨by decide, by decide⟩, _, rfl, _, _, rfl, rfl, .inr ⟨by omega, by omega⟩, _, _, rfl, rfl, _, _, rfl, rfl,
      _, _, rfl, rfl, .inr ⟨by decide, by decide⟩, _, _, rfl, rfl, (by show (0 : Int) < 2305843009213693921; decide), (by show 3 ≤ sizeLine; decide), ?_⟩
    exact fin _ _

/-- a draw below u -/
def sp_take : Sp := fun vs H Q _ => ∃ (a : Addr) (n u : Nat), vs = [.ref a, .int u] ∧ Hd H a n ∧ n ≤ 1000000 ∧ 0 < u ∧ u ≤ 1000000 ∧
  ∀ (r : Nat) H', r < u → Hd H' a (n + 1) → Kp a H H' → Q (.int r) H'
def primes : List V := [.int 2147483629, .int 2147483587, .int 2147483579, .int 2147483563, .int 2147483549, .int 2147483543, .int 2147483497]
theorem prime_at (c : Int) : ∃ q : Int, atI primes (c % 7) = some (.int q) ∧ 0 < q ∧ q < 4294967296 := by
  have h0 : 0 ≤ c % 7 := Int.emod_nonneg _ (by decide)
  have h1 : c % 7 < 7 := Int.emod_lt_of_pos _ (by decide)
  have h : c % 7 = 0 ∨ c % 7 = 1 ∨ c % 7 = 2 ∨ c % 7 = 3 ∨ c % 7 = 4 ∨ c % 7 = 5 ∨ c % 7 = 6 := by omega
  rcases h with e | e | e | e | e | e | e <;> rw [e] <;> exact ⟨_, rfl, by decide, by decide⟩
theorem ok_take (T : Txt K mg) {k : Nat} : FnOk P w K mg base CX0 (k + 1) T.f__law_take T.fd__law_take ["_law_hand_here", "_law_upon"] sp_take := by
  refine T.F__law_take.ok sc__law_take (fun vs H Q E h => ?_) (fun cdv A outer s H vs Q E hr h => ?_)
  · obtain ⟨a, n, u, rfl, _⟩ := h
    rfl
  obtain ⟨a, n, u, rfl, ⟨g, m, c, ha, m0, m1, c0, c1⟩, hn, u0, u1, q⟩ := h
  refine ⟨_, (pss_cons (ps_if (pt_cmpR op_gt (pe_ix ix_list (pv 0) pe_int (fun _ _ => rfl)) pe_int (nomark _)) (pss_cons (ps_set (i := 2) sc__law_take.nd rfl (.inl rfl) (pe_op op_mod (pe_ix ix_list (pv 0) pe_int (fun _ _ => rfl)) (pv 1)))
      (pss_cons (ps_asg (pe_op op_fdiv (pe_ix ix_list (pv 0) pe_int (fun _ _ => rfl)) (pv 1)) (pg_sub (pv 0) pe_int set_list))
      (pss_one (ps_ret (pv 2))))) pss_nil)
      (pss_cons (ps_asg (pe_op op_add (pe_ix ix_list (pv 0) pe_int (fun _ _ => rfl)) pe_int) (pg_sub (pv 0) pe_int set_list))
      (pss_cons (ps_set (i := 3) sc__law_take.nd rfl (.inl rfl) (pe_ix ix_list (pe_lst (pa_cons pe_int (pa_cons pe_int (pa_cons pe_int (pa_cons pe_int (pa_cons pe_int (pa_cons pe_int (pa_cons pe_int pa_nil)))))))) (pe_op op_mod (pe_ix ix_list (pv 0) pe_int (fun _ _ => rfl)) pe_int) (fun _ _ => rfl)))
      (pss_cons (ps_set (i := 4) sc__law_take.nd rfl (.inl rfl) (pe_op op_mod (pe_op op_pow (pe_op op_add (pe_ix ix_list (pv 0) pe_int (fun _ _ => rfl)) (pe_op op_mul pe_int (pe_ix ix_list (pv 0) pe_int (fun _ _ => rfl)))) pe_int) (pv 3)))
      (pss_one (ps_ret (pe_op op_mod (pe_op op_fdiv (pe_op op_mod (pe_op op_mul (pv 4) (pe_op op_add (pe_op op_mod (pv 4) pe_int) (pe_ix ix_list (pv 0) pe_int (fun _ _ => rfl)))) (pv 3)) pe_int) (pv 1)))))))), ?_⟩
  have u0' : (0 : Int) < (u : Int) := by omega
  refine ⟨_, rfl, a, _, 0, _, rfl, rfl, SqL.of ha, rfl, _, _, rfl, rfl, _, rfl, ite2 (fun cc => ?_) (fun cc => ?_)⟩
  · refine ⟨_, rfl, a, _, 0, _, rfl, rfl, SqL.of ha, rfl, _, rfl, _, _, rfl, rfl, u0', ?_⟩
    refine ⟨_, rfl, a, _, 0, _, rfl, rfl, SqL.of ha, rfl, _, rfl, _, _, rfl, rfl, ⟨u0', by omega⟩, _, rfl, a, _, 0, 0, rfl, rfl, ha, rfl, _, rfl, ?_⟩
    have r0 : 0 ≤ g % (u : Int) := Int.emod_nonneg _ (by omega)
    have r1 : g % (u : Int) < (u : Int) := Int.emod_lt_of_pos _ u0'
    have e : g % (u : Int) = (((g % (u : Int)).toNat : Nat) : Int) := by omega
    show Q (.int (g % (u : Int))) _
    rw [e]
    exact q _ _ (by omega) ⟨_, _, _, upd_same, m0, m1, c0, by omega⟩ (Kp.upd (Kp.refl a H))
  · refine ⟨_, rfl, a, _, 2, _, rfl, rfl, SqL.of ha, rfl, _, _, rfl, rfl, _, rfl, a, _, 2, 2, rfl, rfl, ha, rfl, ?_⟩
    have h1 : (upd H a (.lst ([V.int g, .int m, .int c].set 2 (.int (c + 1))))) a = some (.lst [.int g, .int m, .int (c + 1)]) := upd_same
    generalize hH : upd H a (.lst ([V.int g, .int m, .int c].set 2 (.int (c + 1)))) = H1 at h1 ⊢
    have k1 : Kp a H H1 := by
      rw [← hH]
      exact Kp.upd (Kp.refl a H)
    refine ⟨(by show 7 ≤ sizeLine; decide), fun p np => ?_⟩
    have s2 : Same H1 (upd H1 p (.lst primes)) := same_new np
    have h2 := s2 _ _ h1
    obtain ⟨pr, pe, pr0, pr1⟩ := prime_at (c + 1)
    refine ⟨_, rfl, a, _, 2, _, rfl, rfl, SqL.of h2, rfl, _, _, rfl, rfl, (by show (0 : Int) < 7; decide), p, primes, _, _, rfl, rfl, SqL.of upd_same, pe, ?_⟩
    refine ⟨_, rfl, a, _, 1, _, rfl, rfl, SqL.of h2, rfl, _, rfl, a, _, 2, _, rfl, rfl, SqL.of h2, rfl, _, _, rfl, rfl, .inl ⟨by decide, by decide⟩, _, _, rfl, rfl, _, _, rfl, rfl, ⟨by decide, by decide, ?_⟩, _, rfl, _, _, rfl, rfl, pr0, ?_⟩
    · have : (m + 7919 * (c + 1)).natAbs < 18446744073709551616 := by omega
      exact this
    generalize hd : (m + 7919 * (c + 1)) ^ (3 : Int).toNat % pr = dr
    have d0 : 0 ≤ dr := by
      rw [← hd]
      exact Int.emod_nonneg _ (by omega)
    have d1 : dr < pr := by
      rw [← hd]
      exact Int.emod_lt_of_pos _ pr0
    refine ⟨_, rfl, _, rfl, _, _, rfl, rfl, (by show (0 : Int) < 1009; decide), _, rfl, a, _, 2, _, rfl, rfl, SqL.of h2, rfl, _, _, rfl, rfl, _, _, rfl, rfl, .inl ⟨by omega, by omega⟩, _, rfl, _, _, rfl, rfl, pr0, _, _, rfl, rfl, ⟨by decide, by decide⟩, _, rfl, _, _, rfl, rfl, u0', ?_⟩
    have key : ∀ z : Int, Q (.int (z % (u : Int))) (upd H1 p (.lst primes)) := by
      intro z
      have r0 : 0 ≤ z % (u : Int) := Int.emod_nonneg _ (by omega)
      have r1 : z % (u : Int) < (u : Int) := Int.emod_lt_of_pos _ u0'
      have e : z % (u : Int) = (((z % (u : Int)).toNat : Nat) : Int) := by omega
      rw [e]
      exact q _ _ (by omega) ⟨_, _, _, h2, m0, m1, by omega, by omega⟩ (k1.trans (Kp.of_same s2))
    exact key _

/-- one of some -/
def sp_of : Sp := fun vs H Q _ => ∃ (a b : Addr) (n : Nat) (xs : List V), vs = [.ref a, .ref b] ∧ Hd H a n ∧ n ≤ 1000000 ∧ H b = some (.lst xs) ∧ b ≠ a ∧ 0 < xs.length ∧ xs.length ≤ 1000 ∧
  ∀ (v : V) H', v ∈ xs → Hd H' a (n + 1) → Kp a H H' → Q v H'
theorem ok_of (T : Txt K mg) {k : Nat} : FnOk P w K mg base CX0 (k + 2) T.f__law_of T.fd__law_of ["_law_hand_here", "_law_some"] sp_of := by
  have G__law_take := ok_take (P := P) (w := w) (base := base) T (k := k)
  refine T.F__law_of.ok sc__law_of (fun vs H Q E h => ?_) (fun cdv A outer s H vs Q E hr h => ?_)
  · obtain ⟨a, b, n, xs, rfl, _⟩ := h
    rfl
  obtain ⟨a, b, n, xs, rfl, ha, hn, hb, nb, x0, x1, q⟩ := h
  refine ⟨_, (pss_one (ps_ret (pe_ix ix_list (pv 1) (pe_call G__law_take hr (by rfl) T.g__law_take T.k__law_take T.b__law_take .nil pass0 (pa_cons (pv 0) (pa_cons (pe_callB call_len_seq (by rfl) T.m_len (by decide +kernel) (pa_cons (pv 1) pa_nil)) pa_nil))) (fun _ _ => rfl)))), ?_⟩
  refine ⟨_, rfl, _, rfl, _, rfl, b, xs, rfl, .inl (SqL.of hb), a, n, xs.length, rfl, ha, hn, x0, by omega, fun r H' hr' hd kp => ?_⟩
  have hb' : H' b = some (.lst xs) := kp b _ nb hb
  refine ⟨b, xs, (r : Int), xs[r], rfl, rfl, SqL.of hb', atI_nat (List.getElem?_eq_getElem hr'), ?_⟩
  exact q _ _ (List.getElem_mem hr') hd kp
end

end Z

namespace Z
open PySem PySem.Spec PyProof.Rows L2 Lw

/-! ### names -/
section
variable {P : Program} {w : World} {K : PySem.W.Frag} {mg : Str → Option Value} {base : Heap}
def sp_ofS : Sp := fun vs H Q _ => ∃ (a : Addr) (n : Nat) (z : Str), vs = [.ref a, .str z] ∧ Hd H a n ∧ n ≤ 1000000 ∧ 0 < z.length ∧ z.length ≤ 1000 ∧
  ∀ (c : Nat) H', c ∈ z.cps.toList → Hd H' a (n + 1) → Kp a H H' → Q (.str ⟨#[c]⟩) H'
theorem ok_ofS (T : Txt K mg) {k : Nat} : FnOk P w K mg base CX0 (k + 2) T.f__law_of T.fd__law_of ["_law_hand_here", "_law_some"] sp_ofS := by
  have G__law_take := ok_take (P := P) (w := w) (base := base) T (k := k)
  refine T.F__law_of.ok sc__law_of (fun vs H Q E h => ?_) (fun cdv A outer s H vs Q E hr h => ?_)
  · obtain ⟨a, n, z, rfl, _⟩ := h
    rfl
  obtain ⟨a, n, z, rfl, ha, hn, z0, z1, q⟩ := h
  refine ⟨_, (pss_one (ps_ret (pe_ix ix_str (pv 1) (pe_call G__law_take hr (by rfl) T.g__law_take T.k__law_take T.b__law_take .nil pass0 (pa_cons (pv 0) (pa_cons (pe_callB call_len_str (by rfl) T.m_len (by decide +kernel) (pa_cons (pv 1) pa_nil)) pa_nil))) (fun _ _ => rfl)))), ?_⟩
  have zs : z.length ≤ sizeLine := Nat.le_trans z1 (by decide)
  refine ⟨_, rfl, _, rfl, _, rfl, z, rfl, zs, a, n, z.length, rfl, ha, hn, z0, by omega, fun r H' hr' hd kp => ?_⟩
  have hr2 : r < z.cps.toList.length := by
    rw [← len_cps]
    exact hr'
  refine ⟨z, (r : Int), z.cps.toList[r], rfl, rfl, zs, atI_nat (List.getElem?_eq_getElem hr2), ?_⟩
  exact q _ _ (List.getElem_mem hr2) hd kp
def abc : Str := "abcdefghijklmnopqrstuvwxyz"
theorem abc_lt : Lt abc := by
  intro c hc
  have h : ∀ c ∈ abc.cps.toList, 97 ≤ c ∧ c ≤ 122 := by decide +kernel
  exact h c hc
theorem abc_len : abc.length = 26 := by decide +kernel
theorem abc_at (i : Int) : ∃ c, atI abc.cps.toList (i % 26) = some c ∧ 97 ≤ c ∧ c ≤ 122 := by
  have h0 : 0 ≤ i % 26 := Int.emod_nonneg _ (by decide)
  have h1 : i % 26 < 26 := Int.emod_lt_of_pos _ (by decide)
  have e : i % 26 = (((i % 26).toNat : Nat) : Int) := by omega
  have hl : (i % 26).toNat < abc.cps.toList.length := by
    rw [← len_cps, abc_len]
    omega
  rw [e]
  exact ⟨_, atI_nat (List.getElem?_eq_getElem hl), abc_lt _ (List.getElem_mem hl)⟩
def sp_names : Sp := fun vs H Q _ => ∃ (a : Addr) (n c : Nat), vs = [.ref a, .int c] ∧ Hd H a n ∧ n ≤ 800000 ∧ c ≤ 100 ∧
  ∀ (p : Addr) (ws : List Str) H', H p = none → H' p = some (.lst (ws.map V.str)) → ws.length = c → (∀ z ∈ ws, Lt z ∧ z.length ≤ 8) → Hd H' a (n + 10) → Kp a H H' → Q (.ref p) H'
theorem ok_names (T : Txt K mg) {k : Nat} : FnOk P w K mg base CX0 (k + 3) T.f__law_names T.fd__law_names ["_law_hand_here", "_law_count"] sp_names := by
  have G__law_take := ok_take (P := P) (w := w) (base := base) T (k := k + 1)
  have G__law_of := ok_of (P := P) (w := w) (base := base) T (k := k)
  have G__law_ofS := ok_ofS (P := P) (w := w) (base := base) T (k := k)
  refine T.F__law_names.ok sc__law_names (fun vs H Q E h => ?_) (fun cdv A outer s H vs Q E hr h => ?_)
  · obtain ⟨a, n, c, rfl, _⟩ := h
    rfl
  obtain ⟨a, n, c, rfl, ha, hn, hc, q⟩ := h
  refine ⟨_, (pss_cons (ps_set (i := 2) sc__law_names.nd rfl (.inr rfl) pe_str)
      (pss_cons (ps_par (i := 3) (j := 4) rfl sc__law_names.nd rfl rfl (by decide) rfl rfl (pa_cons (pe_call G__law_take hr (by rfl) T.g__law_take T.k__law_take T.b__law_take .nil pass0 (pa_cons (pv 0) (pa_cons pe_int pa_nil))) (pa_cons (pe_call G__law_of hr (by rfl) T.g__law_of T.k__law_of T.b__law_of .nil pass0 (pa_cons (pv 0) (pa_cons (pe_lst (pa_cons pe_int (pa_cons pe_int (pa_cons pe_int (pa_cons pe_int (pa_cons pe_int (pa_cons pe_int pa_nil))))))) pa_nil))) pa_nil)) (by rfl))
      (pss_cons (ps_set (i := 5) sc__law_names.nd rfl (.inl rfl) (pe_call G__law_of hr (by rfl) T.g__law_of T.k__law_of T.b__law_of .nil pass0 (pa_cons (pv 0) (pa_cons (pe_lst (pa_cons pe_int (pa_cons pe_int (pa_cons pe_int (pa_cons pe_int (pa_cons pe_int (pa_cons pe_int pa_nil))))))) pa_nil))))
      (pss_cons (ps_set (i := 7) sc__law_names.nd rfl (.inl rfl) (pe_bm PySem.F.plainAttrs_str PySem.F.slot_str_join PySem.F.type_str_join mt_join pe_str (pa_cons (pe_lc (own := [("_law_turn", 6)]) (g := gName 6) (tt := tYes) rfl sc__law_names.nd (pi_range1 (by rfl) T.m_range (pa_cons (pv 5) pa_nil)) (blkOk_by (N := ["_law_hand_here", "_law_count", "_law_letters", "_law_start", "_law_leap", "_law_long", "_law_turn", "_law_stem", "_law_cut", "_law_found", "_law_letter", "_law_word"]) (sc := defScope s__law_names) (by decide +kernel)) (fun _ _ _ _ _ => (pg_name (i := 6) sc__law_names.nd rfl (Or.inl rfl))) (fun _ _ _ _ _ => pts_nil) (fun _ _ _ _ _ => (pe_call G__law_ofS hr (by rfl) T.g__law_of T.k__law_of T.b__law_of .nil pass0 (pa_cons (pv 0) (pa_cons (pv 2) pa_nil))))) pa_nil)))
      (pss_cons (ps_par (i := 8) (j := 9) rfl sc__law_names.nd rfl rfl (by decide) rfl rfl (pa_cons (pe_call G__law_take hr (by rfl) T.g__law_take T.k__law_take T.b__law_take .nil pass0 (pa_cons (pv 0) (pa_cons (pe_op op_add (pv 5) pe_int) pa_nil))) (pa_cons (pe_lst pa_nil) pa_nil)) (by rfl))
      (pss_cons (ps_for PassesOwn.never rfl (pi_range1 (by rfl) T.m_range (pa_cons (pv 1) pa_nil)) (pg_name (i := 6) sc__law_names.nd rfl (.inl rfl)) (pss_cons (ps_set (i := 10) sc__law_names.nd rfl (.inl rfl) (pe_ix ix_str (pv 2) (pe_op op_mod (pe_op op_add (pv 3) (pe_op op_mul (pv 4) (pv 6))) pe_int) (fun _ _ => rfl)))
      (pss_cons (ps_set (i := 11) sc__law_names.nd rfl (.inl rfl) (pe_op op_add_str (pe_op op_add_str (pe_slice sl_str (pv 7) po_none (po_some (pv 8))) (pv 10)) (pe_slice sl_str (pv 7) (po_some (pv 8)) po_none)))
      (pss_one (ps_expr (pe_bm PySem.F.plainAttrs_list PySem.F.slot_list_append PySem.F.type_list_append mt_append (pv 9) (pa_cons (pe_op op_add_str (pv 11) (pe_op op_mulS pe_str (pe_callTy call_int1 (by rfl) T.m_int (by decide +kernel) (pa_cons (pe_cmpR op_in_seq (pv 11) (pe_tup (pa_cons pe_str (pa_cons pe_str (pa_cons pe_str (pa_cons pe_str (pa_cons pe_str pa_nil)))))) (by rfl)) pa_nil)))) pa_nil)))))))
      (pss_one (ps_ret (pv 9))))))))), ?_⟩
  have notH : ∀ {m : Nat} {H1 : Hp} {p : Addr}, Hd H1 a m → H1 p = none → p ≠ a := fun h e z => by
    obtain ⟨g, m, cc, e', _⟩ := h
    rw [z, e'] at e
    cases e
  -- start, leap
  refine ⟨_, rfl, a, n, 26, rfl, ha, by omega, by decide, by decide, fun start H1 hs1 g1 k1 => ?_⟩
  refine ⟨_, rfl, (by show 6 ≤ sizeLine; decide), fun p2 n2 => ?_⟩
  have s2 := same_new (o := .lst [.int 1, .int 3, .int 5, .int 7, .int 9, .int 11]) n2
  refine ⟨a, p2, n + 1, _, rfl, g1.same s2, by omega, upd_same, notH g1 n2, (by decide), (by decide), fun vl H3 hl g3 k3 => ⟨_, _, rfl, ?_⟩⟩
  obtain ⟨leap, rfl, hleap⟩ : ∃ leap : Int, vl = .int leap ∧ 0 ≤ leap ∧ leap ≤ 11 := by
    simp only [List.mem_cons, List.not_mem_nil, or_false] at hl
    rcases hl with e | e | e | e | e | e
    all_goals exact ⟨_, e, by decide, by decide⟩
  have k13 : Kp a H H3 := k1.trans ((Kp.of_same s2).trans k3)
  -- long
  refine ⟨_, rfl, (by show 6 ≤ sizeLine; decide), fun p4 n4 => ?_⟩
  have s4 := same_new (o := .lst [.int 0, .int 0, .int 1, .int 2, .int 3, .int 6]) n4
  refine ⟨a, p4, n + 1 + 1, _, rfl, g3.same s4, by omega, upd_same, notH g3 n4, (by decide), (by decide), fun vg H5 hg g5 k5 => ?_⟩
  obtain ⟨long, rfl, hlong⟩ : ∃ long : Nat, vg = .int (long : Int) ∧ long ≤ 6 := by
    simp only [List.mem_cons, List.not_mem_nil, or_false] at hg
    rcases hg with e | e | e | e | e | e
    · exact ⟨0, e, by decide⟩
    · exact ⟨0, e, by decide⟩
    · exact ⟨1, e, by decide⟩
    · exact ⟨2, e, by decide⟩
    · exact ⟨3, e, by decide⟩
    · exact ⟨6, e, by decide⟩
  have k15 : Kp a H H5 := k13.trans ((Kp.of_same s4).trans k5)
  -- stem
  refine ⟨rfl, ?_⟩
  refine ⟨_, rfl, _, rfl, by omega, by omega, fun D1 n1 => ?_⟩
  have hD : H D1 = none := by
    cases e : H D1 with
    | none => rfl
    | some o =>
      have nd : D1 ≠ a := notH g5 n1
      rw [k15 D1 o nd e] at n1
      cases n1
  have nDa : D1 ≠ a := notH g5 n1
  refine Lw.lc_range (lo := 0) (n := ((long : Int)).toNat) (fun m H' => Hd H' a (n + 3 + m) ∧ Kp a H H' ∧ ∃ ys : List Str, H' D1 = some (.lst (ys.map V.str)) ∧ ys.length = m ∧ ∀ y ∈ ys, Lt y ∧ y.length = 1) ?_ ?_ ?_
  · exact ⟨g5.same (same_new n1), k15.trans (Kp.of_same (same_new n1)), [], upd_same, rfl, fun y hy => by cases hy⟩
  · rintro m H6 hm ⟨g6, k6, ys, e6, l6, p6⟩
    refine ⟨rfl, ?_⟩
    dsimp only [tYes]
    refine iteT ?_
    refine ⟨_, rfl, _, rfl, a, n + 3 + m, abc, rfl, g6, by omega, by rw [abc_len]; decide, by rw [abc_len]; decide, fun ch H7 hch g7 k7 => ?_⟩
    refine ⟨_, k7 _ _ nDa e6, ?_, ?_, ?_, ys ++ [⟨#[ch]⟩], ?_, ?_, ?_⟩
    · rw [List.length_map, l6]
      exact Nat.lt_of_le_of_lt (show m ≤ 1000 by omega) (by decide)
    · obtain ⟨g, mm, cc, e, r1, r2, r3, r4⟩ := g7
      exact ⟨g, mm, cc, by rw [upd_ne nDa.symm]; exact e, r1, r2, r3, by omega⟩
    · intro b o nb e
      have nb2 : b ≠ D1 := ne_of_none e hD
      rw [upd_ne nb2]
      exact k7 _ _ nb (k6 _ _ nb e)
    · rw [upd_same, List.map_append]
      rfl
    · rw [List.length_append, l6]
      rfl
    · intro y hy
      rcases List.mem_append.mp hy with hy | hy
      · exact p6 y hy
      · rw [List.mem_singleton.mp hy]
        exact ⟨lt_one (abc_lt _ hch), rfl⟩
  · rintro H6 ⟨g6, k6, ys, e6, l6, p6⟩
    have ll : ((long : Int)).toNat = long := by omega
    rw [ll] at g6 l6
    have sum1 : (ys.map (·.length)).sum = long := by
      have : ∀ zs : List Str, (∀ y ∈ zs, Lt y ∧ y.length = 1) → (zs.map (·.length)).sum = zs.length := by
        intro zs
        induction zs with
        | nil => intro _; rfl
        | cons z zs ih =>
          intro h
          rw [List.map_cons, List.sum_cons, ih fun y hy => h y (List.mem_cons_of_mem _ hy), (h z List.mem_cons_self).2, List.length_cons]
          omega
      rw [this ys p6, l6]
    refine ⟨_, D1, ys, rfl, rfl, .inl (SqL.of e6), ?_, ?_⟩
    · rw [sum1]
      show long + ys.length * (Str.ofString "").length ≤ 16777216
      have : (Str.ofString "").length = 0 := rfl
      rw [this]
      omega
    have je : Txt.join (Str.ofString "") ys = Str.join Str.empty ys := TL.join_eq _ _
    obtain ⟨jl, jn⟩ := join_lt (ys := ys) fun y hy => (p6 y hy).1
    rw [sum1] at jn
    rw [je]
    generalize Str.join Str.empty ys = stem at jl jn
    -- cut, found
    refine ⟨_, rfl, _, rfl, _, _, rfl, rfl, a, n + 3 + long, long + 1, rfl, g6, by omega, by omega, by omega, fun cut H7 hcut g7 k7 => ?_⟩
    refine ⟨(by show 0 ≤ sizeLine; decide), fun pf nf => ⟨_, _, rfl, ?_⟩⟩
    have k8 := (k6.trans k7).trans (Kp.of_same (same_new (o := .lst []) nf))
    have hpf : H pf = none := by
      cases e : H pf with
      | none => rfl
      | some o =>
        have nd : pf ≠ a := notH g7 nf
        rw [(k6.trans k7) pf o nd e] at nf
        cases nf
    have nfa : pf ≠ a := notH g7 nf
    refine ⟨_, rfl, _, rfl, by omega, by omega, for_range (lo := 0) (n := ((c : Int)).toNat) (fun m σ H' => (∃ y6 y10 y11, σ = [some (.ref a), some (.int (c : Int)), some (.str abc), some (.int (start : Int)), some (.int leap), some (.int (long : Int)), y6, some (.str stem), some (.int (cut : Int)), some (.ref pf), y10, y11]) ∧ Hd H' a (n + 10) ∧ Kp a H H' ∧
      ∃ ws : List Str, H' pf = some (.lst (ws.map V.str)) ∧ ws.length = m ∧ ∀ z ∈ ws, Lt z ∧ z.length ≤ 8) ?_ ?_ ?_⟩
    · exact ⟨⟨_, _, _, rfl⟩, (g7.same (same_new nf)).mono (by omega), k8, [], upd_same, rfl, fun z hz => by cases hz⟩
    · rintro m σ H9 hm ⟨⟨y6, y10, y11, rfl⟩, g9, k9, ws, e9, l9, p9⟩
      obtain ⟨ch, hch, hch2⟩ := abc_at ((start : Int) + leap * (0 + (m : Int)))
      refine ⟨_, rfl, _, rfl, _, rfl, _, rfl, _, _, rfl, rfl, .inl ⟨by omega, by omega⟩, _, _, rfl, rfl, _, _, rfl, rfl, (by show (0 : Int) < 26; decide), abc, _, ch, rfl, rfl, (by rw [abc_len]; decide), hch, ?_⟩
      have z1 := cutS_length stem none (some (cut : Int))
      have z2 := cutS_length stem (some (cut : Int)) none
      have one : (⟨#[ch]⟩ : Str).length = 1 := rfl
      have sl : stem.length ≤ sizeLine := Nat.le_trans (show stem.length ≤ 1000 by omega) (by decide)
      have small : ∀ x : Nat, x ≤ 1000 → x ≤ sizeLine := fun x h => Nat.le_trans h (by decide)
      refine ⟨_, rfl, _, rfl, _, rfl, stem, rfl, sl, _, rfl, _, _, rfl, rfl, small _ (by rw [one]; omega), _, rfl, _, rfl, _, rfl, stem, rfl, sl, _, _, rfl, rfl, small _ (by rw [strLen_append, one]; omega), ?_⟩
      have wl : (cutS stem none (some (cut : Int)) ++ ⟨#[ch]⟩ ++ cutS stem (some (cut : Int)) none).length ≤ 7 := by
        rw [strLen_append, strLen_append, one]
        have := cut_two stem cut
        omega
      have wt : Lt (cutS stem none (some (cut : Int)) ++ ⟨#[ch]⟩ ++ cutS stem (some (cut : Int)) none) := lt_app (lt_app (lt_cut jl _ _) (lt_one hch2)) (lt_cut jl _ _)
      generalize (cutS stem none (some (cut : Int)) ++ ⟨#[ch]⟩ ++ cutS stem (some (cut : Int)) none) = word at wl wt ⊢
      refine ⟨_, rfl, .inl ⟨rfl, _, SqL.of e9⟩, _, rfl, _, rfl, (by show 5 ≤ sizeLine; decide), fun pt nt => ?_⟩
      have s10 := same_new (o := .tup [.str "none", .str "cell", .str "came", .str "kth", .str "least"]) nt
      have e10 := s10 _ _ e9
      refine ⟨pt, _, rfl, .inr (SqT.of upd_same), rfl, rfl, .inr ⟨_, rfl, _, _, rfl, rfl, ?_⟩⟩
      have xs : ∀ b : Bool, (if b = true then (Str.ofString "x") else Str.empty).length ≤ 1 ∧ Lt (if b = true then (Str.ofString "x") else Str.empty) := by
        intro b
        cases b with
        | true => exact ⟨Nat.le_refl 1, lt_one (c := 120) (by decide)⟩
        | false => exact ⟨Nat.zero_le 1, lt_empty⟩
      generalize inV (V.str word) _ = bb0
      generalize hbb : (if false = true then !bb0 else bb0) = bb
      obtain ⟨x1, x2⟩ := xs bb
      refine ⟨_, _, rfl, rfl, small _ (by omega), pf, _, _, rfl, rfl, e10, ?_, ?_⟩
      · rw [List.length_map, l9]
        exact Nat.lt_of_le_of_lt (show m ≤ 1000 by omega) (by decide)
      · refine ⟨⟨_, _, _, rfl⟩, ?_, ?_, ws ++ [word ++ (if bb = true then (Str.ofString "x") else Str.empty)], ?_, ?_, ?_⟩
        · obtain ⟨g, mm, cc, e, r⟩ := g9.same s10
          exact ⟨g, mm, cc, by rw [upd_ne nfa.symm]; exact e, r⟩
        · intro b o nb e
          have nb2 : b ≠ pf := ne_of_none e hpf
          rw [upd_ne nb2]
          exact s10 _ _ (k9 _ _ nb e)
        · rw [upd_same, List.map_append]
          rfl
        · rw [List.length_append, l9]
          rfl
        · intro z hz
          rcases List.mem_append.mp hz with hz | hz
          · exact p9 z hz
          · rw [List.mem_singleton.mp hz]
            exact ⟨lt_app wt x2, by rw [strLen_append]; omega⟩
    · rintro σ H9 ⟨⟨y6, y10, y11, rfl⟩, g9, k9, ws, e9, l9, p9⟩
      have lc : ((c : Int)).toNat = c := by omega
      rw [lc] at l9
      exact ⟨_, rfl, q pf ws H9 hpf e9 l9 p9 g9 k9⟩
end

end Z

namespace Z
open PySem PySem.Spec PyProof.Rows L2 Lw

/-! ### whole numbers, rows, notes -/
def wholeD : PyData → Bool
  | .int _ => true
  | _ => false
def withinD (x y : Int) : PyData → Bool
  | .int i => decide (x ≤ i) && decide (i ≤ y)
  | _ => false
def rowD (x y : Int) : PyData → Bool
  | .tuple ds => decide (x ≤ (ds.length : Int)) && decide ((ds.length : Int) ≤ y)
  | _ => false
section
variable {P : Program} {w : World} {K : PySem.W.Frag} {mg : Str → Option Value} {base : Heap}
def sp_is_whole : Sp := fun vs H Q _ => ∃ (v : V) (d : PyData) (f : Bool), vs = [v] ∧ D f H v d ∧ Q (.bl (wholeD d)) H
theorem ok_is_whole (T : Txt K mg) {k : Nat} : FnOk P w K mg base CX0 (k + 1) T.f_is_whole T.fd_is_whole ["thing"] sp_is_whole := by
  refine T.F_is_whole.ok sc_is_whole (fun vs H Q E h => ?_) (fun cdv A outer s H vs Q E hr h => ?_)
  · obtain ⟨v, d, f, rfl, _⟩ := h
    rfl
  obtain ⟨v, d, f, rfl, hd, q⟩ := h
  refine ⟨_, (pss_one (ps_ret (pe_and (pe_callB call_isi (by rfl) T.m_isinstance (by decide +kernel) (pa_cons (pv 0) (pa_cons (pe_bltn (v := .ty "int") (by rfl) T.m_int (by decide +kernel) rfl) pa_nil))) (pe_one (pe_not (pe_callB call_isi (by rfl) T.m_isinstance (by decide +kernel) (pa_cons (pv 0) (pa_cons (pe_bltn (v := .ty "bool") (by rfl) T.m_bool (by decide +kernel) rfl) pa_nil)))))))), ?_⟩
  refine ⟨v, rfl, v, _, _, _, _, rfl, .ty _, hd.ty, kit_int d, _, rfl, ?_⟩
  cases d with
  | int i => exact iteT ⟨v, rfl, v, _, _, _, _, rfl, .ty _, hd.ty, kit_bool _, _, rfl, q⟩
  | bool b => exact iteT ⟨v, rfl, v, _, _, _, _, rfl, .ty _, hd.ty, kit_bool _, _, rfl, q⟩
  | none => exact iteF q
  | str x => exact iteF q
  | list xs => exact iteF q
  | tuple xs => exact iteF q
  | dict kvs => exact iteF q
def sp_is_within : Sp := fun vs H Q _ => ∃ (v : V) (d : PyData) (f : Bool) (x y : Int), vs = [v, .int x, .int y] ∧ D f H v d ∧ Q (.bl (withinD x y d)) H
theorem ok_is_within (T : Txt K mg) {k : Nat} : FnOk P w K mg base CX0 (k + 2) T.f_is_within T.fd_is_within ["thing", "least", "most"] sp_is_within := by
  have G_is_whole := ok_is_whole (P := P) (w := w) (base := base) T (k := k)
  refine T.F_is_within.ok sc_is_within (fun vs H Q E h => ?_) (fun cdv A outer s H vs Q E hr h => ?_)
  · obtain ⟨v, d, f, x, y, rfl, _⟩ := h
    rfl
  obtain ⟨v, d, f, x, y, rfl, hd, q⟩ := h
  refine ⟨_, (pss_one (ps_ret (pe_and (pe_call G_is_whole hr (by rfl) T.g_is_whole T.k_is_whole T.b_is_whole .nil pass0 (pa_cons (pv 0) pa_nil)) (pe_one (pe_chain op_le op_le (pv 1) (pv 0) (pv 2)))))), ?_⟩
  refine ⟨v, rfl, v, d, f, rfl, hd, _, rfl, ?_⟩
  cases hd with
  | int i =>
    refine iteT ⟨_, rfl, _, rfl, _, _, rfl, rfl, _, rfl, ite2 (fun c => ?_) (fun c => ?_)⟩
    · refine ⟨_, rfl, _, _, rfl, rfl, ?_⟩
      have e : withinD x y (.int i) = decide (i ≤ y) := by
        show (decide (x ≤ i) && decide (i ≤ y)) = _
        rw [show decide (x ≤ i) = true from c, Bool.true_and]
      rw [e] at q
      exact q
    · have e : withinD x y (.int i) = false := by
        show (decide (x ≤ i) && decide (i ≤ y)) = _
        rw [show decide (x ≤ i) = false from Bool.eq_false_iff.mpr c, Bool.false_and]
      rw [e] at q
      exact q
  | non => exact iteF q
  | bl b => exact iteF q
  | str x => exact iteF q
  | lst e n t => exact iteF q
  | tup e t => exact iteF q
  | dct e t => exact iteF q
def sp_is_row : Sp := fun vs H Q _ => ∃ (v : V) (d : PyData) (f : Bool) (x y : Int), vs = [v, .int x, .int y] ∧ D f H v d ∧ Q (.bl (rowD x y d)) H
theorem ok_is_row (T : Txt K mg) {k : Nat} : FnOk P w K mg base CX0 (k + 1) T.f_is_row T.fd_is_row ["thing", "least", "most"] sp_is_row := by
  refine T.F_is_row.ok sc_is_row (fun vs H Q E h => ?_) (fun cdv A outer s H vs Q E hr h => ?_)
  · obtain ⟨v, d, f, x, y, rfl, _⟩ := h
    rfl
  obtain ⟨v, d, f, x, y, rfl, hd, q⟩ := h
  refine ⟨_, (pss_one (ps_ret (pe_and (pe_callB call_isi (by rfl) T.m_isinstance (by decide +kernel) (pa_cons (pv 0) (pa_cons (pe_bltn (v := .ty "tuple") (by rfl) T.m_tuple (by decide +kernel) rfl) pa_nil))) (pe_one (pe_chain op_le op_le (pv 1) (pe_callB call_len_seq (by rfl) T.m_len (by decide +kernel) (pa_cons (pv 0) pa_nil)) (pv 2)))))), ?_⟩
  refine ⟨v, rfl, v, _, _, _, _, rfl, .ty _, hd.ty, kit_tup d, _, rfl, ?_⟩
  cases hd with
  | @tup a xs ds e t =>
    have hl := t.length
    refine iteT ⟨_, rfl, _, rfl, a, xs, rfl, .inr (SqT.of e), _, _, rfl, rfl, _, rfl, ite2 (fun c => ?_) (fun c => ?_)⟩
    · refine ⟨_, rfl, _, _, rfl, rfl, ?_⟩
      have e : rowD x y (.tuple ds) = decide ((xs.length : Int) ≤ y) := by
        show (decide (x ≤ (ds.length : Int)) && decide ((ds.length : Int) ≤ y)) = _
        rw [← hl, show decide (x ≤ (xs.length : Int)) = true from c, Bool.true_and]
      rw [e] at q
      exact q
    · have e : rowD x y (.tuple ds) = false := by
        show (decide (x ≤ (ds.length : Int)) && decide ((ds.length : Int) ≤ y)) = _
        rw [← hl, show decide (x ≤ (xs.length : Int)) = false from Bool.eq_false_iff.mpr c, Bool.false_and]
      rw [e] at q
      exact q
  | non => exact iteF q
  | bl b => exact iteF q
  | int b => exact iteF q
  | str x => exact iteF q
  | lst e n t => exact iteF q
  | dct e t => exact iteF q
end

/-! ### guards -/
def noneD : PyData → Bool
  | .none => true
  | _ => false
def spotD (m : Nat) (d : PyData) : Bool := noneD d || withinD 0 ((m : Int) - 1) d
def placeD (n m : Nat) : PyData → Bool
  | .tuple ds => decide (ds.length = n) && ds.all (spotD m)
  | _ => false
def guardD (n : Nat) : PyData → Bool
  | .tuple ds => decide (1 ≤ ds.length ∧ ds.length ≤ 4) && ds.all (placeD n ds.length)
  | _ => false
section
variable {P : Program} {w : World} {K : PySem.W.Frag} {mg : Str → Option Value} {base : Heap}
theorem d_isNone {f : Bool} {H : Hp} {v : V} {d : PyData} (h : D f H v d) : decide (v = V.non) = noneD d := by
  cases h <;> first | rfl | exact decide_eq_false (fun z => nomatch z)
theorem row_eq {n : Nat} {d : PyData} : rowD n n d = true ↔ ∃ ds, d = .tuple ds ∧ ds.length = n := by
  cases d with
  | tuple ds =>
    show (decide ((n : Int) ≤ (ds.length : Int)) && decide ((ds.length : Int) ≤ (n : Int))) = true ↔ _
    rw [Bool.and_eq_true, decide_eq_true_eq, decide_eq_true_eq]
    constructor
    · intro h
      exact ⟨ds, rfl, by omega⟩
    · rintro ⟨_, e, h⟩
      cases e
      omega
  | _ => exact ⟨fun h => (by cases h), fun ⟨_, e, _⟩ => (by cases e)⟩
def sp_is_place : Sp := fun vs H Q _ => ∃ (v : V) (d : PyData) (f : Bool) (n m : Nat), vs = [.int n, .int m, v] ∧ D f H v d ∧ n ≤ 100 ∧ ∀ H', Same H H' → Q (.bl (placeD n m d)) H'
theorem ok_is_place (T : Txt K mg) {k : Nat} : FnOk P w K mg base CX0 (k + 3) T.f_is_place T.fd_is_place ["deeds", "places", "thing"] sp_is_place := by
  have G_is_row := ok_is_row (P := P) (w := w) (base := base) T (k := k + 1)
  have G_is_within := ok_is_within (P := P) (w := w) (base := base) T (k := k)
  refine T.F_is_place.ok sc_is_place (fun vs H Q E h => ?_) (fun cdv A outer s H vs Q E hr h => ?_)
  · obtain ⟨v, d, f, n, m, rfl, _⟩ := h
    rfl
  obtain ⟨v, d, f, n, m, rfl, hd, hn, q⟩ := h
  refine ⟨_, (pss_cons (ps_if (pt_not (pt_val (pe_call G_is_row hr (by rfl) T.g_is_row T.k_is_row T.b_is_row .nil pass0 (pa_cons (pv 2) (pa_cons (pv 0) (pa_cons (pv 0) pa_nil)))))) (pss_one (ps_ret pe_bl)) pss_nil)
      (pss_one (ps_ret (pe_callB (cr_all rfl) (by rfl) T.m_all (by decide +kernel) (pa_cons (pe_lc (own := [("behind", 3)]) (g := gName 3) (tt := tYes) rfl sc_is_place.nd (pi_tup (pv 2)) (blkOk_by (N := ["deeds", "places", "thing", "behind"]) (sc := defScope s_is_place) (by decide +kernel)) (fun _ _ _ _ _ => (pg_name (i := 3) sc_is_place.nd rfl (Or.inl rfl))) (fun _ _ _ _ _ => pts_nil) (fun _ _ _ _ _ => (pe_or (pe_cmp (pc_isN (pv 3))) (pe_one (pe_call G_is_within hr (by rfl) T.g_is_within T.k_is_within T.b_is_within .nil pass0 (pa_cons (pv 3) (pa_cons pe_int (pa_cons (pe_op op_sub (pv 1) pe_int) pa_nil)))))))) pa_nil))))), ?_⟩
  refine ⟨_, rfl, _, rfl, _, rfl, v, d, f, n, n, rfl, hd, _, rfl, ?_⟩
  cases hrow : rowD n n d with
  | false =>
    refine iteT ?_
    have e : placeD n m d = false := by
      cases d with
      | tuple ds =>
        have : ¬ ds.length = n := fun z => by
          rw [row_eq.mpr ⟨ds, rfl, z⟩] at hrow
          cases hrow
        show (decide (ds.length = n) && ds.all (spotD m)) = false
        rw [decide_eq_false this]
        rfl
      | _ => rfl
    have q0 := q H (Same.refl H)
    rw [e] at q0
    exact q0
  | true =>
    refine iteF ?_
    obtain ⟨ds, rfl, hl⟩ := row_eq.mp hrow
    cases hd with
    | @tup a xs _ e t =>
      have hlx := t.length
      refine ⟨_, rfl, a, rfl, ⟨xs, SqT.of e⟩, fun D1 n1 => ?_⟩
      refine Lw.lc_tup (xs := xs) (fun j H2 => Same H H2 ∧ H2 D1 = some (.lst (((ds.take j).map (spotD m)).map V.bl))) ⟨same_new n1, upd_same⟩ ?_ ?_ ?_
      · rintro j H2 _ ⟨s2, _⟩
        exact SqT.of (s2 _ _ e)
      · rintro j x H2 hx ⟨s2, e2⟩
        obtain ⟨dx, hdx, hD⟩ := DA.get j t hx
        have hD2 := hD.same s2
        refine ⟨rfl, ?_⟩
        dsimp only [tYes]
        refine iteT ?_
        have next : ∀ H3, Same H2 H3 → ∃ acc, H3 D1 = some (.lst acc) ∧ acc.length < sizeLine ∧ Same H (upd H3 D1 (.lst (acc ++ [V.bl (spotD m dx)]))) ∧ upd H3 D1 (.lst (acc ++ [V.bl (spotD m dx)])) D1 = some (.lst (((ds.take (j + 1)).map (spotD m)).map V.bl)) := by
          intro H3 s3
          refine ⟨_, s3 _ _ e2, ?_, ?_, ?_⟩
          · rw [List.length_map, List.length_map]
            exact Nat.lt_of_le_of_lt (Nat.le_trans (List.length_take_le _ _) (show j ≤ 1000 by have := (List.getElem?_eq_some_iff.mp hx).1; omega)) (by decide)
          · intro b o eb
            rw [upd_ne (ne_of_none eb n1)]
            exact s3 _ _ (s2 _ _ eb)
          · rw [upd_same, List.take_add_one, hdx, List.map_append, List.map_append]
            rfl
        refine ⟨_, rfl, _, rfl, ?_⟩
        rw [d_isNone hD2]
        cases hno : noneD dx with
        | true =>
          have es : spotD m dx = true := by
            show (noneD dx || _) = true
            rw [hno]
            rfl
          rw [es] at next
          exact iteT (next H2 (Same.refl H2))
        | false =>
          have es : spotD m dx = withinD 0 ((m : Int) - 1) dx := by
            show (noneD dx || _) = _
            rw [hno]
            rfl
          rw [es] at next
          exact iteF ⟨_, rfl, _, rfl, _, _, rfl, rfl, x, dx, f, 0, (m : Int) - 1, rfl, hD2, next H2 (Same.refl H2)⟩
      · rintro H2 ⟨s2, e2⟩
        rw [hlx, List.take_length] at e2
        refine ⟨D1, ds.map (spotD m), rfl, SqL.of e2, ?_⟩
        have q2 := q H2 s2
        have e : placeD n m (.tuple ds) = ((ds.map (spotD m)).all id) := by
          show (decide (ds.length = n) && ds.all (spotD m)) = _
          rw [decide_eq_true hl, Bool.true_and, List.all_map]
          rfl
        rw [e] at q2
        exact q2
def sp_is_guard : Sp := fun vs H Q _ => ∃ (t : Addr) (as : List V) (v : V) (d : PyData) (f : Bool), vs = [.ref t, v] ∧ H t = some (.tup as) ∧ as.length ≤ 100 ∧ D f H v d ∧ ∀ H', Same H H' → Q (.bl (guardD as.length d)) H'
theorem ok_is_guard (T : Txt K mg) {k : Nat} : FnOk P w K mg base CX0 (k + 4) T.f_is_guard T.fd_is_guard ["deeds", "thing"] sp_is_guard := by
  have G_is_row := ok_is_row (P := P) (w := w) (base := base) T (k := k + 2)
  have G_is_place := ok_is_place (P := P) (w := w) (base := base) T (k := k)
  refine T.F_is_guard.ok sc_is_guard (fun vs H Q E h => ?_) (fun cdv A outer s H vs Q E hr h => ?_)
  · obtain ⟨t, as, v, d, f, rfl, _⟩ := h
    rfl
  obtain ⟨t0, as, v, d, f, rfl, ht0, has, hd, q⟩ := h
  refine ⟨_, (pss_cons (ps_if (pt_not (pt_val (pe_call G_is_row hr (by rfl) T.g_is_row T.k_is_row T.b_is_row .nil pass0 (pa_cons (pv 1) (pa_cons pe_int (pa_cons (C8.pe_gc (by rfl) T.m_MOST_PLACES) pa_nil)))))) (pss_one (ps_ret pe_bl)) pss_nil)
      (pss_one (ps_ret (pe_callB (cr_all rfl) (by rfl) T.m_all (by decide +kernel) (pa_cons (pe_lc (own := [("place", 2)]) (g := gName 2) (tt := tYes) rfl sc_is_guard.nd (pi_tup (pv 1)) (blkOk_by (N := ["deeds", "thing", "place"]) (sc := defScope s_is_guard) (by decide +kernel)) (fun _ _ _ _ _ => (pg_name (i := 2) sc_is_guard.nd rfl (Or.inl rfl))) (fun _ _ _ _ _ => pts_nil) (fun _ _ _ _ _ => (pe_call G_is_place hr (by rfl) T.g_is_place T.k_is_place T.b_is_place .nil pass0 (pa_cons (pe_callB (call_lenK (K := K)) (by rfl) T.m_len (by decide +kernel) (pa_cons (pv 0) pa_nil)) (pa_cons (pe_callB (call_lenK (K := K)) (by rfl) T.m_len (by decide +kernel) (pa_cons (pv 1) pa_nil)) (pa_cons (pv 2) pa_nil)))))) pa_nil))))), ?_⟩
  refine ⟨_, rfl, v, d, f, 1, 4, rfl, hd, _, rfl, ?_⟩
  cases hrow : rowD 1 4 d with
  | false =>
    refine iteT ?_
    have e : guardD as.length d = false := by
      cases d with
      | tuple ds =>
        have h' : (decide ((1 : Int) ≤ (ds.length : Int)) && decide ((ds.length : Int) ≤ 4)) = false := hrow
        have : ¬ (1 ≤ ds.length ∧ ds.length ≤ 4) := fun z => by
          rw [decide_eq_true (show (1 : Int) ≤ (ds.length : Int) by omega), decide_eq_true (show (ds.length : Int) ≤ 4 by omega)] at h'
          cases h'
        show (decide (1 ≤ ds.length ∧ ds.length ≤ 4) && _) = false
        rw [decide_eq_false this]
        rfl
      | _ => rfl
    have q0 := q H (Same.refl H)
    rw [e] at q0
    exact q0
  | true =>
    refine iteF ?_
    cases hd with
    | @tup a xs ds e t =>
      have h' : (decide ((1 : Int) ≤ (ds.length : Int)) && decide ((ds.length : Int) ≤ 4)) = true := hrow
      rw [Bool.and_eq_true, decide_eq_true_eq, decide_eq_true_eq] at h'
      have hlx := t.length
      refine ⟨_, rfl, a, rfl, ⟨xs, SqT.of e⟩, fun D1 n1 => ?_⟩
      refine Lw.lc_tup (xs := xs) (fun j H2 => Same H H2 ∧ H2 D1 = some (.lst (((ds.take j).map (placeD as.length ds.length)).map V.bl))) ⟨same_new n1, upd_same⟩ ?_ ?_ ?_
      · rintro j H2 _ ⟨s2, _⟩
        exact SqT.of (s2 _ _ e)
      · rintro j x H2 hx ⟨s2, e2⟩
        obtain ⟨dx, hdx, hD⟩ := DA.get j t hx
        refine ⟨rfl, ?_⟩
        dsimp only [tYes]
        refine iteT ?_
        refine ⟨_, rfl, t0, as, rfl, .inr (SqT.of (s2 _ _ ht0)), _, rfl, a, xs, rfl, .inr (SqT.of (s2 _ _ e)), _, rfl, x, dx, f, as.length, ds.length, by rw [hlx]; rfl, hD.same s2, has, fun H3 s3 => ?_⟩
        refine ⟨_, s3 _ _ e2, ?_, ?_, ?_⟩
        · rw [List.length_map, List.length_map]
          exact Nat.lt_of_le_of_lt (Nat.le_trans (List.length_take_le _ _) (show j ≤ 1000 by have := (List.getElem?_eq_some_iff.mp hx).1; omega)) (by decide)
        · intro b o eb
          rw [upd_ne (ne_of_none eb n1)]
          exact s3 _ _ (s2 _ _ eb)
        · rw [upd_same, List.take_add_one, hdx, List.map_append, List.map_append]
          rfl
      · rintro H2 ⟨s2, e2⟩
        rw [hlx, List.take_length] at e2
        refine ⟨D1, ds.map (placeD as.length ds.length), rfl, SqL.of e2, ?_⟩
        have q2 := q H2 s2
        have e : guardD as.length (.tuple ds) = ((ds.map (placeD as.length ds.length)).all id) := by
          show (decide (1 ≤ ds.length ∧ ds.length ≤ 4) && ds.all _) = _
          rw [decide_eq_true (show 1 ≤ ds.length ∧ ds.length ≤ 4 by omega), Bool.true_and, List.all_map]
          rfl
        rw [e] at q2
        exact q2
    | non => cases hrow
    | bl b => cases hrow
    | int b => cases hrow
    | str b => cases hrow
    | lst e n t => cases hrow
    | dct e t => cases hrow
def sp_free : Sp := fun vs H Q _ => ∃ (t : Addr) (as : List V), vs = [.ref t] ∧ H t = some (.tup as) ∧ 1 ≤ as.length ∧ as.length ≤ 100 ∧
  ∀ p r H', H' p = some (.tup [.ref r]) → H' r = some (.tup (List.replicate as.length (V.int 0))) → Same H H' → Q (.ref p) H'
theorem rep_one {α : Type} (n : Nat) (x : α) : (List.replicate n [x]).flatten = List.replicate n x := by
  induction n with
  | zero => rfl
  | succ n ih =>
    rw [List.replicate_succ, List.flatten_cons, ih]
    rfl
theorem ok_free (T : Txt K mg) {k : Nat} : FnOk P w K mg base CX0 (k + 1) T.f_free T.fd_free ["deeds"] sp_free := by
  refine T.F_free.ok sc_free (fun vs H Q E h => ?_) (fun cdv A outer s H vs Q E hr h => ?_)
  · obtain ⟨t, as, rfl, _⟩ := h
    rfl
  obtain ⟨t, as, rfl, ht, h1, h2, q⟩ := h
  refine ⟨_, (pss_one (ps_ret (pe_tup (pa_cons (pe_op op_repU (pe_tup (pa_cons pe_int pa_nil)) (pe_callB call_len_seq (by rfl) T.m_len (by decide +kernel) (pa_cons (pv 0) pa_nil))) pa_nil)))), ?_⟩
  refine ⟨(by show 1 ≤ sizeLine; decide), fun p1 n1 => ?_⟩
  have s1 := same_new (o := .tup [.int 0]) n1
  refine ⟨_, rfl, t, as, rfl, .inr (SqT.of (s1 _ _ ht)), p1, _, _, rfl, rfl, upd_same, (by simp), by omega, by omega, (by show 1 ≤ 1000; decide), fun p2 H2 s2 e2 _ => ?_⟩
  refine ⟨(by show 1 ≤ sizeLine; decide), fun p3 n3 => ?_⟩
  have s3 := same_new (o := .tup [.ref p2]) n3
  refine q p3 p2 _ upd_same ?_ (s1.trans (s2.trans s3))
  have e : (List.replicate ((as.length : Int)).toNat [V.int 0]).flatten = List.replicate as.length (V.int 0) := by
    rw [show ((as.length : Int)).toNat = as.length by omega, rep_one]
  rw [e] at e2
  exact s3 _ _ e2
end

end Z

namespace Z
open PySem PySem.Spec PyProof.Rows L2 Lw

section
variable {P : Program} {w : World} {K : PySem.W.Frag} {mg : Str → Option Value} {base : Heap}
theorem all_no {α : Type} {p : α → Bool} {l : List α} {i : Nat} {x : α} (h : l[i]? = some x) (hx : p x = false) : l.all p = false := by
  rw [List.all_eq_false]
  exact ⟨x, List.mem_of_getElem? h, by rw [hx]; exact Bool.false_ne_true⟩
theorem all_yes {α : Type} {p : α → Bool} {l : List α} (h : ∀ j x, j < l.length → l[j]? = some x → p x = true) : l.all p = true := by
  rw [List.all_eq_true]
  intro x hx
  obtain ⟨j, hj⟩ := List.getElem?_of_mem hx
  exact h j x (List.getElem?_eq_some_iff.mp hj).1 hj
def sp_due8 : Sp := fun vs H Q _ => ∃ (v : V) (d : PyData) (f : Bool) (n : Nat), vs = [.int n, v] ∧ D f H v d ∧ ∀ H', Same H H' → Q (.bl (guardD n d)) H'
theorem ok_due (T : Txt K mg) {k : Nat} : FnOk P w K mg base CX0 (k + 1) T.f__law_due T.fd__law_due ["_law_size", "_law_item"] sp_due8 := by
  refine T.F__law_due.ok sc__law_due (fun vs H Q E h => ?_) (fun cdv A outer s H vs Q E hr h => ?_)
  · obtain ⟨v, d, f, n, rfl, _⟩ := h
    rfl
  obtain ⟨v, d, f, n, rfl, hd, q⟩ := h
  refine ⟨_, (pss_cons (ps_if (PW.pt (pw_or (pt_not (pt_val (pe_callB call_isi (by rfl) T.m_isinstance (by decide +kernel) (pa_cons (pv 1) (pa_cons (pe_bltn (v := .ty "tuple") (by rfl) T.m_tuple (by decide +kernel) rfl) pa_nil))))) (pw_or (pt_cmpR op_lt (pe_callB call_len_seq (by rfl) T.m_len (by decide +kernel) (pa_cons (pv 1) pa_nil)) pe_int (nomark _)) (pw_or1 (pt_cmpR op_gt (pe_callB call_len_seq (by rfl) T.m_len (by decide +kernel) (pa_cons (pv 1) pa_nil)) pe_int (nomark _)))))) (pss_one (ps_ret pe_bl)) pss_nil)
      (pss_cons (ps_for PassesOwn.never rfl (pi_tup (pv 1)) (pg_name (i := 2) sc__law_due.nd rfl (.inl rfl)) (pss_cons (ps_if (PW.pt (pw_or (pt_not (pt_val (pe_callB call_isi (by rfl) T.m_isinstance (by decide +kernel) (pa_cons (pv 2) (pa_cons (pe_bltn (v := .ty "tuple") (by rfl) T.m_tuple (by decide +kernel) rfl) pa_nil))))) (pw_or1 (pt_cmpR op_ne (pe_callB call_len_seq (by rfl) T.m_len (by decide +kernel) (pa_cons (pv 2) pa_nil)) (pv 0) (nomark _))))) (pss_one (ps_ret pe_bl)) pss_nil)
      (pss_one (ps_for PassesOwn.never rfl (pi_tup (pv 2)) (pg_name (i := 3) sc__law_due.nd rfl (.inl rfl)) (pss_cons (ps_if (PW.pt (pw_and (pt_cmp (pc_notN (pv 3))) (pw_and1 (PW.pt (pw_or (pt_not (pt_val (pe_callB call_isi (by rfl) T.m_isinstance (by decide +kernel) (pa_cons (pv 3) (pa_cons (pe_bltn (v := .ty "int") (by rfl) T.m_int (by decide +kernel) rfl) pa_nil))))) (pw_or1 (pt_val (pe_callB call_isi (by rfl) T.m_isinstance (by decide +kernel) (pa_cons (pv 3) (pa_cons (pe_bltn (v := .ty "bool") (by rfl) T.m_bool (by decide +kernel) rfl) pa_nil)))))))))) (pss_one (ps_ret pe_bl)) pss_nil)
      (pss_one (ps_if (PW.pt (pw_and (pt_cmp (pc_notN (pv 3))) (pw_and1 (pt_not (pt_chain op_le op_lt pe_int (pv 3) (pe_callB call_len_seq (by rfl) T.m_len (by decide +kernel) (pa_cons (pv 1) pa_nil))))))) (pss_one (ps_ret pe_bl)) pss_nil)))))))
      (pss_one (ps_ret pe_bl)))), ?_⟩
  have q0 := q H (Same.refl H)
  refine ⟨v, rfl, v, _, _, _, _, rfl, .ty _, hd.ty, kit_tup d, _, rfl, ?_⟩
  cases hd with
  | non => exact iteT (iteT q0)
  | bl b => exact iteT (iteT q0)
  | int b => exact iteT (iteT q0)
  | str x => exact iteT (iteT q0)
  | lst e n t => exact iteT (iteT q0)
  | dct e t => exact iteT (iteT q0)
  | @tup a xs ds e t =>
    have hl := t.length
    refine iteF ⟨_, rfl, a, xs, rfl, .inr (SqT.of e), _, _, rfl, rfl, _, rfl, ?_⟩
    have bad : ¬ (1 ≤ ds.length ∧ ds.length ≤ 4) → Q (.bl false) H := fun z => by
      have e : guardD n (.tuple ds) = false := by
        show (decide (1 ≤ ds.length ∧ ds.length ≤ 4) && _) = false
        rw [decide_eq_false z]
        rfl
      rw [e] at q0
      exact q0
    by_cases c1 : (xs.length : Int) < 1
    · rw [decide_eq_true c1]
      exact iteT (iteT (bad (by omega)))
    rw [decide_eq_false c1]
    refine iteF ⟨_, rfl, a, xs, rfl, .inr (SqT.of e), _, _, rfl, rfl, _, rfl, ?_⟩
    by_cases c2 : (4 : Int) < (xs.length : Int)
    · rw [decide_eq_true c2]
      exact iteT (bad (by omega))
    rw [decide_eq_false c2]
    refine iteF ?_
    have no : ∀ {i : Nat} {dx : PyData}, ds[i]? = some dx → placeD n ds.length dx = false → Q (.bl false) H := fun {i dx} hdx z => by
      have e : guardD n (.tuple ds) = false := by
        show (_ && ds.all (placeD n ds.length)) = false
        rw [all_no hdx z, Bool.and_false]
      rw [e] at q0
      exact q0
    refine ⟨_, rfl, a, rfl, ⟨xs, SqT.of e⟩, for_tup (xs := xs) (fun i σ H' => H' = H ∧ (∃ y z, σ = [some (.int n), some (.ref a), y, z]) ∧ ∀ j x, j < i → ds[j]? = some x → placeD n ds.length x = true) ⟨rfl, ⟨_, _, rfl⟩, fun j x hj => absurd hj (Nat.not_lt_zero j)⟩ ?_ ?_ ?_⟩
    · rintro i σ H' _ ⟨rfl, _, _⟩
      exact SqT.of e
    · rintro i x σ H' hx ⟨rfl, ⟨y, z, rfl⟩, hp⟩
      obtain ⟨dx, hdx, hD⟩ := DA.get i t hx
      have no := no hdx
      refine ⟨x, rfl, x, _, _, _, _, rfl, .ty _, hD.ty, kit_tup dx, _, rfl, ?_⟩
      cases hD with
      | non => exact iteT (iteT (no rfl))
      | bl b => exact iteT (iteT (no rfl))
      | int b => exact iteT (iteT (no rfl))
      | str x => exact iteT (iteT (no rfl))
      | lst e n t => exact iteT (iteT (no rfl))
      | dct e t => exact iteT (iteT (no rfl))
      | @tup b ys es e2 t2 =>
        have hl2 := t2.length
        refine iteF ⟨_, rfl, b, ys, rfl, .inr (SqT.of e2), _, rfl, rfl, _, rfl, ?_⟩
        by_cases c3 : ys.length = n
        · have cc : V.int (ys.length : Int) = V.int (n : Int) := by rw [c3]
          rw [decide_eq_true cc]
          refine iteF ?_
          have hen : es.length = n := by omega
          have no2 : ∀ {j : Nat} {dy : PyData}, es[j]? = some dy → spotD ds.length dy = false → Q (.bl false) H' := fun {j dy} hdy z => no (by
            show (_ && es.all (spotD ds.length)) = false
            rw [all_no hdy z, Bool.and_false])
          refine ⟨_, rfl, b, rfl, ⟨ys, SqT.of e2⟩, for_tup (xs := ys) (fun j σ H'' => H'' = H' ∧ (∃ z, σ = [some (.int n), some (.ref a), some (.ref b), z]) ∧ ∀ l u, l < j → es[l]? = some u → spotD ds.length u = true) ⟨rfl, ⟨_, rfl⟩, fun l u hl => absurd hl (Nat.not_lt_zero l)⟩ ?_ ?_ ?_⟩
          · rintro j σ H'' _ ⟨rfl, _, _⟩
            exact SqT.of e2
          · rintro j u σ H'' hu ⟨rfl, ⟨z, rfl⟩, hp2⟩
            obtain ⟨du, hdu, hDu⟩ := DA.get j t2 hu
            have go : spotD ds.length du = true → ∀ l u, l < j + 1 → es[l]? = some u → spotD ds.length u = true := by
              intro z l u hl hu'
              by_cases el : l = j
              · subst el
                rw [hdu] at hu'
                cases hu'
                exact z
              · exact hp2 l u (by omega) hu'
            have no3 := no2 hdu
            refine ⟨u, rfl, _, rfl, ?_⟩
            rw [d_isNone hDu]
            cases hno : noneD du with
            | true =>
              have yes : spotD ds.length du = true := by
                show (noneD du || _) = true
                rw [hno]
                rfl
              refine iteF (iteF ⟨u, rfl, _, rfl, ?_⟩)
              rw [d_isNone hDu, hno]
              exact iteF (iteF ⟨rfl, ⟨_, rfl⟩, go yes⟩)
            | false =>
              have es2 : spotD ds.length du = withinD 0 ((ds.length : Int) - 1) du := by
                show (noneD du || _) = _
                rw [hno]
                rfl
              rw [es2] at no3 go
              refine iteT ⟨u, rfl, u, _, _, _, _, rfl, .ty _, hDu.ty, kit_int du, _, rfl, ?_⟩
              cases hDu with
              | int l =>
                refine iteF ⟨_, rfl, V.int l, _, _, _, _, rfl, .ty _, (D.int (f := f) l).ty, kit_bool (.int l), _, rfl, iteF ⟨_, rfl, _, rfl, ?_⟩⟩
                rw [decide_eq_false (show ¬ V.int l = V.non from fun z => nomatch z)]
                refine iteT ⟨_, rfl, _, _, rfl, rfl, _, rfl, ?_⟩
                by_cases c4 : (0 : Int) ≤ l
                · rw [decide_eq_true c4]
                  refine iteT ⟨_, rfl, a, xs, rfl, .inr (SqT.of e), _, _, rfl, rfl, _, rfl, ?_⟩
                  by_cases c5 : l < (xs.length : Int)
                  · rw [decide_eq_true c5]
                    have y : withinD 0 ((ds.length : Int) - 1) (.int l) = true := by
                      show (decide ((0 : Int) ≤ l) && decide (l ≤ (ds.length : Int) - 1)) = true
                      rw [decide_eq_true c4, decide_eq_true (show l ≤ (ds.length : Int) - 1 by omega)]
                      rfl
                    exact iteF ⟨rfl, ⟨_, rfl⟩, go y⟩
                  · rw [decide_eq_false c5]
                    refine iteT (no3 ?_)
                    show (decide ((0 : Int) ≤ l) && decide (l ≤ (ds.length : Int) - 1)) = false
                    rw [decide_eq_false (show ¬ l ≤ (ds.length : Int) - 1 by omega), Bool.and_false]
                · rw [decide_eq_false c4]
                  refine iteF ⟨_, rfl, iteT (no3 ?_)⟩
                  show (decide ((0 : Int) ≤ l) && _) = false
                  rw [decide_eq_false c4]
                  rfl
              | bl b => exact iteF ⟨_, rfl, V.bl b, _, _, _, _, rfl, .ty _, (D.bl (f := f) b).ty, kit_bool (.bool b), _, rfl, iteT (no3 rfl)⟩
              | non => cases hno
              | str x => exact iteT (iteT (no3 rfl))
              | lst e n t => exact iteT (iteT (no3 rfl))
              | tup e t => exact iteT (iteT (no3 rfl))
              | dct e t => exact iteT (iteT (no3 rfl))
          · rintro σ H'' ⟨rfl, ⟨z, rfl⟩, hp2⟩
            refine ⟨rfl, ⟨_, _, rfl⟩, ?_⟩
            have yes : placeD n ds.length (.tuple es) = true := by
              show (decide (es.length = n) && es.all (spotD ds.length)) = true
              rw [decide_eq_true hen, Bool.true_and]
              exact all_yes fun j x hj hx => hp2 j x (by omega) hx
            intro j x' hj hx'
            by_cases ej : j = i
            · subst ej
              rw [hdx] at hx'
              cases hx'
              exact yes
            · exact hp j x' (by omega) hx'
        · have cc : ¬ V.int (ys.length : Int) = V.int (n : Int) := fun z => by
            have := V.int.inj z
            omega
          rw [decide_eq_false cc]
          refine iteT (no ?_)
          show (decide (es.length = n) && _) = false
          rw [decide_eq_false (show ¬ es.length = n by omega)]
          rfl
    · rintro σ H' ⟨rfl, ⟨y, z, rfl⟩, hp⟩
      have e : guardD n (.tuple ds) = true := by
        show (decide (1 ≤ ds.length ∧ ds.length ≤ 4) && ds.all (placeD n ds.length)) = true
        rw [decide_eq_true (show 1 ≤ ds.length ∧ ds.length ≤ 4 by omega), Bool.true_and]
        exact all_yes fun j x hj hx => hp j x (by omega) hx
      rw [e] at q0
      exact q0
end

end Z

namespace Z
open PySem PySem.Spec PyProof.Rows L2 Lw

section
variable {P : Program} {w : World} {K : PySem.W.Frag} {mg : Str → Option Value} {base : Heap}
def sp_gate : Sp := fun vs H Q _ => ∃ (a t : Addr) (n : Nat) (as : List V) (L : List Addr), vs = [.ref a, .ref t, .int 4] ∧ Hd H a n ∧ n ≤ 800000 ∧ H t = some (.tup as) ∧ as.length ≤ 4 ∧ a ∈ L ∧ Trk L H ∧
  ∀ (p : Addr) (ds : List PyData) H', Tp L H' p ds → Bd 3 100 (.tuple ds) → Hd H' a (n + 50) → Kp a H H' → Q (.ref p) H'
theorem ok_gate (T : Txt K mg) {k : Nat} : FnOk P w K mg base CX0 (k + 2) T.f__law_gate T.fd__law_gate ["_law_hand_here", "_law_acts", "_law_most_places"] sp_gate := by
  have G__law_take := ok_take (P := P) (w := w) (base := base) T (k := k)
  refine T.F__law_gate.ok sc__law_gate (fun vs H Q E h => ?_) (fun cdv A outer s H vs Q E hr h => ?_)
  · obtain ⟨a, t, n, as, L, rfl, _⟩ := h
    rfl
  obtain ⟨a, t, n, as, L, rfl, ha, hn, ht, has, hm, tr, q⟩ := h
  refine ⟨_, (pss_cons (ps_asg (pe_tup (pa_cons (pe_op op_add pe_int (pe_call G__law_take hr (by rfl) T.g__law_take T.k__law_take T.b__law_take .nil pass0 (pa_cons (pv 0) (pa_cons (pv 2) pa_nil)))) (pa_cons (pe_lst pa_nil) pa_nil))) (pg_tup rfl (pgs_cons (pg_name (i := 3) sc__law_gate.nd rfl (.inr rfl)) (pgs_cons (pg_name (i := 4) sc__law_gate.nd rfl (.inl rfl)) pgs_nil))))
      (pss_cons (ps_for PassesOwn.never rfl (pi_range1 (by rfl) T.m_range (pa_cons (pv 3) pa_nil)) (pg_name (i := 5) sc__law_gate.nd rfl (.inl rfl)) (pss_one (ps_expr (pe_bm PySem.F.plainAttrs_list PySem.F.slot_list_append PySem.F.type_list_append mt_append (pv 4) (pa_cons (pe_callTy call_tuple_of (by rfl) T.m_tuple (by decide +kernel) (pa_cons (pe_lc (own := [("_law_act", 6)]) (g := gName 6) (tt := tYes) rfl sc__law_gate.nd (pi_tup (pv 1)) (blkOk_by (N := ["_law_hand_here", "_law_acts", "_law_most_places", "_law_count", "_law_found", "_law_turn", "_law_act"]) (sc := defScope s__law_gate) (by decide +kernel)) (fun _ _ _ _ _ => (pg_name (i := 6) sc__law_gate.nd rfl (Or.inl rfl))) (fun _ _ _ _ _ => pts_nil) (fun _ _ _ _ _ => (pe_ifExp (pt_cmpR op_eq (pe_call G__law_take hr (by rfl) T.g__law_take T.k__law_take T.b__law_take .nil pass0 (pa_cons (pv 0) (pa_cons pe_int pa_nil))) pe_int (nomark _)) pe_non (pe_call G__law_take hr (by rfl) T.g__law_take T.k__law_take T.b__law_take .nil pass0 (pa_cons (pv 0) (pa_cons (pv 3) pa_nil)))))) pa_nil)) pa_nil)))))
      (pss_one (ps_ret (pe_callTy call_tuple_of (by rfl) T.m_tuple (by decide +kernel) (pa_cons (pv 4) pa_nil)))))), ?_⟩
  refine ⟨_, rfl, _, rfl, a, n, 4, rfl, ha, by omega, by decide, by decide, fun r H1 hr1 g1 k1 => ?_⟩
  refine ⟨_, _, rfl, rfl, (by show 0 ≤ sizeLine; decide), fun fl nfl => ?_⟩
  have s0 := same_new (o := .lst []) nfl
  refine ⟨(by show 2 ≤ sizeLine; decide), fun tt ntt => ⟨tt, _, rfl, SqT.of upd_same, rfl, _, _, rfl, _, _, rfl, rfl, ?_⟩⟩
  have s1 := s0.trans (same_new (o := .tup [.int (1 + (r : Int)), .ref fl]) ntt)
  have ef : (upd (upd H1 fl (.lst [])) tt (.tup [.int (1 + (r : Int)), .ref fl])) fl = some (.lst []) := same_new ntt _ _ upd_same
  have nfa : fl ≠ a := g1.new nfl
  have hfl : H fl = none := k1.none g1 nfl
  have nta : t ≠ a := fun z => by
    obtain ⟨_, _, _, e, _⟩ := ha
    rw [z, e] at ht
    cases ht
  have tr1 : Trk (fl :: L) (upd (upd H1 fl (.lst [])) tt (.tup [.int (1 + (r : Int)), .ref fl])) := ((tr.kp k1 g1).same s1).cons (by rw [ef]; intro z; cases z)
  have hm' : a ∈ fl :: L := List.mem_cons_of_mem _ hm
  have hf' : fl ∈ fl :: L := List.mem_cons_self
  refine ⟨_, rfl, _, rfl, by omega, by omega, for_range (lo := 0) (fun i σ H' => (∃ y5 y6, σ = [some (.ref a), some (.ref t), some (.int 4), some (.int (1 + (r : Int))), some (.ref fl), y5, y6]) ∧ Hd H' a (n + 1 + 8 * i) ∧ Kp a H H' ∧ Trk (fl :: L) H' ∧
    ∃ vs, H' fl = some (.lst vs) ∧ vs.length = i ∧ ∀ v ∈ vs, ∃ d, D true (remL (fl :: L) H') v d ∧ Bd 2 24 d) ?_ ?_ ?_⟩
  · exact ⟨⟨_, _, rfl⟩, g1.same s1, k1.trans (Kp.of_same s1), tr1, [], ef, rfl, fun v hv => by cases hv⟩
  · rintro i σ H2 hi ⟨⟨y5, y6, rfl⟩, g2, k2, tr2, vs, ev, lv, hv⟩
    have hi4 : i < 4 := by omega
    refine ⟨_, rfl, .inl ⟨rfl, _, SqL.of ev⟩, _, rfl, t, rfl, ⟨as, SqT.of (k2 _ _ nta ht)⟩, fun D1 n1 => ?_⟩
    have nD : D1 ≠ a := g2.new n1
    refine Lw.lc_tup (xs := as) (fun j H' => Hd H' a (n + 1 + 8 * i + 2 * j) ∧ Kp a H2 H' ∧ ∃ acc, H' D1 = some (.lst acc) ∧ acc.length = j ∧ ∀ v ∈ acc, Spot v) ⟨g2.same (same_new n1), Kp.of_same (same_new n1), [], upd_same, rfl, fun v hv => by cases hv⟩ ?_ ?_ ?_
    · rintro j H' _ ⟨_, k3, _⟩
      exact SqT.of (k3 _ _ nta (k2 _ _ nta ht))
    · rintro j x H3 hx ⟨g3, k3, acc, ea, la, hacc⟩
      have hj := (List.getElem?_eq_some_iff.mp hx).1
      have fin : ∀ (y : V) (H5 : Hp), Spot y → Hd H5 a (n + 1 + 8 * i + 2 * j + 2) → Kp a H3 H5 → ∃ acc, H5 D1 = some (.lst acc) ∧ acc.length < sizeLine ∧ Hd (upd H5 D1 (.lst (acc ++ [y]))) a (n + 1 + 8 * i + 2 * (j + 1)) ∧ Kp a H2 (upd H5 D1 (.lst (acc ++ [y]))) ∧
          ∃ acc', (upd H5 D1 (.lst (acc ++ [y]))) D1 = some (.lst acc') ∧ acc'.length = j + 1 ∧ ∀ v ∈ acc', Spot v := by
        intro y H5 hy g5 k5
        refine ⟨acc, k5 _ _ nD ea, Nat.lt_of_le_of_lt (show acc.length ≤ 1000 by omega) (by decide), (g5.at nD).mono (by omega), (k3.trans k5).free n1, _, upd_same, by rw [List.length_append, la]; rfl, ?_⟩
        intro v hv
        rcases List.mem_append.mp hv with z | z
        · exact hacc v z
        · rw [List.mem_singleton.mp z]
          exact hy
      refine ⟨rfl, ?_⟩
      dsimp only [tYes]
      refine iteT ?_
      refine ⟨_, rfl, a, _, 5, rfl, g3, by omega, by decide, by decide, fun r4 H4 hr4 g4 k4 => ⟨rfl, _, rfl, ite2 (fun c => ?_) (fun c => ?_)⟩⟩
      · exact fin _ _ (.inl rfl) (g4.mono (by omega)) k4
      · refine ⟨_, rfl, _, rfl, a, _, r + 1, congrArg (fun z => [V.ref a, V.int z]) (by omega : (1 : Int) + (r : Int) = ((r + 1 : Nat) : Int)), g4, by omega, by omega, by omega, fun r5 H5 hr5 g5 k5 => ?_⟩
        exact fin _ _ (.inr ⟨r5, rfl, by omega⟩) g5 (k4.trans k5)
    · rintro H3 ⟨g3, k3, acc, ea, la, hacc⟩
      refine ⟨D1, acc, rfl, .inl ⟨SqL.of ea, fun qd nq => ?_⟩⟩
      have s4 := same_new (o := .tup acc) nq
      have tr3 := tr2.kp k3 g3
      have ev4 := s4 _ _ (k3 _ _ nfa ev)
      refine ⟨fl, vs, .ref qd, rfl, rfl, ev4, Nat.lt_of_le_of_lt (show vs.length ≤ 1000 by omega) (by decide), ⟨_, _, rfl⟩, ((g3.same s4).at nfa).mono (by omega), (k2.trans (k3.trans (Kp.of_same s4))).free hfl, (tr3.same s4).at, _, upd_same, by rw [List.length_append, lv]; rfl, ?_⟩
      have up := (same_remL (as := fl :: L) s4).trans (remL_in (o := .lst (vs ++ [.ref qd])) hf')
      intro v hv'
      rcases List.mem_append.mp hv' with z | z
      · obtain ⟨d, h1, h2⟩ := hv v z
        exact ⟨d, (h1.same (k3.remL hm')).same up, h2⟩
      · rw [List.mem_singleton.mp z]
        obtain ⟨ds, h1, h2⟩ := da_of (H := remL (fl :: L) (upd (upd H3 qd (.tup acc)) fl (.lst (vs ++ [.ref qd])))) fun v hv => (hacc v hv).d
        have hl := h1.length
        refine ⟨.tuple ds, .tup (remL_in hf' _ _ (remL_new tr3 nq)) h1, Bd.tuple (n := 1) (m := 5) h2 ?_⟩
        omega
  · rintro σ H' ⟨⟨y5, y6, rfl⟩, g2, k2, tr2, vs, ev, lv, hv⟩
    refine ⟨_, rfl, fl, vs, rfl, .inl ⟨SqL.of ev, fun p np => ?_⟩⟩
    have s3 := same_new (o := .tup vs) np
    obtain ⟨ds, h1, h2⟩ := da_of hv
    have hl := h1.length
    refine q p ds _ ⟨fun z => tr2.new np (List.mem_cons_of_mem _ z), vs, upd_same, (h1.same remL_less).same (same_remL s3)⟩ (Bd.tuple (n := 2) (m := 24) h2 ?_) ((g2.same s3).mono (by omega)) (k2.trans (Kp.of_same s3))
    omega
end

end Z

namespace Z
open PySem PySem.Spec PyProof.Rows L2 Lw

section
variable {P : Program} {w : World} {K : PySem.W.Frag} {mg : Str → Option Value} {base : Heap}
/-- how heavy what is bent m deep may be -/
def bw : Nat → Nat → Nat
  | 0, _ => 0
  | m + 1, W => 2 * W + bw m W + 30
theorem len_le {n m : Nat} {ds : List PyData} (h : Bd n m (.tuple ds)) : ds.length ≤ m := by
  have := len_le_wa ds
  have := h.ofTup.1.wt
  omega
theorem depth_mem {x : PyData} : ∀ {ds : List PyData}, x ∈ ds → x.depth ≤ PyData.depthAll ds
  | [], h => by cases h
  | d :: ds, h => by
    simp only [PyData.depthAll]
    rcases List.mem_cons.mp h with z | z
    · rw [z]
      omega
    · have := depth_mem z
      omega
def sp_bent (m : Nat) : Sp := fun vs H Q _ => ∃ (a : Addr) (n : Nat) (L : List Addr) (v : V) (d : PyData) (nn W : Nat), vs = [.ref a, v] ∧ Hd H a n ∧ n + 3 * m ≤ 800000 ∧ m ≤ 1000 ∧ a ∈ L ∧ Trk L H ∧ D true (remL L H) v d ∧ Bd nn W d ∧ W ≤ 2000 ∧ d.depth < m ∧
  ∀ (v' : V) (d' : PyData) H', D true (remL L H') v' d' → Bd (nn + 1) (bw m W) d' → Hd H' a (n + 3 * m) → Kp a H H' → Q v' H'
theorem ok_bent (T : Txt K mg) {k : Nat} : ∀ m : Nat, FnOk P w K mg base CX0 (k + 3 + m) T.f__law_bent T.fd__law_bent ["_law_hand_here", "_law_item"] (sp_bent m)
  | 0 => by
    refine (T.F__law_bent.ok (k := k + 2) sc__law_bent (fun vs H Q E h => ?_) (fun cdv A outer s H vs Q E hr h => ?_))
    · obtain ⟨a, n, L, v, d, nn, W, rfl, _⟩ := h
      rfl
    · obtain ⟨a, n, L, v, d, nn, W, rfl, _, _, _, _, _, _, _, _, z, _⟩ := h
      exact absurd z (Nat.not_lt_zero _)
  | m + 1 => by
    have G__law_bent := ok_bent T (k := k) m
    have G__law_take := (ok_take (P := P) (w := w) (base := base) T (k := k)).mono (show k + 1 ≤ k + 3 + m by omega)
    have G__law_of := (ok_of (P := P) (w := w) (base := base) T (k := k)).mono (show k + 2 ≤ k + 3 + m by omega)
    refine T.F__law_bent.ok (k := k + 3 + m) sc__law_bent (fun vs H Q E h => ?_) (fun cdv A outer s H vs Q E hr h => ?_)
    · obtain ⟨a, n, L, v, d, nn, W, rfl, _⟩ := h
      rfl
    obtain ⟨a, n, L, v, d, nn, W, rfl, ha, hn, hmk, hm, tr, hd, bd, hW, dp, q⟩ := h
    refine ⟨_, (pss_cons (ps_if (PW.pt (pw_and (pt_val (pe_callB call_isi (by rfl) T.m_isinstance (by decide +kernel) (pa_cons (pv 1) (pa_cons (pe_bltn (v := .ty "tuple") (by rfl) T.m_tuple (by decide +kernel) rfl) pa_nil)))) (pw_and (pt_cmpR (op_ne0 hr) (pv 1) (pe_tup pa_nil) (nomark _)) (pw_and1 (pt_cmpR op_gt (pe_call G__law_take hr (by rfl) T.g__law_take T.k__law_take T.b__law_take .nil pass0 (pa_cons (pv 0) (pa_cons pe_int pa_nil))) pe_int (nomark _)))))) (pss_cons (ps_set (i := 2) sc__law_bent.nd rfl (.inl rfl) (pe_call G__law_take hr (by rfl) T.g__law_take T.k__law_take T.b__law_take .nil pass0 (pa_cons (pv 0) (pa_cons (pe_callB call_len_seq (by rfl) T.m_len (by decide +kernel) (pa_cons (pv 1) pa_nil)) pa_nil))))
      (pss_one (ps_ret (pe_op op_catU (pe_op op_catU (pe_slice sl_U (pv 1) po_none (po_some (pv 2))) (pe_tup (pa_cons (pe_call G__law_bent hr (by rfl) T.g__law_bent T.k__law_bent T.b__law_bent .nil pass0 (pa_cons (pv 0) (pa_cons (pe_ix ix_tup (pv 1) (pv 2) (fun _ _ => rfl)) pa_nil))) pa_nil))) (pe_slice sl_U (pv 1) (po_some (pe_op op_add (pv 2) pe_int)) po_none))))) pss_nil)
      (pss_cons (ps_if (pt_val (pe_callB call_isi (by rfl) T.m_isinstance (by decide +kernel) (pa_cons (pv 1) (pa_cons (pe_bltn (v := .ty "tuple") (by rfl) T.m_tuple (by decide +kernel) rfl) pa_nil)))) (pss_one (ps_ret (pe_call G__law_of hr (by rfl) T.g__law_of T.k__law_of T.b__law_of .nil pass0 (pa_cons (pv 0) (pa_cons (pe_lst (pa_cons (pe_callTy call_listN (by rfl) T.m_list (by decide +kernel) (pa_cons (pv 1) pa_nil)) (pa_cons (pe_slice sl_U (pv 1) po_none (po_some (pe_un un_neg pe_int))) (pa_cons (pe_op op_catU (pv 1) (pe_slice sl_U (pv 1) (po_some (pe_un un_neg pe_int)) po_none)) (pa_cons (pe_slice sl_U (pv 1) (po_some pe_int) po_none) (pa_cons pe_non (pa_cons (pe_tup (pa_cons (pv 1) pa_nil)) (pa_cons (pe_op op_catU (pv 1) (pe_tup (pa_cons pe_int pa_nil))) (pa_cons (pe_tup pa_nil) pa_nil))))))))) pa_nil))))) pss_nil)
      (pss_one (ps_ret (pe_call G__law_of hr (by rfl) T.g__law_of T.k__law_of T.b__law_of .nil pass0 (pa_cons (pv 0) (pa_cons (pe_lst (pa_cons pe_non (pa_cons (pe_un un_neg pe_int) (pa_cons pe_int (pa_cons pe_int (pa_cons pe_int (pa_cons pe_int (pa_cons pe_int (pa_cons pe_bl (pa_cons pe_bl (pa_cons pe_str (pa_cons (pe_tup (pa_cons pe_int pa_nil)) (pa_cons (pe_lstN (pa_cons pe_int pa_nil)) pa_nil))))))))))))) pa_nil))))))), ?_⟩
    have ebw : bw (m + 1) W = 2 * W + bw m W + 30 := rfl
    have small : ∀ x : Nat, x ≤ 5000 → x ≤ sizeLine := fun x h => Nat.le_trans h (by decide)
    have hty : ∀ {H' : Hp}, D true (remL L H') v d → TyX K H' v (.type (tyD d)) := fun h => (h.same remL_same).ty
    by_cases it : isTupD d = true
    · obtain ⟨ds, rfl⟩ : ∃ ds, d = .tuple ds := by
        cases d with
        | tuple ds => exact ⟨ds, rfl⟩
        | _ => cases it
      obtain ⟨ba, bx⟩ := bd.ofTup
      have hle := len_le bd
      have hnn : 1 ≤ nn := by
        have := bd.dp
        simp only [PyData.depth] at this
        omega
      refine later (P := fun Hx => Kp a H Hx ∧ Hd Hx a (n + 1)) ?_ ?_
      · rintro Hx ⟨kx, gx⟩
        have hdx := hd.same (kx.remL hm)
        have trx := tr.kp kx gx
        refine ⟨v, rfl, v, _, _, _, _, rfl, .ty _, hty hdx, kit_tup (.tuple ds), _, rfl, iteT ?_⟩
        obtain ⟨b, rfl, nb, xs, ex, da⟩ := Tp.of hdx
        have hl := da.length
        have c1 := fun (lo hi : Option Int) => cutV_le xs lo hi
        refine ⟨_, rfl, _, rfl, b, xs, rfl, ex, fun p1 n1 w1 => ?_⟩
        have s1 := same_new (o := .lst xs) n1
        have t1 := trx.same s1
        refine ⟨_, rfl, _, rfl, _, rfl, b, xs, rfl, s1 _ _ ex, fun p2 H2 s2 e2 o2 => ?_⟩
        have z2 := Tp.cut nb (da.same (same_remL s1)) t1 s2 e2 o2
        have t2 := t1.same s2
        have s12 := s1.trans s2
        refine ⟨_, rfl, _, rfl, _, rfl, _, rfl, b, xs, rfl, s12 _ _ ex, fun p3 H3 s3 e3 o3 => ?_⟩
        have z3 := Tp.cut nb (da.same (same_remL s12)) t2 s3 e3 o3
        have t3 := t2.same s3
        have s13 := s12.trans s3
        refine ⟨b, p3, _, _, rfl, rfl, s13 _ _ ex, e3, small _ (by have := c1 (some (-1)) none; omega), fun p4 H4 s4 e4 o4 => ?_⟩
        have z4 := Tp.cat nb z3.1 (da.same (same_remL s13)) ((da.cut (some (-1)) none).same (same_remL s13)) t3 s4 e4 o4
        have t4 := t3.same s4
        have s14 := s13.trans s4
        refine ⟨_, rfl, _, rfl, b, xs, rfl, s14 _ _ ex, fun p5 H5 s5 e5 o5 => ?_⟩
        have z5 := Tp.cut nb (da.same (same_remL s14)) t4 s5 e5 o5
        have t5 := t4.same s5
        have s15 := s14.trans s5
        refine ⟨_, rfl, (by show 1 ≤ sizeLine; decide), fun p6 n6 => ?_⟩
        have s6 := same_new (o := .tup [.ref b]) n6
        have t6 := t5.same s6
        have s16 := s15.trans s6
        refine ⟨_, rfl, (by show 1 ≤ sizeLine; decide), fun p7 n7 => ?_⟩
        have s7 := same_new (o := .tup [.int 0]) n7
        have t7 := t6.same s7
        have s17 := s16.trans s7
        refine ⟨b, p7, _, _, rfl, rfl, s17 _ _ ex, upd_same, small _ (by rw [List.length_singleton]; omega), fun p8 H8 s8 e8 o8 => ?_⟩
        have z8 := Tp.cat nb (t6.new n7) (da.same (same_remL s17)) (.cons (.int 0) .nil) t7 s8 e8 o8
        have t8 := t7.same s8
        have s18 := s17.trans s8
        refine ⟨(by show 0 ≤ sizeLine; decide), fun p9 n9 => ?_⟩
        have s9 := same_new (o := .tup []) n9
        have t9 := t8.same s9
        have s19 := s18.trans s9
        refine ⟨(by show 8 ≤ sizeLine; decide), fun pl npl => ?_⟩
        have sl := same_new (o := .lst [.ref p1, .ref p2, .ref p4, .ref p5, .non, .ref p6, .ref p8, .ref p9]) npl
        have sA := s19.trans sl
        have nal : pl ≠ a := fun z => (t9.new npl) (z ▸ hm)
        refine ⟨a, pl, n + 1, _, rfl, gx.same sA, by omega, upd_same, nal, (by show 0 < 8; decide), (by show 8 ≤ 1000; decide), fun v' Hb hv gb kb => ?_⟩
        have kk := kx.trans ((Kp.of_same sA).trans kb)
        have gb' : Hd Hb a (n + 3 * (m + 1)) := gb.mono (by omega)
        have rb := kb.remL hm
        have daB := (da.same (same_remL sA)).same rb
        simp only [List.mem_cons, List.not_mem_nil, or_false] at hv
        rcases hv with e | e | e | e | e | e | e | e
        · subst e
          refine q _ (.list ds) Hb (.lst (xs := xs) (rb _ _ (same_remL (s2.trans (s3.trans (s4.trans (s5.trans (s6.trans (s7.trans (s8.trans (s9.trans sl)))))))) _ _ (remL_new trx n1))) (fun _ => w1) daB) (ba.list.mono (Nat.le_refl _) (by omega)) gb' kk
        · subst e
          exact q _ _ Hb ((z2.same (s3.trans (s4.trans (s5.trans (s6.trans (s7.trans (s8.trans (s9.trans sl)))))))).kp hm kb).d ((ba.cut _ _).tuple.mono (Nat.le_refl _) (by omega)) gb' kk
        · subst e
          exact q _ _ Hb ((z4.same (s5.trans (s6.trans (s7.trans (s8.trans (s9.trans sl)))))).kp hm kb).d ((ba.append (ba.cut _ _)).tuple.mono (Nat.le_refl _) (by omega)) gb' kk
        · subst e
          exact q _ _ Hb ((z5.same (s6.trans (s7.trans (s8.trans (s9.trans sl))))).kp hm kb).d ((ba.cut _ _).tuple.mono (Nat.le_refl _) (by omega)) gb' kk
        · subst e
          exact q _ .none Hb .non (Bd.flat0 (.inl rfl) (by omega) (by omega)) gb' kk
        · subst e
          refine q _ (.tuple [.tuple ds]) Hb (.tup (rb _ _ (same_remL (s7.trans (s8.trans (s9.trans sl))) _ _ (remL_new t5 n6))) (.cons ((hdx.same (same_remL sA)).same rb) .nil)) ((BA.one bd).tuple.mono (Nat.le_refl _) (by omega)) gb' kk
        · subst e
          exact q _ _ Hb ((z8.same (s9.trans sl)).kp hm kb).d ((ba.append (BA.one (Bd.small (n := nn) (i := 0) (by decide)))).tuple.mono (Nat.le_refl _) (by omega)) gb' kk
        · subst e
          exact q _ (.tuple []) Hb (.tup (rb _ _ (same_remL sl _ _ (remL_new t8 n9))) .nil) (Bd.flat0 (.inr (.inr (.inr (.inr (.inl rfl))))) (by omega) (by omega)) gb' kk
      · intro leaf
        refine ⟨v, rfl, v, _, _, _, _, rfl, .ty _, hty hd, kit_tup (.tuple ds), _, rfl, iteT ?_⟩
        obtain ⟨b, rfl, nb, xs, ex, da⟩ := Tp.of hd
        have nba : b ≠ a := fun z => nb (z ▸ hm)
        have hl := da.length
        refine ⟨_, rfl, (by show 0 ≤ sizeLine; decide), fun p1 n1 => ?_⟩
        have s1 := same_new (o := .tup []) n1
        refine ⟨b, p1, xs, rfl, rfl, s1 _ _ ex, upd_same, _, rfl, ?_⟩
        by_cases c0 : xs.length = 0
        · rw [decide_eq_true c0]
          exact iteF (iteF (leaf _ ⟨Kp.of_same s1, (ha.same s1).mono (by omega)⟩))
        · rw [decide_eq_false c0]
          refine iteT ⟨_, rfl, a, n, 4, rfl, ha.same s1, by omega, by decide, by decide, fun r H2 hr2 g2 k2 => ⟨_, _, rfl, rfl, _, rfl, ite2 (fun c => ?_) (fun c => ?_)⟩⟩
          · have k02 := (Kp.of_same s1).trans k2
            have tr2 := tr.kp k02 g2
            have ex2 := k02 _ _ nba ex
            refine ⟨_, rfl, _, rfl, b, xs, rfl, .inr (SqT.of ex2), a, n + 1, xs.length, rfl, g2, by omega, by omega, by omega, fun r3 H3 hr3 g3 k3 => ?_⟩
            have k03 := k02.trans k3
            have tr3 := tr2.kp k3 g3
            have ex3 := k3 _ _ nba ex2
            have da3 := da.same (k03.remL hm)
            have c1 := fun (lo hi : Option Int) => cutV_le xs lo hi
            refine ⟨_, rfl, _, rfl, _, rfl, b, xs, rfl, ex3, fun q1 H4 s4 e4 o4 => ?_⟩
            have z1 := Tp.cut nb da3 tr3 s4 e4 o4
            have tr4 := tr3.same s4
            have da4 := da3.same (same_remL s4)
            obtain ⟨dx, hdx, hD⟩ := DA.get r3 da4 (List.getElem?_eq_getElem hr3)
            have hxm := List.mem_of_getElem? hdx
            refine ⟨_, rfl, _, rfl, _, rfl, b, xs, (r3 : Int), xs[r3], rfl, rfl, SqT.of (s4 _ _ ex3), atI_nat (List.getElem?_eq_getElem hr3), ?_⟩
            refine ⟨a, n + 1 + 1, L, xs[r3], dx, nn - 1, W, rfl, g3.same s4, by omega, by omega, hm, tr4, hD, bx dx hxm, hW, ?_, fun v' d' H5 hD' hB' g5 k5 => ?_⟩
            · have := depth_mem hxm
              simp only [PyData.depth] at dp
              omega
            have tr5 := tr4.kp k5 g5
            have np1 : q1 ≠ a := fun z => z1.1 (z ▸ hm)
            have dz1 := (da4.cut none (some (r3 : Int))).same (k5.remL hm)
            refine ⟨(by show 1 ≤ sizeLine; decide), fun q2 n6 => ?_⟩
            have s6 := same_new (o := .tup [v']) n6
            have x1 := c1 none (some (r3 : Int))
            have x3 := c1 (some ((r3 : Int) + 1)) none
            refine ⟨q1, q2, _, _, rfl, rfl, s6 _ _ (k5 _ _ np1 e4), upd_same, small _ (by rw [List.length_singleton]; omega), fun q3 H7 s7 e7 o7 => ?_⟩
            have z3 := Tp.cat z1.1 (tr5.new n6) (dz1.same (same_remL s6)) (.cons (hD'.same (same_remL s6)) .nil) (tr5.same s6) s7 e7 o7
            have s67 := s6.trans s7
            refine ⟨_, rfl, _, rfl, _, _, rfl, rfl, _, rfl, b, xs, rfl, s67 _ _ (k5 _ _ nba (s4 _ _ ex3)), fun q4 H8 s8 e8 o8 => ?_⟩
            have da7 := (da4.same (k5.remL hm)).same (same_remL s67)
            have z4 := Tp.cut nb da7 (tr5.same s67) s8 e8 o8
            refine ⟨q3, q4, _, _, rfl, rfl, s8 _ _ e7, e8, small _ (by rw [List.length_append, List.length_singleton]; omega), fun q5 H9 s9 e9 o9 => ?_⟩
            have s68 := s67.trans s8
            have z := Tp.cat z3.1 z4.1 ((dz1.same (same_remL s68)).append (.cons (hD'.same (same_remL s68)) .nil)) ((da7.cut _ _).same (same_remL s8)) ((tr5.same s67).same s8) s9 e9 o9
            have sA := s68.trans s9
            exact q _ _ H9 z.d ((BA.append (BA.append (ba.cut _ _) (BA.one (hB'.mono (show nn - 1 + 1 ≤ nn by omega) (Nat.le_refl _)))) (ba.cut _ _)).tuple.mono (Nat.le_refl _) (by omega)) ((g5.same sA).mono (by omega)) (k03.trans ((Kp.of_same s4).trans (k5.trans (Kp.of_same sA))))
          · exact leaf H2 ⟨(Kp.of_same s1).trans k2, g2⟩
    · have it' : isTupD d = false := by simpa using it
      have kt : PySem.W.kitOne K (.type (tyD d)) (.type "tuple") = some false := by
        rw [kit_tup d, it']
      refine ⟨v, rfl, v, _, _, _, _, rfl, .ty _, hty hd, kt, _, rfl, iteF (iteF ?_)⟩
      refine ⟨v, rfl, v, _, _, _, _, rfl, .ty _, hty hd, kt, _, rfl, iteF ?_⟩
      refine ⟨_, rfl, _, rfl, (by show 1 ≤ sizeLine; decide), fun p1 n1 => ?_⟩
      have s1 := same_new (o := .tup [.int 0]) n1
      have t1 := tr.same s1
      refine ⟨(by show 1 ≤ sizeLine; decide), fun p2 n2 w2 => ?_⟩
      have s2 := same_new (o := .lst [.int 0]) n2
      have t2 := t1.same s2
      refine ⟨(by show 12 ≤ sizeLine; decide), fun pl npl => ?_⟩
      have sl := same_new (o := .lst [.non, .int (-1), .int 0, .int 1, .int 2, .int 3, .int 4, .bl true, .bl false, .str "0", .ref p1, .ref p2]) npl
      have sA := s1.trans (s2.trans sl)
      have nal : pl ≠ a := fun z => (t2.new npl) (z ▸ hm)
      refine ⟨a, pl, n, _, rfl, ha.same sA, by omega, upd_same, nal, (by show 0 < 12; decide), (by show 12 ≤ 1000; decide), fun v' Hb hv gb kb => ?_⟩
      have kk := (Kp.of_same sA).trans kb
      have gb' : Hd Hb a (n + 3 * (m + 1)) := gb.mono (by omega)
      have rb := kb.remL hm
      have one : ∀ x ∈ [PyData.int 0], Bd 0 5 x := fun x hx => by
        rw [List.mem_singleton.mp hx]
        exact Bd.small (by decide)
      have int0 : ∀ i : Int, i.natAbs < 16 → Q (.int i) Hb := fun i hi => q _ (.int i) Hb (.int i) ((Bd.small hi).mono (Nat.le_refl _) (by omega)) gb' kk
      simp only [List.mem_cons, List.not_mem_nil, or_false] at hv
      rcases hv with e | e | e | e | e | e | e | e | e | e | e | e
      · subst e; exact q _ .none Hb .non (Bd.flat0 (.inl rfl) (by omega) (by omega)) gb' kk
      · subst e; exact int0 _ (by decide)
      · subst e; exact int0 _ (by decide)
      · subst e; exact int0 _ (by decide)
      · subst e; exact int0 _ (by decide)
      · subst e; exact int0 _ (by decide)
      · subst e; exact int0 _ (by decide)
      · subst e; exact q _ (.bool true) Hb (.bl _) (Bd.flat0 (.inr (.inl ⟨_, rfl⟩)) (by omega) (by omega)) gb' kk
      · subst e; exact q _ (.bool false) Hb (.bl _) (Bd.flat0 (.inr (.inl ⟨_, rfl⟩)) (by omega) (by omega)) gb' kk
      · subst e; exact q _ (.str "0") Hb (.str _) (Bd.flat0 (.inr (.inr (.inr (.inl rfl)))) (by omega) (by omega)) gb' kk
      · subst e
        exact q _ (.tuple [.int 0]) Hb (.tup (rb _ _ (same_remL (s2.trans sl) _ _ (remL_new tr n1))) (.cons (.int 0) .nil)) ((Bd.tuple (k := 10) one (by decide)).mono (by omega) (by omega)) gb' kk
      · subst e
        exact q _ (.list [.int 0]) Hb (.lst (rb _ _ (same_remL sl _ _ (remL_new t1 n2))) (fun _ => w2) (.cons (.int 0) .nil)) ((Bd.list (k := 10) one (by decide)).mono (by omega) (by omega)) gb' kk
end

end Z

namespace Z
open PySem PySem.Spec PyProof.Rows L2 Lw

section
variable {P : Program} {w : World} {K : PySem.W.Frag} {mg : Str → Option Value} {base : Heap}
theorem ok_bool (b : Bool) : Ok (.bool b) := by
  refine ⟨rfl, ?_, ?_⟩
  · simp only [PyData.depth]
    exact Nat.zero_le _
  · cases b <;> decide +kernel
def sp_right : Sp := fun vs H Q _ => ∃ (t : Addr) (as : List V) (das : List PyData) (v : V) (d : PyData), vs = [.ref t, v] ∧ H t = some (.tup as) ∧ DA true H as das ∧ as.length ≤ 4 ∧ D true H v d ∧ Ok (.tuple [.tuple das, d]) ∧ ∀ H', Same H H' → Q (.bl true) H'
theorem ok_right (T : Txt K mg) {k : Nat} : FnG P w K mg base (k + 5) T.f__law_right T.fd__law_right ["_law_acts", "_law_item"] sp_right := by
  have G__law_due := ok_due (P := P) (w := w) (base := base) T (k := k + 3)
  have G_is_guard := ok_is_guard (P := P) (w := w) (base := base) T (k := k)
  refine okG T.F__law_right sc__law_right (fun vs H Q E h => ?_) (fun cdv A outer s H vs Q E hgd hr h => ?_)
  · obtain ⟨t, as, das, v, d, rfl, _⟩ := h
    rfl
  obtain ⟨t, as, das, v, d, rfl, ht, hda, has, hd, ok, q⟩ := h
  refine ⟨_, (pss_cons (ps_par (i := 2) (j := 3) rfl sc__law_right.nd rfl rfl (by decide) rfl rfl (pa_cons (pe_callB (call_repr hgd hr) (by rfl) T.m_repr (by decide +kernel) (pa_cons (pe_tup (pa_cons (pv 0) (pa_cons (pv 1) pa_nil))) pa_nil)) (pa_cons (pe_callB (call_repr hgd hr) (by rfl) T.m_repr (by decide +kernel) (pa_cons (pe_call G__law_due hr (by rfl) T.g__law_due T.k__law_due T.b__law_due .nil pass0 (pa_cons (pe_callB call_len_seq (by rfl) T.m_len (by decide +kernel) (pa_cons (pv 0) pa_nil)) (pa_cons (pv 1) pa_nil))) pa_nil)) pa_nil)) (by rfl))
      (pss_cons (ps_for PassesOwn.never rfl (pi_tup (pe_tup (pa_cons (pe_call G_is_guard hr (by rfl) T.g_is_guard T.k_is_guard T.b_is_guard .nil pass0 (pa_cons (pv 0) (pa_cons (pv 1) pa_nil))) (pa_cons (pe_kw0 G_is_guard hr (by rfl) T.g_is_guard T.k_is_guard T.kb_is_guard (pk_cons (pv 1) (pk_cons (pv 0) pk_nil))) pa_nil)))) (pg_name (i := 4) sc__law_right.nd rfl (.inl rfl)) (pss_one (ps_if (pt_cmpR op_ne (pe_callB (call_repr hgd hr) (by rfl) T.m_repr (by decide +kernel) (pa_cons (pv 4) pa_nil)) (pv 3) (nomark _)) (pss_one (ps_ret pe_bl)) pss_nil)))
      (pss_one (ps_ret (pe_cmpR op_eq (pe_callB (call_repr hgd hr) (by rfl) T.m_repr (by decide +kernel) (pa_cons (pe_tup (pa_cons (pv 0) (pa_cons (pv 1) pa_nil))) pa_nil)) (pv 2) (nomark _)))))), ?_⟩
  have pair : ∀ {H' : Hp} {p : Addr}, H' p = some (.tup [.ref t, v]) → Same H H' → D true H' (.ref p) (.tuple [.tuple das, d]) := fun e s' => .tup e (.cons (.tup (s' _ _ ht) (hda.same s')) (.cons (hd.same s') .nil))
  refine ⟨_, rfl, _, rfl, (by show 2 ≤ sizeLine; decide), fun p1 n1 => ?_⟩
  have s1 := same_new (o := .tup [.ref t, v]) n1
  refine ⟨.ref p1, .tuple [.tuple das, d], true, rfl, pair upd_same s1, fun _ => rfl, ok, ?_⟩
  refine ⟨_, rfl, t, as, rfl, .inr (SqT.of (s1 _ _ ht)), _, rfl, v, d, true, as.length, rfl, hd.same s1, fun H2 s2 => ?_⟩
  have s12 := s1.trans s2
  refine ⟨_, .bool (guardD as.length d), false, rfl, .bl _, (fun z => nomatch z), ok_bool _, _, _, rfl, ?_⟩
  refine ⟨_, rfl, _, rfl, t, as, v, d, true, rfl, s12 _ _ ht, by omega, hd.same s12, fun H3 s3 => ?_⟩
  have s13 := s12.trans s3
  refine ⟨_, rfl, _, rfl, t, as, v, d, true, rfl, s13 _ _ ht, by omega, hd.same s13, fun H4 s4 => ?_⟩
  have s14 := s13.trans s4
  refine ⟨(by show 2 ≤ sizeLine; decide), fun p np => ?_⟩
  have s5 := same_new (o := .tup [.bl (guardD as.length d), .bl (guardD as.length d)]) np
  refine ⟨p, rfl, ⟨_, SqT.of upd_same⟩, for_tup (xs := [.bl (guardD as.length d), .bl (guardD as.length d)]) (fun i σ H' => Same H H' ∧ H' p = some (.tup [.bl (guardD as.length d), .bl (guardD as.length d)]) ∧ ∃ y, σ = [some (.ref t), some v, some (.str (PyData.shown (.tuple [.tuple das, d]))), some (.str (PyData.shown (.bool (guardD as.length d)))), y]) ⟨s14.trans s5, upd_same, _, rfl⟩ ?_ ?_ ?_⟩
  · rintro i σ H' _ ⟨_, e, _⟩
    exact SqT.of e
  · rintro i x σ H' hx ⟨s6, e, y, rfl⟩
    have ex : x = .bl (guardD as.length d) := by
      match i, hx with
      | 0, hx => exact (Option.some.inj hx).symm
      | 1, hx => exact (Option.some.inj hx).symm
      | n + 2, hx => simp at hx
    subst ex
    refine ⟨_, rfl, _, .bool (guardD as.length d), false, rfl, .bl _, (fun z => nomatch z), ok_bool _, _, rfl, rfl, _, rfl, ?_⟩
    rw [decide_eq_true rfl]
    exact iteF ⟨s6, e, _, rfl⟩
  · rintro σ H' ⟨s6, e, y, rfl⟩
    refine ⟨_, rfl, _, rfl, (by show 2 ≤ sizeLine; decide), fun p7 n7 => ?_⟩
    have s7 := same_new (o := .tup [.ref t, v]) n7
    refine ⟨.ref p7, .tuple [.tuple das, d], true, rfl, pair upd_same (s6.trans s7), fun _ => rfl, ok, _, rfl, rfl, ?_⟩
    rw [decide_eq_true rfl]
    exact q _ (s6.trans s7)
end

end Z

namespace Z
open PySem PySem.Spec PyProof.Rows L2 Lw

section
variable {P : Program} {w : World} {K : PySem.W.Frag} {mg : Str → Option Value} {base : Heap}
theorem remL_more {p : Addr} {as : List Addr} {H : Hp} {o : HO} (h : H p = none) : Same (remL as H) (remL (p :: as) (upd H p o)) := fun b u e => by
  obtain ⟨n, g⟩ := remL_some e
  have nb : b ≠ p := fun z => by
    rw [z, h] at g
    cases g
  rw [remL_ne (fun z => (List.mem_cons.mp z).elim nb n), upd_ne nb]
  exact g
theorem hd_tup {H : Hp} {a p : Addr} {n : Nat} {o : HO} (h : Hd H a n) (e : H p = some o) (ho : ∀ xs, o ≠ .lst xs) : p ≠ a := fun z => by
  obtain ⟨_, _, _, g, _⟩ := h
  rw [z, g] at e
  cases e
  exact ho _ rfl
theorem da_rep {H : Hp} {v : V} {d : PyData} (h : D true H v d) : ∀ n : Nat, DA true H (List.replicate n v) (List.replicate n d)
  | 0 => .nil
  | n + 1 => .cons h (da_rep h n)
theorem bd_rep {n m : Nat} {d : PyData} (h : Bd n m d) (k : Nat) : ∀ x ∈ List.replicate k d, Bd n m x := fun x hx => by
  rw [(List.mem_replicate.mp hx).2]
  exact h
def Good (L : List Addr) (H : Hp) (v : V) : Prop := ∃ d, D true (remL L H) v d ∧ Bd 10 20000 d
theorem Good.same {L : List Addr} {H H' : Hp} {v : V} (h : Good L H v) (s : Same (remL L H) (remL L H')) : Good L H' v := by
  obtain ⟨d, a, b⟩ := h
  exact ⟨d, a.same s, b⟩
theorem onto {Hs H H' : Hp} {hp : Addr} (s : Same Hs H) (k : Kp hp H H') (n : Hs hp = none) : Same Hs H' := fun b o e => k b o (fun z => by rw [z, n] at e; cases e) (s b o e)
structure Iv (hp sl t : Addr) (as : List V) (das : List PyData) (Hs H : Hp) (c m : Nat) : Prop where
  sm : Same Hs H
  hd : Hd H hp c
  tr : Trk [sl, hp] H
  et : H t = some (.tup as)
  da : DA true (remL [sl, hp] H) as das
  ex : ∃ vs, H sl = some (.lst vs) ∧ vs.length ≤ m ∧ ∀ v ∈ vs, Good [sl, hp] H v
theorem in_hp {sl hp : Addr} : hp ∈ [sl, hp] := List.mem_cons_of_mem _ List.mem_cons_self
theorem Iv.ne {hp sl t : Addr} {as : List V} {das : List PyData} {Hs H : Hp} {c m : Nat} (h : Iv hp sl t as das Hs H c m) : t ≠ hp ∧ t ≠ sl := by
  refine ⟨hd_tup h.hd h.et (by intro xs z; cases z), fun z => ?_⟩
  obtain ⟨vs, e, _⟩ := h.ex
  have := h.et
  rw [z, e] at this
  cases this
theorem Iv.kp {hp sl t : Addr} {as : List V} {das : List PyData} {Hs H H' : Hp} {c c' m : Nat} (h : Iv hp sl t as das Hs H c m) (nh : Hs hp = none) (ns : sl ≠ hp) (k : Kp hp H H') (g : Hd H' hp c') : Iv hp sl t as das Hs H' c' m := by
  obtain ⟨vs, e, l, go⟩ := h.ex
  exact ⟨onto h.sm k nh, g, h.tr.kp k g, k _ _ h.ne.1 h.et, h.da.same (k.remL in_hp), vs, k _ _ ns e, l, fun v hv => (go v hv).same (k.remL in_hp)⟩
theorem Iv.push {hp sl t : Addr} {as : List V} {das : List PyData} {Hs H : Hp} {c m : Nat} (h : Iv hp sl t as das Hs H c m) (nn : Hs sl = none) (ns : sl ≠ hp) {v : V} (go : Good [sl, hp] H v) :
    ∃ vs, H sl = some (.lst vs) ∧ vs.length ≤ m ∧ Iv hp sl t as das Hs (upd H sl (.lst (vs ++ [v]))) c (m + 1) := by
  obtain ⟨vs, e, l, gs⟩ := h.ex
  have up : Same (remL [sl, hp] H) (remL [sl, hp] (upd H sl (.lst (vs ++ [v])))) := remL_in List.mem_cons_self
  refine ⟨vs, e, l, ?_, h.hd.at ns, h.tr.at, by rw [upd_ne h.ne.2]; exact h.et, h.da.same up, _, upd_same, by rw [List.length_append, List.length_singleton]; omega, ?_⟩
  · intro b o q
    have nb : b ≠ sl := fun z => by
      rw [z, nn] at q
      cases q
    rw [upd_ne nb]
    exact h.sm b o q
  · intro u hu
    rcases List.mem_append.mp hu with z | z
    · exact (gs u z).same up
    · rw [List.mem_singleton.mp z]
      exact go.same up
theorem Iv.mono {hp sl t : Addr} {as : List V} {das : List PyData} {Hs H : Hp} {c m c' m' : Nat} (h : Iv hp sl t as das Hs H c m) (hc : c ≤ c') (hm : m ≤ m') : Iv hp sl t as das Hs H c' m' := by
  obtain ⟨vs, e, l, g⟩ := h.ex
  exact ⟨h.sm, h.hd.mono hc, h.tr, h.et, h.da, vs, e, Nat.le_trans l hm, g⟩
theorem pair_ok {x y : PyData} (hx : Bd 10 20000 x) (hy : Bd 10 20000 y) : Ok (.tuple [x, y]) := by
  refine (Bd.tuple (n := 10) (m := 20000) (k := 40002) (fun z hz => ?_) (by show 2 * 20001 ≤ 40002; decide)).ok (by decide) (by decide)
  rcases List.mem_cons.mp hz with e | e
  · rw [e]
    exact hx
  · rw [List.mem_singleton.mp e]
    exact hy
def sp_law (K : PySem.W.Frag) : Sp := fun vs H Q _ => ∃ (a : Addr) (ns : List Int), vs = [.ref a] ∧ SqL K H a (ns.map V.int) ∧ ns.length ≤ 63 ∧ ∀ H', Q (.bl true) H'
theorem ok_law (T : Txt K mg) {k : Nat} : FnG P w K mg base (k + 9) T.f_law T.fd_law ["_law_script"] (sp_law K) := by
  have G__law_hand := ok_hand (P := P) (w := w) (base := base) T (k := k + 7)
  have G__law_take := ok_take (P := P) (w := w) (base := base) T (k := k + 7)
  have G__law_names := ok_names (P := P) (w := w) (base := base) T (k := k + 5)
  have G__law_gate := ok_gate (P := P) (w := w) (base := base) T (k := k + 6)
  have G__law_bent := (ok_bent (P := P) (w := w) (base := base) T (k := k) 5).mono (show k + 3 + 5 ≤ k + 8 by omega)
  have G_free := ok_free (P := P) (w := w) (base := base) T (k := k + 7)
  have G__law_right := ok_right (P := P) (w := w) (base := base) T (k := k + 3)
  refine okG T.F_law sc_law (fun vs H Q E h => ?_) (fun cdv A outer s H vs Q E hgd hr h => ?_)
  · obtain ⟨a, ns, rfl, _⟩ := h
    rfl
  obtain ⟨a, ns, rfl, hS, h63, q⟩ := h
  refine ⟨_, (pss_cons (ps_for PassesOwn.never rfl (pi_range1 (by rfl) T.m_range (pa_cons (pe_op op_add pe_int (pe_callB (call_min2 rfl) (by rfl) T.m_min (by decide +kernel) (pa_cons pe_int (pa_cons (pe_callB call_len_seq (by rfl) T.m_len (by decide +kernel) (pa_cons (pv 0) pa_nil)) pa_nil)))) pa_nil)) (pg_name (i := 1) sc_law.nd rfl (.inl rfl)) (pss_cons (ps_set (i := 2) sc_law.nd rfl (.inr rfl) (pe_call G__law_hand hr (by rfl) T.g__law_hand T.k__law_hand T.b__law_hand .nil pass0 (pa_cons (pv 0) (pa_cons (pv 1) pa_nil))))
      (pss_cons (ps_set (i := 3) sc_law.nd rfl (.inl rfl) (pe_call G__law_names hr (by rfl) T.g__law_names T.k__law_names T.b__law_names .nil pass0 (pa_cons (pv 2) (pa_cons pe_int pa_nil))))
      (pss_cons (ps_set (i := 4) sc_law.nd rfl (.inr rfl) (pe_callTy call_tuple_of (by rfl) T.m_tuple (by decide +kernel) (pa_cons (pe_lc (own := [("_law_word", 11)]) (g := gName 11) (tt := tYes) rfl sc_law.nd (pi_list (pe_slice sl_list (pv 3) po_none (po_some (pe_op op_add pe_int (pe_call G__law_take hr (by rfl) T.g__law_take T.k__law_take T.b__law_take .nil pass0 (pa_cons (pv 2) (pa_cons pe_int pa_nil))))))) (blkOk_by (N := ["_law_script", "_law_nth", "_law_hand_here", "_law_words", "_law_acts", "_law_open_one", "_law_some", "_law_turn", "_law_gate_here", "_law_again", "_law_bent_here", "_law_word", "_law_item"]) (sc := defScope s_law) (by decide +kernel)) (fun _ _ _ _ _ => (pg_name (i := 11) sc_law.nd rfl (Or.inl rfl))) (fun _ _ _ _ _ => pts_nil) (fun _ _ _ _ _ => (pe_tup (pa_cons (pv 11) (pa_cons (pe_call G__law_take hr (by rfl) T.g__law_take T.k__law_take T.b__law_take .nil pass0 (pa_cons (pv 2) (pa_cons pe_int pa_nil))) pa_nil))))) pa_nil)))
      (pss_cons (ps_set (i := 5) sc_law.nd rfl (.inl rfl) (pe_tup (pa_cons (pe_op op_repU (pe_tup (pa_cons pe_int pa_nil)) (pe_callB call_len_seq (by rfl) T.m_len (by decide +kernel) (pa_cons (pv 4) pa_nil))) pa_nil)))
      (pss_cons (ps_if (PW.pt (pw_or (pt_cmpR op_ne (pe_callB (call_repr hgd hr) (by rfl) T.m_repr (by decide +kernel) (pa_cons (pe_call G_free hr (by rfl) T.g_free T.k_free T.b_free .nil pass0 (pa_cons (pv 4) pa_nil)) pa_nil)) (pe_callB (call_repr hgd hr) (by rfl) T.m_repr (by decide +kernel) (pa_cons (pv 5) pa_nil)) (nomark _)) (pw_or1 (pt_cmpR op_ne (pe_callB (call_repr hgd hr) (by rfl) T.m_repr (by decide +kernel) (pa_cons (pe_kw0 G_free hr (by rfl) T.g_free T.k_free T.kb_free (pk_cons (pv 4) pk_nil)) pa_nil)) (pe_callB (call_repr hgd hr) (by rfl) T.m_repr (by decide +kernel) (pa_cons (pv 5) pa_nil)) (nomark _))))) (pss_one (ps_ret pe_bl)) pss_nil)
      (pss_cons (ps_set (i := 6) sc_law.nd rfl (.inl rfl) (pe_lst (pa_cons pe_non (pa_cons (pe_tup pa_nil) (pa_cons (pe_lstN pa_nil) (pa_cons pe_dnewK (pa_cons pe_int (pa_cons pe_str (pa_cons (pe_tup (pa_cons (pe_tup pa_nil) pa_nil)) (pa_cons (pv 5) (pa_cons (pe_op op_repU (pv 5) pe_int) (pa_cons (pe_op op_repU (pv 5) pe_int) pa_nil))))))))))))
      (pss_cons (ps_expr (pe_bm PySem.F.plainAttrs_list PySem.F.slot_list_extend PySem.F.type_list_extend mt_extend (pv 6) (pa_cons (pe_lst (pa_cons (pe_lstN (pa_cons (pe_ix ix_tup (pv 5) pe_int (fun _ _ => rfl)) pa_nil)) (pa_cons (pe_tup (pa_cons (pe_op op_repU (pe_tup (pa_cons pe_non pa_nil)) (pe_callB call_len_seq (by rfl) T.m_len (by decide +kernel) (pa_cons (pv 4) pa_nil))) pa_nil)) pa_nil))) pa_nil)))
      (pss_cons (ps_for PassesOwn.never rfl (pi_range1 (by rfl) T.m_range (pa_cons pe_int pa_nil)) (pg_name (i := 7) sc_law.nd rfl (.inl rfl)) (pss_cons (ps_set (i := 8) sc_law.nd rfl (.inl rfl) (pe_call G__law_gate hr (by rfl) T.g__law_gate T.k__law_gate T.b__law_gate .nil pass0 (pa_cons (pv 2) (pa_cons (pv 4) (pa_cons pe_int pa_nil)))))
      (pss_cons (ps_expr (pe_bm PySem.F.plainAttrs_list PySem.F.slot_list_append PySem.F.type_list_append mt_append (pv 6) (pa_cons (pv 8) pa_nil)))
      (pss_one (ps_for PassesOwn.never rfl (pi_range1 (by rfl) T.m_range (pa_cons pe_int pa_nil)) (pg_name (i := 9) sc_law.nd rfl (.inl rfl)) (pss_cons (ps_set (i := 10) sc_law.nd rfl (.inl rfl) (pe_call G__law_bent hr (by rfl) T.g__law_bent T.k__law_bent T.b__law_bent .nil pass0 (pa_cons (pv 2) (pa_cons (pv 8) pa_nil))))
      (pss_one (ps_expr (pe_bm PySem.F.plainAttrs_list PySem.F.slot_list_append PySem.F.type_list_append mt_append (pv 6) (pa_cons (pe_ifExp (pt_cmpR op_eq (pe_call G__law_take hr (by rfl) T.g__law_take T.k__law_take T.b__law_take .nil pass0 (pa_cons (pv 2) (pa_cons pe_int pa_nil))) pe_int (nomark _)) (pe_call G__law_bent hr (by rfl) T.g__law_bent T.k__law_bent T.b__law_bent .nil pass0 (pa_cons (pv 2) (pa_cons (pv 10) pa_nil))) (pv 10)) pa_nil))))))))))
      (pss_one (ps_if (pt_not (pt_val (pe_callB (cr_all rfl) (by rfl) T.m_all (by decide +kernel) (pa_cons (pe_lc (own := [("_law_item", 12)]) (g := gName 12) (tt := tYes) rfl sc_law.nd (pi_list (pv 6)) (blkOk_by (N := ["_law_script", "_law_nth", "_law_hand_here", "_law_words", "_law_acts", "_law_open_one", "_law_some", "_law_turn", "_law_gate_here", "_law_again", "_law_bent_here", "_law_word", "_law_item"]) (sc := defScope s_law) (by decide +kernel)) (fun _ _ _ _ _ => (pg_name (i := 12) sc_law.nd rfl (Or.inl rfl))) (fun _ _ _ _ _ => pts_nil) (fun _ _ _ _ _ => (pe_callG G__law_right hgd hr (by rfl) T.g__law_right T.k__law_right T.b__law_right (pa_cons (pv 4) (pa_cons (pv 12) pa_nil))))) pa_nil)))) (pss_one (ps_ret pe_bl)) pss_nil)))))))))))
      (pss_one (ps_ret pe_bl))), ?_⟩
  have hl : (ns.map V.int).length = ns.length := List.length_map _
  refine ⟨_, rfl, a, _, rfl, .inl hS, _, _, rfl, _, _, rfl, rfl, _, rfl, ?_, ?_, for_range (lo := 0) (fun i σ H' => (∃ y1 y2 y3 y4 y5 y6 y7 y8 y9 yA yB yC, σ = [some (.ref a), y1, y2, y3, y4, y5, y6, y7, y8, y9, yA, yB, yC]) ∧ Same H H') ?_ ?_ ?_⟩
  · show -(2 ^ 62) ≤ 1 + (if (((ns.map V.int).length : Nat) : Int) < 3 then (((ns.map V.int).length : Nat) : Int) else 3)
    split <;> omega
  · show 1 + (if (((ns.map V.int).length : Nat) : Int) < 3 then (((ns.map V.int).length : Nat) : Int) else 3) < 2 ^ 62
    split <;> omega
  · exact ⟨⟨_, _, _, _, _, _, _, _, _, _, _, _, rfl⟩, Same.refl H⟩
  · rintro i σ Hs hi ⟨⟨y1, y2, y3, y4, y5, y6, y7, y8, y9, yA, yB, yC, rfl⟩, sS⟩
    have hi4 : i ≤ 4 := by
      have hi' : i < (1 + (if (((ns.map V.int).length : Nat) : Int) < 3 then (((ns.map V.int).length : Nat) : Int) else 3)).toNat := by simpa using hi
      split at hi' <;> omega
    have e0 : (0 : Int) + (i : Int) = ((i : Nat) : Int) := Int.zero_add _
    show tSeq _ _ _ _ _
    rw [e0]
    refine ⟨_, rfl, _, rfl, a, ns, i, rfl, sS.seq hS, by omega, fun hp Ha sa nhp ga => ?_⟩
    refine ⟨_, rfl, hp, 0, 4, rfl, ga, by decide, by decide, fun pw ws H2 n2 e2 l2 hw g2 k2 => ?_⟩
    -- the deeds
    have npw : pw ≠ hp := ga.new n2
    refine ⟨_, rfl, _, rfl, hp, 0 + 10, 4, rfl, g2, by decide, by decide, by decide, fun r H3 hr3 g3 k3 => ?_⟩
    refine ⟨_, _, rfl, rfl, _, rfl, pw, _, rfl, SqL.of (k3 _ _ npw e2), fun p4 n4 => ?_⟩
    have s4 := same_new (o := .lst (cutV (ws.map V.str) none (some (1 + (r : Int))))) n4
    have e4 : (upd H3 p4 (.lst (cutV (ws.map V.str) none (some (1 + (r : Int)))))) p4 = some (.lst (cutV (ws.map V.str) none (some (1 + (r : Int))))) := upd_same
    have g4 := g3.same s4
    have np4 : p4 ≠ hp := g3.new n4
    have sH4 : Same Hs (upd H3 p4 (.lst (cutV (ws.map V.str) none (some (1 + (r : Int)))))) := (onto (onto sa k2 nhp) k3 nhp).trans s4
    have ecut : cutV (ws.map V.str) none (some (1 + (r : Int))) = (ws.take (r + 1)).map V.str := by
      unfold cutV
      rw [HT.sIx_none, show (1 : Int) + (r : Int) = ((r + 1 : Nat) : Int) by omega, HT.sIx_nat, List.drop_zero, Nat.sub_zero, List.length_map, l2, Nat.min_eq_left (by omega), List.map_take]
    have hus : ∀ z ∈ ws.take (r + 1), Lt z ∧ z.length ≤ 8 := fun z hz => hw z (List.mem_of_mem_take hz)
    have hul : (ws.take (r + 1)).length = r + 1 := by
      rw [List.length_take]
      omega
    generalize ws.take (r + 1) = us at ecut hus hul
    rw [ecut] at e4 g4 sH4 ⊢
    clear s4
    generalize upd H3 p4 (.lst (us.map V.str)) = H4 at e4 g4 sH4 ⊢
    refine ⟨p4, rfl, ⟨_, SqL.of e4⟩, fun D1 n1 => ?_⟩
    have nD : D1 ≠ hp := g4.new n1
    have tD : Trk [D1, hp] (upd H4 D1 (.lst [])) := by
      intro b hb z
      rcases List.mem_cons.mp hb with e | e
      · rw [e, upd_same] at z
        cases z
      · obtain ⟨_, _, _, g, _⟩ := g4.same (same_new (o := .lst []) n1)
        rw [List.mem_singleton.mp e, g] at z
        cases z
    refine lc_list (xs := us.map V.str) (fun j H' => Hd H' hp (11 + j) ∧ Kp hp H4 H' ∧ Trk [D1, hp] H' ∧ ∃ acc, H' D1 = some (.lst acc) ∧ acc.length = j ∧ ∀ v ∈ acc, ∃ d, D true (remL [D1, hp] H') v d ∧ Bd 1 18 d) ?_ ?_ ?_ ?_
    · exact ⟨g4.same (same_new n1), Kp.of_same (same_new n1), tD, [], upd_same, rfl, fun v hv => by cases hv⟩
    · rintro j H' _ ⟨_, k5, _⟩
      exact SqL.of (k5 _ _ np4 e4)
    · rintro j x H5 hx ⟨g5, k5, t5, acc, ea, la, hacc⟩
      have hj := (List.getElem?_eq_some_iff.mp hx).1
      rw [List.length_map] at hj
      obtain ⟨z, hz, rfl⟩ := List.mem_map.mp (List.mem_of_getElem? hx)
      refine ⟨rfl, ?_⟩
      dsimp only [tYes]
      refine iteT ?_
      refine ⟨_, rfl, _, rfl, hp, _, 3, rfl, g5, by omega, by decide, by decide, fun r6 H6 hr6 g6 k6 => ?_⟩
      refine ⟨(by show 2 ≤ sizeLine; decide), fun q7 m7 => ?_⟩
      have s7 := same_new (o := .tup [.str z, .int (r6 : Int)]) m7
      have t6 := t5.kp k6 g6
      have up := (same_remL (as := [D1, hp]) s7).trans (remL_in (p := D1) (o := .lst (acc ++ [.ref q7])) List.mem_cons_self)
      refine ⟨acc, s7 _ _ (k6 _ _ nD ea), Nat.lt_of_le_of_lt (show acc.length ≤ 1000 by omega) (by decide), ((g6.same s7).at nD).mono (by omega), (k5.trans (k6.trans (Kp.of_same s7))).free n1, (t6.same s7).at, _, upd_same, by rw [List.length_append, la]; rfl, ?_⟩
      intro v hv
      rcases List.mem_append.mp hv with y | y
      · obtain ⟨d, h1, h2⟩ := hacc v y
        exact ⟨d, (h1.same (k6.remL in_hp)).same up, h2⟩
      · rw [List.mem_singleton.mp y]
        refine ⟨.tuple [.str z, .int (r6 : Int)], .tup (remL_in List.mem_cons_self _ _ (remL_new t6 m7)) (.cons (.str _) (.cons (.int _) .nil)), Bd.tuple (n := 0) (m := 8) (fun x hx => ?_) (by show 2 * 9 ≤ 18; decide)⟩
        rcases List.mem_cons.mp hx with e | e
        · rw [e]
          exact bd_str (hus z hz).1 (hus z hz).2
        · rw [List.mem_singleton.mp e]
          exact (Bd.small (n := 0) (by omega)).mono (Nat.le_refl _) (by decide)
    · rintro H5 ⟨g5, k5, t5, as, ea, la, hacc⟩
      rw [List.length_map, hul] at la g5
      refine ⟨D1, as, rfl, .inl ⟨SqL.of ea, fun t nt => ?_⟩⟩
      have s6 := same_new (o := .tup as) nt
      obtain ⟨das, dda, bda⟩ := da_of hacc
      have ldas := dda.length
      have et6 : (upd H5 t (.tup as)) t = some (.tup as) := upd_same
      have dda6 : DA true (remL [hp] (upd H5 t (.tup as))) as das := (dda.same remL_less).same (same_remL s6)
      have g6 : Hd (upd H5 t (.tup as)) hp 20 := (g5.same s6).mono (by omega)
      have sH6 := (onto sH4 k5 nhp).trans s6
      have bA : Bd 10 20000 (.tuple das) := (Bd.tuple (n := 1) (m := 18) (k := 100) bda (by omega)).mono (by decide) (by decide)
      have la1 : 1 ≤ as.length := by omega
      have la4 : as.length ≤ 4 := by omega
      generalize upd H5 t (.tup as) = H6 at et6 dda6 g6 sH6 ⊢
      -- the open one
      refine ⟨(by show 1 ≤ sizeLine; decide), fun q1 m1 => ?_⟩
      have s7 := same_new (o := .tup [.int 0]) m1
      refine ⟨_, rfl, t, as, rfl, .inr (SqT.of (s7 _ _ et6)), q1, _, _, rfl, rfl, upd_same, (by simp), by omega, by omega, (by show 1 ≤ 1000; decide), fun rr H7 s8 e8 _ => ?_⟩
      have erep : (List.replicate ((as.length : Int)).toNat [V.int 0]).flatten = List.replicate as.length (V.int 0) := by
        rw [show ((as.length : Int)).toNat = as.length by omega, rep_one]
      rw [erep] at e8
      refine ⟨(by show 1 ≤ sizeLine; decide), fun oo noo => ?_⟩
      have s9 := same_new (o := .tup [.ref rr]) noo
      have s69 := s7.trans (s8.trans s9)
      have eoo : (upd H7 oo (.tup [.ref rr])) oo = some (.tup [.ref rr]) := upd_same
      have err := s9 _ _ e8
      have et7 := s69 _ _ et6
      have dda7 := dda6.same (same_remL (as := [hp]) s69)
      have g7 := g6.same s69
      have sH7 := sH6.trans s69
      generalize upd H7 oo (.tup [.ref rr]) = H8 at eoo err et7 dda7 g7 sH7 ⊢
      clear s9 s69 s8 s7 e8
      have bR : Bd 1 24 (.tuple (List.replicate as.length (.int 0))) := Bd.tuple (n := 0) (m := 5) (bd_rep (Bd.small (by decide)) _) (by rw [List.length_replicate]; omega)
      have bN : Bd 2 24 (.tuple (List.replicate as.length .none)) := Bd.tuple (n := 1) (m := 5) (bd_rep (Bd.flat0 (.inl rfl) (by decide) (by decide)) _) (by rw [List.length_replicate]; omega)
      have bO : ∀ k : Nat, k ≤ 5 → Bd 10 20000 (.tuple (List.replicate k (.tuple (List.replicate as.length (.int 0))))) := fun k hk => (Bd.tuple (n := 1) (m := 24) (k := 125) (bd_rep bR _) (by rw [List.length_replicate]; omega)).mono (by decide) (by decide)
      have okO : Ok (.tuple [.tuple (List.replicate as.length (.int 0))]) := (bO 1 (by decide)).ok (by decide) (by decide)
      have dO : ∀ {H' : Hp} {p rp : Addr}, H' p = some (.tup [.ref rp]) → H' rp = some (.tup (List.replicate as.length (V.int 0))) → D true H' (.ref p) (.tuple [.tuple (List.replicate as.length (.int 0))]) := fun x y => .tup x (.cons (.tup y (da_rep (.int 0) _)) .nil)
      refine ⟨_, rfl, t, as, rfl, et7, la1, by omega, fun f1 r1 H9 ef er s9 => ?_⟩
      refine ⟨.ref f1, _, true, rfl, dO ef er, fun _ => rfl, okO, _, rfl, .ref oo, _, true, rfl, dO (s9 _ _ eoo) (s9 _ _ err), fun _ => rfl, okO, rfl, _, rfl, ?_⟩
      rw [decide_eq_true rfl]
      refine iteF ⟨_, rfl, t, as, rfl, s9 _ _ et7, la1, by omega, fun f2 r2 H10 ef2 er2 s10 => ?_⟩
      have s810 := s9.trans s10
      refine ⟨.ref f2, _, true, rfl, dO ef2 er2, fun _ => rfl, okO, _, rfl, .ref oo, _, true, rfl, dO (s810 _ _ eoo) (s810 _ _ err), fun _ => rfl, okO, rfl, _, rfl, ?_⟩
      rw [decide_eq_true rfl]
      refine iteF ?_
      have eo := s810 _ _ eoo
      have er := s810 _ _ err
      have et := s810 _ _ et7
      have da := dda7.same (same_remL (as := [hp]) s810)
      have g := g7.same s810
      have sH := sH7.trans s810
      clear s810 s10 s9 eoo err et7 dda7 g7 sH7 ef2 er2
      -- what stands in the list ahead
      refine ⟨(by show 0 ≤ sizeLine; decide), fun p1 n1 => ?_⟩
      have s1 := same_new (o := .tup []) n1
      refine ⟨(by show 0 ≤ sizeLine; decide), fun p2 n2 w2 => ?_⟩
      have s2 := same_new (o := .lst []) n2
      intro p3 n3
      have s3 := same_new (o := .dK []) n3
      refine ⟨(by show 0 ≤ sizeLine; decide), fun p4 n4 => ?_⟩
      have s4 := same_new (o := .tup []) n4
      refine ⟨(by show 1 ≤ sizeLine; decide), fun p5 n5 => ?_⟩
      have s5 := same_new (o := .tup [.ref p4]) n5
      have s15 := s1.trans (s2.trans (s3.trans (s4.trans s5)))
      refine ⟨_, rfl, _, rfl, oo, 4, [.ref rr], rfl, rfl, s15 _ _ eo, (by simp), by decide, by decide, (by show 1 ≤ 1000; decide), fun p6 H16 s6 e6 _ => ?_⟩
      have s16 := s15.trans s6
      refine ⟨_, rfl, oo, 5, [.ref rr], rfl, rfl, s16 _ _ eo, (by simp), by decide, by decide, (by show 1 ≤ 1000; decide), fun p7 H17 s7 e7 _ => ?_⟩
      have s17 := s16.trans s7
      refine ⟨(by show 10 ≤ sizeLine; decide), fun sl nsl => ?_⟩
      have s8 := same_new (o := .lst [.non, .ref p1, .ref p2, .ref p3, .int 0, .str "", .ref p5, .ref oo, .ref p6, .ref p7]) nsl
      have s18 := s17.trans s8
      have hsl : (upd H17 sl (.lst [.non, .ref p1, .ref p2, .ref p3, .int 0, .str "", .ref p5, .ref oo, .ref p6, .ref p7])) sl = some (.lst [.non, .ref p1, .ref p2, .ref p3, .int 0, .str "", .ref p5, .ref oo, .ref p6, .ref p7]) := upd_same
      have g18 := g.same s18
      have nslhp : sl ≠ hp := (g.same s17).new nsl
      have nslHs : Hs sl = none := (sH.trans s17).free nsl
      have notL : ∀ {p : Addr} {o : HO}, H17 p = some o → p ≠ sl := fun e z => by
        rw [z, nsl] at e
        cases e
      have f1' := (s2.trans (s3.trans (s4.trans (s5.trans (s6.trans s7))))) _ _ (upd_same (a := p1) (o := .tup []))
      have f2' := (s3.trans (s4.trans (s5.trans (s6.trans s7)))) _ _ (upd_same (a := p2) (o := .lst []))
      have f3' := (s4.trans (s5.trans (s6.trans s7))) _ _ (upd_same (a := p3) (o := .dK []))
      have f4' := (s5.trans (s6.trans s7)) _ _ (upd_same (a := p4) (o := .tup []))
      have f5' := (s6.trans s7) _ _ (upd_same (a := p5) (o := .tup [.ref p4]))
      have f6' := s7 _ _ e6
      have np2 : p2 ≠ hp := (g.same s1).new n2
      have eo17 := s17 _ _ eo
      have er17 := s17 _ _ er
      have et17 := s17 _ _ et
      have da17 := da.same (same_remL (as := [hp]) s17)
      have g17 := g.same s17
      have sH17 := sH.trans s17
      clear s1 s2 s3 s4 s5 s6 s15 s16 s7 s17 s18 n1 n2 n3 n4 n5 e6
      -- two more
      refine ⟨_, rfl, .inl ⟨rfl, _, SqL.of hsl⟩, _, rfl, oo, [.ref rr], 0, .ref rr, rfl, rfl, SqT.of (s8 _ _ eo17), rfl, (by show 1 ≤ sizeLine; decide), fun p9 n9 w9 => ?_⟩
      have s9 := same_new (o := .lst [.ref rr]) n9
      have np9 : p9 ≠ hp := g18.new n9
      have np9s : p9 ≠ sl := fun z => by
        rw [z, hsl] at n9
        cases n9
      refine ⟨(by show 1 ≤ sizeLine; decide), fun pA nA => ?_⟩
      have sA := same_new (o := .tup [.non]) nA
      have s8A := s8.trans (s9.trans sA)
      refine ⟨_, rfl, t, as, rfl, .inr (SqT.of (s8A _ _ et17)), pA, _, _, rfl, rfl, upd_same, (by simp), by omega, by omega, (by show 1 ≤ 1000; decide), fun pB HB sB eB _ => ?_⟩
      have erN : (List.replicate ((as.length : Int)).toNat [V.non]).flatten = List.replicate as.length V.non := by
        rw [show ((as.length : Int)).toNat = as.length by omega, rep_one]
      rw [erN] at eB
      refine ⟨(by show 1 ≤ sizeLine; decide), fun pC nC => ?_⟩
      have sC := same_new (o := .tup [.ref pB]) nC
      refine ⟨(by show 2 ≤ sizeLine; decide), fun tl ntl => ?_⟩
      have sT := same_new (o := .lst [.ref p9, .ref pC]) ntl
      have s9T := s9.trans (sA.trans (sB.trans (sC.trans sT)))
      have s8T := s8.trans s9T
      refine ⟨sl, tl, _, _, rfl, rfl, s9T _ _ hsl, upd_same, (by show 12 ≤ sizeLine; decide), ?_⟩
      have hF : (upd (upd (upd HB pC (.tup [.ref pB])) tl (.lst [.ref p9, .ref pC])) sl (.lst ([.non, .ref p1, .ref p2, .ref p3, .int 0, .str "", .ref p5, .ref oo, .ref p6, .ref p7] ++ [.ref p9, .ref pC]))) sl = some (.lst ([.non, .ref p1, .ref p2, .ref p3, .int 0, .str "", .ref p5, .ref oo, .ref p6, .ref p7] ++ [.ref p9, .ref pC])) := upd_same
      have stay : ∀ {p : Addr} {o : HO}, p ≠ sl → (upd (upd HB pC (.tup [.ref pB])) tl (.lst [.ref p9, .ref pC])) p = some o → (upd (upd (upd HB pC (.tup [.ref pB])) tl (.lst [.ref p9, .ref pC])) sl (.lst ([.non, .ref p1, .ref p2, .ref p3, .int 0, .str "", .ref p5, .ref oo, .ref p6, .ref p7] ++ [.ref p9, .ref pC]))) p = some o := fun n e => by
        rw [upd_ne n]
        exact e
      have gF : Hd (upd (upd (upd HB pC (.tup [.ref pB])) tl (.lst [.ref p9, .ref pC])) sl (.lst ([.non, .ref p1, .ref p2, .ref p3, .int 0, .str "", .ref p5, .ref oo, .ref p6, .ref p7] ++ [.ref p9, .ref pC]))) hp 20 := (g17.same s8T).at nslhp
      generalize (upd (upd (upd HB pC (.tup [.ref pB])) tl (.lst [.ref p9, .ref pC])) sl (.lst ([.non, .ref p1, .ref p2, .ref p3, .int 0, .str "", .ref p5, .ref oo, .ref p6, .ref p7] ++ [.ref p9, .ref pC]))) = HF at hF stay gF ⊢
      have low : ∀ {p : Addr} {o : HO}, H17 p = some o → HF p = some o := fun e => stay (notL e) (s8T _ _ e)
      have out : ∀ {p : Addr} {o : HO}, p ≠ sl → p ≠ hp → HF p = some o → remL [sl, hp] HF p = some o := fun n1 n2 e => by
        rw [remL_ne]
        · exact e
        · intro z
          rcases List.mem_cons.mp z with z | z
          · exact n1 z
          · exact n2 (List.mem_singleton.mp z)
      have tup : ∀ {p : Addr} {xs : List V}, HF p = some (.tup xs) → remL [sl, hp] HF p = some (.tup xs) := fun {p xs} e => out (fun z => by
        rw [z, hF] at e
        cases e) (hd_tup gF e (by intro xs z; cases z)) e
      have eB' : HF pB = some (.tup (List.replicate as.length V.non)) := stay (fun z => by
        have h1 := eB
        rw [z, (s9.trans (sA.trans sB)) _ _ hsl] at h1
        cases h1) ((sC.trans sT) _ _ eB)
      have eC' : HF pC = some (.tup [.ref pB]) := stay (fun z => by
        have h1 := (s9.trans (sA.trans sB)) _ _ hsl
        rw [z, h1] at nC
        cases nC) (sT _ _ upd_same)
      have e9' : HF p9 = some (.lst [.ref rr]) := stay np9s ((sA.trans (sB.trans (sC.trans sT))) _ _ upd_same)
      have dR : D true (remL [sl, hp] HF) (.ref rr) (.tuple (List.replicate as.length (.int 0))) := .tup (tup (low er17)) (da_rep (.int 0) _)
      have good : ∀ v ∈ ([.non, .ref p1, .ref p2, .ref p3, .int 0, .str "", .ref p5, .ref oo, .ref p6, .ref p7] ++ [.ref p9, .ref pC] : List V), Good [sl, hp] HF v := by
        intro v hv
        simp only [List.cons_append, List.nil_append, List.mem_cons, List.not_mem_nil, or_false] at hv
        rcases hv with e | e | e | e | e | e | e | e | e | e | e | e
        · subst e; exact ⟨.none, .non, Bd.flat0 (.inl rfl) (by decide) (by decide)⟩
        · subst e; exact ⟨.tuple [], .tup (tup (low f1')) .nil, Bd.flat0 (.inr (.inr (.inr (.inr (.inl rfl))))) (by decide) (by decide)⟩
        · subst e; exact ⟨.list [], .lst (out (notL f2') np2 (low f2')) (fun _ => w2) .nil, Bd.flat0 (.inr (.inr (.inr (.inr (.inr (.inl rfl)))))) (by decide) (by decide)⟩
        · subst e; exact ⟨.dict [], .dct (ds := []) (kvs := []) (out (notL f3') (hd_tup gF (low f3') (by intro xs z; cases z)) (low f3')) .nil, Bd.flat0 (.inr (.inr (.inr (.inr (.inr (.inr rfl)))))) (by decide) (by decide)⟩
        · subst e; exact ⟨.int 0, .int 0, (Bd.small (n := 10) (by decide)).mono (Nat.le_refl _) (by decide)⟩
        · subst e; exact ⟨.str "", .str _, Bd.flat0 (.inr (.inr (.inl rfl))) (by decide) (by decide)⟩
        · subst e
          refine ⟨.tuple [.tuple []], .tup (tup (low f5')) (.cons (.tup (tup (low f4')) .nil) .nil), (Bd.tuple (n := 1) (m := 1) (k := 2) (fun x hx => ?_) (by decide)).mono (by decide) (by decide)⟩
          rw [List.mem_singleton.mp hx]
          exact Bd.flat0 (.inr (.inr (.inr (.inr (.inl rfl))))) (by decide) (by decide)
        · subst e; exact ⟨_, .tup (tup (low eo17)) (.cons dR .nil), bO 1 (by decide)⟩
        · subst e; exact ⟨_, .tup (tup (low f6')) (da_rep dR 4), bO 4 (by decide)⟩
        · subst e; exact ⟨_, .tup (tup (low e7)) (da_rep dR 5), bO 5 (by decide)⟩
        · subst e
          refine ⟨.list [.tuple (List.replicate as.length (.int 0))], .lst (out np9s np9 e9') (fun _ => w9) (.cons dR .nil), (Bd.list (n := 1) (m := 24) (k := 25) (fun x hx => ?_) (by show 1 * 25 ≤ 25; decide)).mono (by decide) (by decide)⟩
          rw [List.mem_singleton.mp hx]
          exact bR
        · subst e
          refine ⟨.tuple [.tuple (List.replicate as.length .none)], .tup (tup eC') (.cons (.tup (tup eB') (da_rep .non _)) .nil), (Bd.tuple (n := 2) (m := 24) (k := 25) (fun x hx => ?_) (by show 1 * 25 ≤ 25; decide)).mono (by decide) (by decide)⟩
          rw [List.mem_singleton.mp hx]
          exact bN
      have smF : Same Hs HF := fun b o e => stay (fun z => by
        rw [z, nslHs] at e
        cases e) (s8T _ _ (sH17 _ _ e))
      have sRem : Same (remL [hp] H17) (remL [sl, hp] HF) := fun b o e => by
        obtain ⟨n, g⟩ := remL_some e
        exact out (notL g) (fun z => n (by rw [z]; exact List.mem_singleton_self _)) (low g)
      have trF : Trk [sl, hp] HF := by
        intro b hb z
        rcases List.mem_cons.mp hb with e | e
        · rw [e, hF] at z
          cases z
        · obtain ⟨_, _, _, g, _⟩ := gF
          rw [List.mem_singleton.mp e, g] at z
          cases z
      have iv : Iv hp sl t as das Hs HF 20 12 := ⟨smF, gF, trF, low et17, da17.same sRem, _, hF, (by show 12 ≤ 12; decide), good⟩
      clear good tup out low stay notL dR smF sRem trF hF gF eB' eC' e9' f1' f2' f3' f4' f5' f6' s8T s9T sT sC eB sB s8A sA s9 hsl s8
      have lt1000 : ∀ x : Nat, x ≤ 1000 → x < sizeLine := fun x h => Nat.lt_of_le_of_lt h (by decide)
      refine ⟨_, rfl, by decide, by decide, for_range (lo := 0) (fun j σ H' => (∃ y7 y8 y9 yA yB yC, σ = [some (.ref a), some (.int (i : Int)), some (.ref hp), some (.ref pw), some (.ref t), some (.ref oo), some (.ref sl), y7, y8, y9, yA, yB, yC]) ∧ Iv hp sl t as das Hs H' (20 + 150 * j) (12 + 4 * j)) ?_ ?_ ?_⟩
      · exact ⟨⟨_, _, _, _, _, _, rfl⟩, iv⟩
      · clear iv
        rintro j σ H1 hj ⟨⟨y7, y8, y9, yA, yB, yC, rfl⟩, iv1⟩
        refine ⟨_, rfl, _, rfl, hp, t, 20 + 150 * j, as, [sl, hp], rfl, iv1.hd, by omega, iv1.et, la4, in_hp, iv1.tr, fun gp gds H2 tp bd g2 k2 => ?_⟩
        have iv2 := iv1.kp nhp nslhp k2 g2
        obtain ⟨vs, ev, lv, iv3⟩ := iv2.push nslHs nslhp (v := .ref gp) ⟨_, tp.d, bd.mono (by decide) (by decide)⟩
        have dg : D true (remL [sl, hp] (upd H2 sl (.lst (vs ++ [.ref gp])))) (.ref gp) (.tuple gds) := tp.d.same (remL_in List.mem_cons_self)
        refine ⟨_, rfl, .inl ⟨rfl, _, SqL.of ev⟩, _, rfl, sl, vs, .ref gp, rfl, rfl, ev, lt1000 _ (by omega), ?_⟩
        generalize upd H2 sl (.lst (vs ++ [.ref gp])) = H3 at iv3 dg ⊢
        refine ⟨_, rfl, by decide, by decide, for_range (lo := 0) (fun m σ H' => (∃ y9 yA yB yC, σ = [some (.ref a), some (.int (i : Int)), some (.ref hp), some (.ref pw), some (.ref t), some (.ref oo), some (.ref sl), some (.int (0 + (j : Int))), some (.ref gp), y9, yA, yB, yC]) ∧ Iv hp sl t as das Hs H' (20 + 150 * j + 50 + 31 * m) (12 + 4 * j + 1 + m) ∧ D true (remL [sl, hp] H') (.ref gp) (.tuple gds)) ?_ ?_ ?_⟩
        · exact ⟨⟨_, _, _, _, rfl⟩, iv3, dg⟩
        · clear iv3 dg iv2 tp
          rintro m σ H4 hm ⟨⟨y9', yA', yB', yC', rfl⟩, iv4, dg⟩
          have hm3 : m < 3 := by omega
          have hj4 : j < 4 := by omega
          refine ⟨_, rfl, _, rfl, hp, _, [sl, hp], .ref gp, .tuple gds, 3, 100, rfl, iv4.hd, by omega, by decide, in_hp, iv4.tr, dg, bd, by decide, Nat.lt_of_le_of_lt bd.dp (by decide), fun v1 d1 H5 hD1 hB1 g5 k5 => ?_⟩
          have iv5 := iv4.kp nhp nslhp k5 g5
          have dg5 := dg.same (k5.remL in_hp)
          obtain ⟨vs5, ev5, _, _⟩ := iv5.ex
          refine ⟨_, rfl, .inl ⟨rfl, _, SqL.of ev5⟩, _, rfl, hp, _, 3, rfl, g5, by omega, by decide, by decide, fun r6 H6 hr6 g6 k6 => ⟨rfl, _, rfl, ite2 (fun _ => ?_) (fun _ => ?_)⟩⟩
          · have iv6 := iv5.kp nhp nslhp k6 g6
            have dg6 := dg5.same (k6.remL in_hp)
            refine ⟨_, rfl, _, rfl, hp, _, [sl, hp], v1, d1, 4, bw 5 100, rfl, g6, by omega, by decide, in_hp, iv6.tr, hD1.same (k6.remL in_hp), hB1, (by decide), Nat.lt_of_le_of_lt hB1.dp (by decide), fun v2 d2 H7 hD2 hB2 g7 k7 => ?_⟩
            have iv7 := iv6.kp nhp nslhp k7 g7
            have dg7 := dg6.same (k7.remL in_hp)
            obtain ⟨vs7, ev7, lv7, iv8⟩ := iv7.push nslHs nslhp (v := v2) ⟨_, hD2, hB2.mono (by decide) (by decide)⟩
            exact ⟨sl, vs7, v2, rfl, rfl, ev7, lt1000 _ (by omega), ⟨_, _, _, _, rfl⟩, iv8.mono (by omega) (by omega), dg7.same (remL_in List.mem_cons_self)⟩
          · have iv6 := iv5.kp nhp nslhp k6 g6
            have dg6 := dg5.same (k6.remL in_hp)
            obtain ⟨vs7, ev7, lv7, iv8⟩ := iv6.push nslHs nslhp (v := v1) ⟨_, hD1.same (k6.remL in_hp), hB1.mono (by decide) (by decide)⟩
            exact ⟨_, rfl, sl, vs7, v1, rfl, rfl, ev7, lt1000 _ (by omega), ⟨_, _, _, _, rfl⟩, iv8.mono (by omega) (by omega), dg6.same (remL_in List.mem_cons_self)⟩
        · rintro σ H' ⟨⟨y9', yA', yB', yC', rfl⟩, iv4, _⟩
          exact ⟨⟨_, _, _, _, _, _, rfl⟩, iv4.mono (by show 20 + 150 * j + 50 + 31 * 3 ≤ _; omega) (by show 12 + 4 * j + 1 + 3 ≤ _; omega)⟩
      · clear iv
        rintro σ H' ⟨⟨y7, y8, y9, yA, yB, yC, rfl⟩, iv⟩
        obtain ⟨vs, hvs, hlen, hgood⟩ := iv.ex
        have hlen' : vs.length ≤ 28 := hlen
        refine ⟨_, rfl, sl, rfl, ⟨_, SqL.of hvs⟩, fun ll nll => lc_list (xs := vs) (fun j H1 => Same H' H1 ∧ H1 ll = some (.lst (List.replicate j (V.bl true)))) ?_ ?_ ?_ ?_⟩
        · exact ⟨same_new nll, upd_same⟩
        · rintro j H1 _ ⟨s1, _⟩
          exact SqL.of (s1 _ _ hvs)
        · rintro j x H1 hx ⟨s1, e1⟩
          obtain ⟨d, hd, hb⟩ := hgood x (List.mem_of_getElem? hx)
          refine ⟨rfl, ?_⟩
          dsimp only [tYes]
          refine iteT ?_
          refine ⟨_, rfl, _, rfl, t, as, das, x, d, rfl, s1 _ _ iv.et, (iv.da.same remL_same).same s1, la4, (hd.same remL_same).same s1, pair_ok bA hb, fun H2 s2 => ⟨_, s2 _ _ e1, ?_, ?_, ?_⟩⟩
          · have hj := (List.getElem?_eq_some_iff.mp hx).1
            rw [List.length_replicate]
            exact lt1000 _ (by omega)
          · intro b o e
            have nb : b ≠ ll := fun z => by
              rw [z, nll] at e
              cases e
            rw [upd_ne nb]
            exact s2 _ _ (s1 _ _ e)
          · rw [upd_same, List.replicate_succ']
        · rintro H1 ⟨s1, e1⟩
          have e2 : List.replicate vs.length (V.bl true) = (List.replicate vs.length true).map V.bl := by rw [List.map_replicate]
          rw [e2] at e1
          refine ⟨ll, List.replicate vs.length true, rfl, SqL.of e1, _, rfl, ?_⟩
          have e3 : (List.replicate vs.length true).all id = true := by
            rw [List.all_eq_true]
            intro x hx
            exact (List.mem_replicate.mp hx).2
          rw [e3]
          exact iteF ⟨⟨_, _, _, _, _, _, _, _, _, _, _, _, rfl⟩, sS.trans (iv.sm.trans s1)⟩
  · rintro σ H' ⟨_, _⟩
    exact q H'
end

end Z

namespace Z
open PySem PySem.Spec PyProof.Rows L2 Lw
theorem kb_rel {vs zs : List V} {us ws : List Value} (r1 : Vals vs us) (r2 : Vals zs ws) : Vals (kbG vs zs) (kbG us ws) := by
  cases r1 with
  | nil =>
    cases r2 with
    | nil => exact .nil
    | cons a t =>
      cases t with
      | nil => exact .cons a .nil
      | cons b t =>
        cases t with
        | nil => exact .cons b (.cons a .nil)
        | cons c t => exact .cons a (.cons b (.cons c t))
  | cons a t => exact Vals.append (.cons a t) r2
set_option maxHeartbeats 0 in
theorem all_mk {l : PySem.W.OpenLaw} {w : World} {K : PySem.W.Frag} {h : Heap} {mg : Str → Option Value} {fa f0 f1 f2 f3 f4 f5 f6 f7 f8 f9 f10 f11 f12 f13 f14 : Addr} {od0 an0 od1 an1 od2 an2 od3 an3 od4 an4 od5 an5 od6 an6 od7 an7 od8 an8 od9 an9 od10 an10 od11 an11 od12 an12 od13 an13 od14 an14 : Option Addr} {sl0 sl1 sl2 sl3 sl4 sl5 sl6 sl7 sl8 sl9 sl10 sl11 sl12 sl13 sl14 : Array (Option Value)} {oc0 kV0 dc0 pm0 cd0 ct0 oc1 kV1 dc1 pm1 cd1 ct1 oc2 kV2 dc2 pm2 cd2 ct2 oc3 kV3 dc3 pm3 cd3 ct3 oc4 kV4 dc4 pm4 cd4 ct4 oc5 kV5 dc5 pm5 cd5 ct5 oc6 kV6 dc6 pm6 cd6 ct6 oc7 kV7 dc7 pm7 cd7 ct7 oc8 kV8 dc8 pm8 cd8 ct8 oc9 kV9 dc9 pm9 cd9 ct9 oc10 kV10 dc10 pm10 cd10 ct10 oc11 kV11 dc11 pm11 cd11 ct11 oc12 kV12 dc12 pm12 cd12 ct12 oc13 kV13 dc13 pm13 cd13 ct13 oc14 kV14 dc14 pm14 cd14 ct14 : Value}
    (X : K.In h) (G : h.Ns mainGlobals mg) (hfa : mg "law" = some (.ref fa))
    (a0 : PySem.W.nsIn K mainGlobals "is_whole" = some (some (.ref f0)))
    (l0 : K.lookup f0 = some ⟨oc0, od0, .func (PySem.W.fnOf "is_whole" "is_whole" (defArgs s_is_whole) (defBody s_is_whole) (defScope s_is_whole) .none kV0 dc0 pm0 an0 cd0 ct0), sl0⟩)
    (c0 : PySem.W.codeIn K cd0 "is_whole" = true) (k0 : PySem.W.keepIn K (.ref f0) = true)
    (a1 : PySem.W.nsIn K mainGlobals "is_within" = some (some (.ref f1)))
    (l1 : K.lookup f1 = some ⟨oc1, od1, .func (PySem.W.fnOf "is_within" "is_within" (defArgs s_is_within) (defBody s_is_within) (defScope s_is_within) .none kV1 dc1 pm1 an1 cd1 ct1), sl1⟩)
    (c1 : PySem.W.codeIn K cd1 "is_within" = true) (k1 : PySem.W.keepIn K (.ref f1) = true)
    (a2 : PySem.W.nsIn K mainGlobals "is_row" = some (some (.ref f2)))
    (l2 : K.lookup f2 = some ⟨oc2, od2, .func (PySem.W.fnOf "is_row" "is_row" (defArgs s_is_row) (defBody s_is_row) (defScope s_is_row) .none kV2 dc2 pm2 an2 cd2 ct2), sl2⟩)
    (c2 : PySem.W.codeIn K cd2 "is_row" = true) (k2 : PySem.W.keepIn K (.ref f2) = true)
    (a3 : PySem.W.nsIn K mainGlobals "is_guard" = some (some (.ref f3)))
    (l3 : K.lookup f3 = some ⟨oc3, od3, .func (PySem.W.fnOf "is_guard" "is_guard" (defArgs s_is_guard) (defBody s_is_guard) (defScope s_is_guard) .none kV3 dc3 pm3 an3 cd3 ct3), sl3⟩)
    (c3 : PySem.W.codeIn K cd3 "is_guard" = true) (k3 : PySem.W.keepIn K (.ref f3) = true)
    (a4 : PySem.W.nsIn K mainGlobals "is_place" = some (some (.ref f4)))
    (l4 : K.lookup f4 = some ⟨oc4, od4, .func (PySem.W.fnOf "is_place" "is_place" (defArgs s_is_place) (defBody s_is_place) (defScope s_is_place) .none kV4 dc4 pm4 an4 cd4 ct4), sl4⟩)
    (c4 : PySem.W.codeIn K cd4 "is_place" = true) (k4 : PySem.W.keepIn K (.ref f4) = true)
    (a5 : PySem.W.nsIn K mainGlobals "free" = some (some (.ref f5)))
    (l5 : K.lookup f5 = some ⟨oc5, od5, .func (PySem.W.fnOf "free" "free" (defArgs s_free) (defBody s_free) (defScope s_free) .none kV5 dc5 pm5 an5 cd5 ct5), sl5⟩)
    (c5 : PySem.W.codeIn K cd5 "free" = true) (k5 : PySem.W.keepIn K (.ref f5) = true)
    (a6 : PySem.W.nsIn K mainGlobals "_law_hand" = some (some (.ref f6)))
    (l6 : K.lookup f6 = some ⟨oc6, od6, .func (PySem.W.fnOf "_law_hand" "_law_hand" (defArgs s__law_hand) (defBody s__law_hand) (defScope s__law_hand) .none kV6 dc6 pm6 an6 cd6 ct6), sl6⟩)
    (c6 : PySem.W.codeIn K cd6 "_law_hand" = true) (k6 : PySem.W.keepIn K (.ref f6) = true)
    (a7 : PySem.W.nsIn K mainGlobals "_law_take" = some (some (.ref f7)))
    (l7 : K.lookup f7 = some ⟨oc7, od7, .func (PySem.W.fnOf "_law_take" "_law_take" (defArgs s__law_take) (defBody s__law_take) (defScope s__law_take) .none kV7 dc7 pm7 an7 cd7 ct7), sl7⟩)
    (c7 : PySem.W.codeIn K cd7 "_law_take" = true) (k7 : PySem.W.keepIn K (.ref f7) = true)
    (a8 : PySem.W.nsIn K mainGlobals "_law_of" = some (some (.ref f8)))
    (l8 : K.lookup f8 = some ⟨oc8, od8, .func (PySem.W.fnOf "_law_of" "_law_of" (defArgs s__law_of) (defBody s__law_of) (defScope s__law_of) .none kV8 dc8 pm8 an8 cd8 ct8), sl8⟩)
    (c8 : PySem.W.codeIn K cd8 "_law_of" = true) (k8 : PySem.W.keepIn K (.ref f8) = true)
    (a9 : PySem.W.nsIn K mainGlobals "_law_names" = some (some (.ref f9)))
    (l9 : K.lookup f9 = some ⟨oc9, od9, .func (PySem.W.fnOf "_law_names" "_law_names" (defArgs s__law_names) (defBody s__law_names) (defScope s__law_names) .none kV9 dc9 pm9 an9 cd9 ct9), sl9⟩)
    (c9 : PySem.W.codeIn K cd9 "_law_names" = true) (k9 : PySem.W.keepIn K (.ref f9) = true)
    (a10 : PySem.W.nsIn K mainGlobals "_law_gate" = some (some (.ref f10)))
    (l10 : K.lookup f10 = some ⟨oc10, od10, .func (PySem.W.fnOf "_law_gate" "_law_gate" (defArgs s__law_gate) (defBody s__law_gate) (defScope s__law_gate) .none kV10 dc10 pm10 an10 cd10 ct10), sl10⟩)
    (c10 : PySem.W.codeIn K cd10 "_law_gate" = true) (k10 : PySem.W.keepIn K (.ref f10) = true)
    (a11 : PySem.W.nsIn K mainGlobals "_law_due" = some (some (.ref f11)))
    (l11 : K.lookup f11 = some ⟨oc11, od11, .func (PySem.W.fnOf "_law_due" "_law_due" (defArgs s__law_due) (defBody s__law_due) (defScope s__law_due) .none kV11 dc11 pm11 an11 cd11 ct11), sl11⟩)
    (c11 : PySem.W.codeIn K cd11 "_law_due" = true) (k11 : PySem.W.keepIn K (.ref f11) = true)
    (a12 : PySem.W.nsIn K mainGlobals "_law_bent" = some (some (.ref f12)))
    (l12 : K.lookup f12 = some ⟨oc12, od12, .func (PySem.W.fnOf "_law_bent" "_law_bent" (defArgs s__law_bent) (defBody s__law_bent) (defScope s__law_bent) .none kV12 dc12 pm12 an12 cd12 ct12), sl12⟩)
    (c12 : PySem.W.codeIn K cd12 "_law_bent" = true) (k12 : PySem.W.keepIn K (.ref f12) = true)
    (a13 : PySem.W.nsIn K mainGlobals "_law_right" = some (some (.ref f13)))
    (l13 : K.lookup f13 = some ⟨oc13, od13, .func (PySem.W.fnOf "_law_right" "_law_right" (defArgs s__law_right) (defBody s__law_right) (defScope s__law_right) .none kV13 dc13 pm13 an13 cd13 ct13), sl13⟩)
    (c13 : PySem.W.codeIn K cd13 "_law_right" = true) (k13 : PySem.W.keepIn K (.ref f13) = true)
    (a14 : PySem.W.nsIn K mainGlobals "law" = some (some (.ref f14)))
    (l14 : K.lookup f14 = some ⟨oc14, od14, .func (PySem.W.fnOf "law" "law" (defArgs s_law) (defBody s_law) (defScope s_law) .none kV14 dc14 pm14 an14 cd14 ct14), sl14⟩)
    (c14 : PySem.W.codeIn K cd14 "law" = true) (k14 : PySem.W.keepIn K (.ref f14) = true)
    (z0 : PySem.W.nsIn K mainGlobals "abs" = some none)
    (z1 : PySem.W.nsIn K mainGlobals "all" = some none)
    (z2 : PySem.W.nsIn K mainGlobals "bool" = some none)
    (z3 : PySem.W.nsIn K mainGlobals "int" = some none)
    (z4 : PySem.W.nsIn K mainGlobals "isinstance" = some none)
    (z5 : PySem.W.nsIn K mainGlobals "len" = some none)
    (z6 : PySem.W.nsIn K mainGlobals "list" = some none)
    (z7 : PySem.W.nsIn K mainGlobals "min" = some none)
    (z8 : PySem.W.nsIn K mainGlobals "range" = some none)
    (z9 : PySem.W.nsIn K mainGlobals "repr" = some none)
    (z10 : PySem.W.nsIn K mainGlobals "tuple" = some none)
    {tk0 : Tok} (y0 : PySem.W.nsIn K mainGlobals "MOST_PLACES" = some (some (.int 4 tk0))) :
    ∃ fd : FuncData, (∀ (s : Shared) (v : Value), BindsTo s fd ⟨[v], []⟩ [("_law_script", v)]) ∧ ∀ base : Heap, K.In base → base.Ns mainGlobals mg → FnG l.prog w K mg base 9 fa fd ["_law_script"] (sp_law K) := by
  have e := hfa.symm.trans (PySem.W.mg_of X G a14)
  cases e
  have F0 := fun_mk (st := s_is_whole) l0 c0 k0
  have b0 := F0.binds (ps := ["thing"]) fun _ _ _ _ _ _ us hl => match us, hl with | [_], _ => rfl
  have F1 := fun_mk (st := s_is_within) l1 c1 k1
  have b1 := F1.binds (ps := ["thing", "least", "most"]) fun _ _ _ _ _ _ us hl => match us, hl with | [_, _, _], _ => rfl
  have F2 := fun_mk (st := s_is_row) l2 c2 k2
  have b2 := F2.binds (ps := ["thing", "least", "most"]) fun _ _ _ _ _ _ us hl => match us, hl with | [_, _, _], _ => rfl
  have F3 := fun_mk (st := s_is_guard) l3 c3 k3
  have b3 := F3.binds (ps := ["deeds", "thing"]) fun _ _ _ _ _ _ us hl => match us, hl with | [_, _], _ => rfl
  have F4 := fun_mk (st := s_is_place) l4 c4 k4
  have b4 := F4.binds (ps := ["deeds", "places", "thing"]) fun _ _ _ _ _ _ us hl => match us, hl with | [_, _, _], _ => rfl
  have F5 := fun_mk (st := s_free) l5 c5 k5
  have b5 := F5.binds (ps := ["deeds"]) fun _ _ _ _ _ _ us hl => match us, hl with | [_], _ => rfl
  have F6 := fun_mk (st := s__law_hand) l6 c6 k6
  have b6 := F6.binds (ps := ["_law_script", "_law_nth"]) fun _ _ _ _ _ _ us hl => match us, hl with | [_, _], _ => rfl
  have F7 := fun_mk (st := s__law_take) l7 c7 k7
  have b7 := F7.binds (ps := ["_law_hand_here", "_law_upon"]) fun _ _ _ _ _ _ us hl => match us, hl with | [_, _], _ => rfl
  have F8 := fun_mk (st := s__law_of) l8 c8 k8
  have b8 := F8.binds (ps := ["_law_hand_here", "_law_some"]) fun _ _ _ _ _ _ us hl => match us, hl with | [_, _], _ => rfl
  have F9 := fun_mk (st := s__law_names) l9 c9 k9
  have b9 := F9.binds (ps := ["_law_hand_here", "_law_count"]) fun _ _ _ _ _ _ us hl => match us, hl with | [_, _], _ => rfl
  have F10 := fun_mk (st := s__law_gate) l10 c10 k10
  have b10 := F10.binds (ps := ["_law_hand_here", "_law_acts", "_law_most_places"]) fun _ _ _ _ _ _ us hl => match us, hl with | [_, _, _], _ => rfl
  have F11 := fun_mk (st := s__law_due) l11 c11 k11
  have b11 := F11.binds (ps := ["_law_size", "_law_item"]) fun _ _ _ _ _ _ us hl => match us, hl with | [_, _], _ => rfl
  have F12 := fun_mk (st := s__law_bent) l12 c12 k12
  have b12 := F12.binds (ps := ["_law_hand_here", "_law_item"]) fun _ _ _ _ _ _ us hl => match us, hl with | [_, _], _ => rfl
  have F13 := fun_mk (st := s__law_right) l13 c13 k13
  have b13 := F13.binds (ps := ["_law_acts", "_law_item"]) fun _ _ _ _ _ _ us hl => match us, hl with | [_, _], _ => rfl
  have F14 := fun_mk (st := s_law) l14 c14 k14
  have b14 := F14.binds (ps := ["_law_script"]) fun _ _ _ _ _ _ us hl => match us, hl with | [_], _ => rfl
  let T : Txt K mg := {
    f_is_whole := f0, fd_is_whole := _, F_is_whole := F0, g_is_whole := PySem.W.mg_of X G a0, b_is_whole := b0,
    f_is_within := f1, fd_is_within := _, F_is_within := F1, g_is_within := PySem.W.mg_of X G a1, b_is_within := b1,
    f_is_row := f2, fd_is_row := _, F_is_row := F2, g_is_row := PySem.W.mg_of X G a2, b_is_row := b2,
    f_is_guard := f3, fd_is_guard := _, F_is_guard := F3, g_is_guard := PySem.W.mg_of X G a3, b_is_guard := b3,
    f_is_place := f4, fd_is_place := _, F_is_place := F4, g_is_place := PySem.W.mg_of X G a4, b_is_place := b4,
    f_free := f5, fd_free := _, F_free := F5, g_free := PySem.W.mg_of X G a5, b_free := b5,
    f__law_hand := f6, fd__law_hand := _, F__law_hand := F6, g__law_hand := PySem.W.mg_of X G a6, b__law_hand := b6,
    f__law_take := f7, fd__law_take := _, F__law_take := F7, g__law_take := PySem.W.mg_of X G a7, b__law_take := b7,
    f__law_of := f8, fd__law_of := _, F__law_of := F8, g__law_of := PySem.W.mg_of X G a8, b__law_of := b8,
    f__law_names := f9, fd__law_names := _, F__law_names := F9, g__law_names := PySem.W.mg_of X G a9, b__law_names := b9,
    f__law_gate := f10, fd__law_gate := _, F__law_gate := F10, g__law_gate := PySem.W.mg_of X G a10, b__law_gate := b10,
    f__law_due := f11, fd__law_due := _, F__law_due := F11, g__law_due := PySem.W.mg_of X G a11, b__law_due := b11,
    f__law_bent := f12, fd__law_bent := _, F__law_bent := F12, g__law_bent := PySem.W.mg_of X G a12, b__law_bent := b12,
    f__law_right := f13, fd__law_right := _, F__law_right := F13, g__law_right := PySem.W.mg_of X G a13, b__law_right := b13,
    f_law := fa, fd_law := _, F_law := F14, g_law := PySem.W.mg_of X G a14, b_law := b14,
    kb_is_guard := ⟨fun s us ws _ hl => match us, ws, hl with | [], [_, _], _ => .of_eq rfl | [_], [_], hl => .of_eq rfl | [_, _], [], _ => .of_eq rfl | [], [], hl => nomatch hl | [], [_], hl => nomatch hl | [], _ :: _ :: _ :: _, hl => absurd hl (by simp [kbG]) | [_], [], hl => nomatch hl | [_], _ :: _ :: _, hl => absurd hl (by simp [kbG]) | [_, _], _ :: _, hl => absurd hl (by simp [kbG]) | _ :: _ :: _ :: _, _, hl => absurd hl (by simp [kbG]), fun r1 r2 => kb_rel r1 r2⟩,
    kb_free := ⟨fun s us ws _ hl => match us, ws, hl with | [], [_], _ => .of_eq rfl | [_], [], _ => .of_eq rfl | [], [], hl => nomatch hl | [], _ :: _ :: _, hl => absurd hl (by simp) | [_], _ :: _, hl => absurd hl (by simp) | _ :: _ :: _, _, hl => absurd hl (by simp), fun r1 r2 => r1.append r2⟩,
    m_abs := PySem.W.mg_none_of X G z0,
    m_all := PySem.W.mg_none_of X G z1,
    m_bool := PySem.W.mg_none_of X G z2,
    m_int := PySem.W.mg_none_of X G z3,
    m_isinstance := PySem.W.mg_none_of X G z4,
    m_len := PySem.W.mg_none_of X G z5,
    m_list := PySem.W.mg_none_of X G z6,
    m_min := PySem.W.mg_none_of X G z7,
    m_range := PySem.W.mg_none_of X G z8,
    m_repr := PySem.W.mg_none_of X G z9,
    m_tuple := PySem.W.mg_none_of X G z10,
    m_MOST_PLACES := ⟨_, PySem.W.mg_of X G y0, ⟨_, rfl⟩⟩ }
  exact ⟨T.fd_law, fun s v => .of_eq rfl, fun base _ _ => ok_law (k := 0) T⟩
end Z
open PySem PySem.W PyProof.Rows
set_option maxHeartbeats 0 in
theorem PySem.Challenge.cw_stilltold_k08_guards_of_anything_holds : PySem.Challenge.rw_stilltold_k08_guards_of_anything.Holds := by
  w_on; o_law; k_head; (case hw => w_witness2)
  k_fill
  refine Lw.walkG (l := PySem.Challenge.rw_stilltold_k08_guards_of_anything) (n := 63) (k := 9) (x := "_law_script") (sp := Z.sp_law) rfl (by decide) rfl ⟨rfl, by decide, by decide⟩ (fun w h Y => PySem.W.kIn_of Y) ?F (fun K _ a ns hl _ hS => ⟨a, ns, rfl, hS, hl, fun _ => rfl⟩)
  case F =>
    intro w mg fa h KX G hmg
    refine' Z.all_mk KX G hmg ?a0 ?l0 ?c0 ?k0 ?a1 ?l1 ?c1 ?k1 ?a2 ?l2 ?c2 ?k2 ?a3 ?l3 ?c3 ?k3 ?a4 ?l4 ?c4 ?k4 ?a5 ?l5 ?c5 ?k5 ?a6 ?l6 ?c6 ?k6 ?a7 ?l7 ?c7 ?k7 ?a8 ?l8 ?c8 ?k8 ?a9 ?l9 ?c9 ?k9 ?a10 ?l10 ?c10 ?k10 ?a11 ?l11 ?c11 ?k11 ?a12 ?l12 ?c12 ?k12 ?a13 ?l13 ?c13 ?k13 ?a14 ?l14 ?c14 ?k14 ?z0 ?z1 ?z2 ?z3 ?z4 ?z5 ?z6 ?z7 ?z8 ?z9 ?z10 ?y0
    (case a0 => k_is); (case l0 => k_is); (case c0 => k_is); (case k0 => k_is); (case a1 => k_is); (case l1 => k_is); (case c1 => k_is); (case k1 => k_is); (case a2 => k_is); (case l2 => k_is); (case c2 => k_is); (case k2 => k_is); (case a3 => k_is); (case l3 => k_is); (case c3 => k_is); (case k3 => k_is); (case a4 => k_is); (case l4 => k_is); (case c4 => k_is); (case k4 => k_is); (case a5 => k_is); (case l5 => k_is); (case c5 => k_is); (case k5 => k_is); (case a6 => k_is); (case l6 => k_is); (case c6 => k_is); (case k6 => k_is); (case a7 => k_is); (case l7 => k_is); (case c7 => k_is); (case k7 => k_is); (case a8 => k_is); (case l8 => k_is); (case c8 => k_is); (case k8 => k_is); (case a9 => k_is); (case l9 => k_is); (case c9 => k_is); (case k9 => k_is); (case a10 => k_is); (case l10 => k_is); (case c10 => k_is); (case k10 => k_is); (case a11 => k_is); (case l11 => k_is); (case c11 => k_is); (case k11 => k_is); (case a12 => k_is); (case l12 => k_is); (case c12 => k_is); (case k12 => k_is); (case a13 => k_is); (case l13 => k_is); (case c13 => k_is); (case k13 => k_is); (case a14 => k_is); (case l14 => k_is); (case c14 => k_is); (case k14 => k_is); (case z0 => k_is); (case z1 => k_is); (case z2 => k_is); (case z3 => k_is); (case z4 => k_is); (case z5 => k_is); (case z6 => k_is); (case z7 => k_is); (case z8 => k_is); (case z9 => k_is); (case z10 => k_is); (case y0 => k_is)
