import PyProof.Rows.All
import Wide.All
import OpenK.AllK
import Wide.FinOn
import HandS.ForMost
import HandS.IsInst
import HandS.Wide
import HandS.Deep
import HandS.TupAny
import HandS.Flow
import HandS.EndBits
import PyProof.ReprRoads
import PyProof.ReprLen
import HandS.Style
import HandS.Sort
import HandS.SortOrd
import HandS.SortRule
import HandS.SortKw
import HandS.Zip
import HandS.TupMul
import HandS.Text
import HandS.Codes
import KE.DataCmp
import KE.DataFind
import HandS.Set
import KE.DataEq
import PyProof.Rows.IntBool
import PyProof.CallStr
import PyProof.Rows.ReprOcc
import HandS.Iter
import KE.GoesMore
import PyProof.StrLawsIn
import HandS.CallLocal
import HandS.Star
import KE.SortData
import HandS.Defaults
import PySem.Challenge.RW_stilltold_k19_bars_and_shadows_of_anythi
set_option Elab.async false
set_option linter.all false
set_option maxRecDepth 100000
namespace Lw
open PySem PySem.Spec PyProof.Rows L2

/-! ### defs that call repr: what no repr is under way around -/
structure FnG (P : Program) (w : World) (K : PySem.W.Frag) (mg : Str → Option Value) (base : Heap) (k : Nat) (f : Addr) (fd : FuncData) (ps : List Str) (sp : Sp) : Prop where
  lenG : ∀ vs H Q E, sp vs H Q E → vs.length = ps.length
  runG : ∀ (A : Around) (outer : List Env) (s : Shared) (H : Hp) (args : Args) (us : List Value) (vs : List V) (Q : VK) (E : XK), A.guards = some [] →
    Room k A → Env0 P w K mg base A outer s H → BindsTo s fd args (ps.zip us) → Vals vs us → sp vs H Q E →
    codeAny (model P w) A (.call (.ref f) args) (CR CX0 outer P w H s Q E) s

theorem FnG.ofOk {P : Program} {w : World} {K : PySem.W.Frag} {mg : Str → Option Value} {base : Heap} {k : Nat} {f : Addr} {fd : FuncData} {ps : List Str} {sp : Sp}
    (F : FnOk P w K mg base CX0 k f fd ps sp) : FnG P w K mg base k f fd ps sp :=
  ⟨F.len, fun A outer s H args us vs Q E _ => F.run A outer s H args us vs Q E⟩

section
variable {P : Program} {w : World} {K : PySem.W.Frag} {mg : Str → Option Value} {base : Heap}
theorem okG {x qual : Str} {st : Stmt} {f : Addr} {fd : FuncData} {N ps : List Str} {k : Nat} {sp : Sp}
    (F : Fun K x qual st f fd) (S : FnScope N ps (defScope st)) (len : ∀ vs H Q E, sp vs H Q E → vs.length = ps.length)
    (body : ∀ (cdv : Value) (A : Around) (outer : List Env) (s : Shared) (H : Hp) (vs : List V) (Q : VK) (E : XK), A.guards = some [] →
      Room k (A.deeper (envOfC qual (defScope st) s.heap.objs.size f cdv)) → sp vs H Q E →
      ∃ t, PSs (cxOf CX0 P w K mg base N qual (defScope st) f cdv A outer s H E).nox (defBody st) t ∧
        t { nx := fun _ H' => Q .non H', rt := Q } (start N vs) H) :
    FnG P w K mg base (k + 1) f fd ps sp := by
  obtain ⟨oc, od, kV, doc, pm, an, cdv, ct, osl, rfl, lk, hcd⟩ := F.ex
  refine ⟨len, ?_⟩
  intro A outer s H args us vs Q E hgd room e0 bt rv hs
  have hlen := len vs H Q E hs
  have inK : K.In s.heap :=
    e0.mod.kin.keeps fun b o e => (e0.bs b o e).1
  have noLim : s.heap.NoLimit :=
    e0.mod.nolimit.keeps fun b o e => (e0.bs b o e).1
  have kinds : ∀ y ∈ ps.zip us, (defScope st).names.lookup y.1 = some .local ∨
      ((defScope st).names.lookup y.1 = some .cell ∧ ((cellsFrom (s.heap.objs.size + 1) (defScope st).names []).lookup y.1).isSome = true) := by
    rintro ⟨n, v⟩ hy
    rcases S.par n (List.of_mem_zip hy).1 with q | q
    · exact Or.inl q
    · exact Or.inr ⟨q, PySem.W.cellsFrom_some _ _ _ (Or.inl q)⟩
  refine codeAny_call_function room.depth (inK _ _ lk) rfl S.co S.gen rfl (PySem.W.codeRec_of inK hcd) (bt _ _ _ _ ?_)
  refine wpAny_newFunctionEnv_cells S.kind kinds ?_
  intro env henv s1 ic
  subst henv
  refine ⟨noLim.keeps ic.toInCall.keep, codeAny_func ?_⟩
  obtain ⟨t, pt, ht⟩ := body cdv A outer s H vs Q E hgd (room.deeper _) hs
  have I := inv_start (CX := CX0) (E := E) S room.hd e0 hlen rv ic
  refine wpAny_mono (pt.nox.run [] s1 (start N vs) H _ I ht) ?_ (fun _ _ z => z)
  intro fl s' z
  cases fl with
  | ret u =>
    obtain ⟨v, σ', H', J, r', q⟩ := z
    exact ⟨v, H', J.os, J.bare, J.base, J.hok, r', q⟩
  | next =>
    obtain ⟨σ', H', J, q⟩ := z
    exact ⟨V.non, H', J.os, J.bare, J.base, J.hok, rfl, q⟩
  | brk => exact (z.elim fun _ z => z.elim fun _ z => z.2).elim
  | cont => exact (z.elim fun _ z => z.elim fun _ z => z.2).elim
end

section
variable {X : Cx} {k : Nat} {f : Addr} {fd : FuncData} {ps : List Str} {sp : Sp} {x : Str} {p pos : Pos} {e : Expr} {es : List Expr} {t : TA}
theorem pe_callG (F : FnG X.prog X.w X.K X.mg X.base k f fd ps sp) (hgd : X.A.guards = some []) (room : Room k X.A) (hg : Gl X x) (hm : X.mg x = some (.ref f))
    (hk : PySem.W.keepIn X.K (.ref f) = true) (hb : Binds X.K fd ps []) (ha : PA X (e :: es) t)
    (hdb : (x == ("__debug__" : Str)) = false := by decide) (he : starEach (e :: es) X.env = (false, eval e X.env) :: starEach es X.env := by rfl)
    (hpl : (backTo pos (starEach es X.env)).any (·.1) = false := by rfl) : PE X (.Call (.Name x p) (e :: es) [] pos) (tCall sp [] E0 t) := by
  refine ⟨fun pins s σ H Q I h => wpAny_Call_Name_kw (ld_glob I hg hm ?_ hdb)⟩
  refine PySem.W.callWith_K (h₀ := X.base) I.ok.mod.kin hk ?_ he hpl
  refine thn (ha.run pos pins s σ H _ I h) ?_
  rintro us s1 ⟨vs, H1, I1, r, q⟩
  refine ⟨I1.kIn, ?_⟩
  have q' : sp (vs ++ []) H1 Q E0 := q
  rw [List.append_nil] at q'
  have hl : us.length = ps.length := by
    rw [← r.length]
    exact F.lenG _ _ _ _ q'
  have bt : BindsTo s1 fd ⟨us, []⟩ (ps.zip us) := by
    have := hb s1 us I1.kIn (by rw [List.append_nil]; exact hl)
    rw [List.append_nil] at this
    exact this
  refine wpAny_call (codeAny_mono (F.runG X.A X.stack s1 H1 ⟨us, []⟩ us vs Q E0 hgd room I1.env0 bt r q') ?_)
  intro r' s' hq
  cases r' with
  | error e => exact False.elim hq
  | ok fl =>
    cases fl with
    | ret u => exact I1.after hq
    | next => exact False.elim hq
    | brk => exact False.elim hq
    | cont => exact False.elim hq

/-! ### a call by keywords alone -/
theorem pe_kw0 {kws : List Keyword} {ks : List Str} {tk : TA} {g : List Value → List Value → List Value} {gV : List V → List V → List V}
    (F : FnOk X.prog X.w X.K X.mg X.base CX0 k f fd ps sp) (room : Room k X.A) (hg : Gl X x) (hm : X.mg x = some (.ref f)) (hk : PySem.W.keepIn X.K (.ref f) = true)
    (hb : KBinds X.K fd ps ks g gV) (hkw : PK X kws tk) (hall : (backToKw pos (keywordEach kws X.env)).all (·.1.isSome) = true := by rfl)
    (hks : (backToKw pos (keywordEach kws X.env)).filterMap (·.1) = ks := by rfl) (hdb : (x == ("__debug__" : Str)) = false := by decide)
    (hpl : ((backTo pos (starEach [] X.env)).any (·.1) || (backToKw pos (keywordEach kws X.env)).any (·.1.isNone)) = false := by rfl) :
    PE X (.Call (.Name x p) [] kws pos) (tCallK sp gV E0 tNil tk) := by
  refine ⟨fun pins s σ H Q I h => wpAny_Call_Name_kw (ld_glob I hg hm ?_ hdb)⟩
  refine PySem.W.callWith_KW0 (h₀ := X.base) I.ok.mod.kin hk hall ?_ hpl
  refine thn (hkw.run pos pins s σ H _ I h) ?_
  rintro ws s2 ⟨zs, H2, I2, rz, q2⟩
  refine ⟨I2.kIn, ?_⟩
  rw [hks]
  exact run_fnk (us := []) (vs := []) F room hb pass0 I2 .nil rz q2

/-! ### a list display, its place not that of sys.modules -/
def tLstN (t : TA) : TE := fun σ H Q => t σ H fun xs H1 => xs.length ≤ sizeLine ∧ ∀ p, H1 p = none → p ≠ sysModules → Q (.ref p) (upd H1 p (.lst xs))
theorem pe_lstN (h : PA X es t) : PE X (.List es pos) (tLstN t) := by
  refine ⟨fun pins s σ H Q I hq => wpAny_List_spliced (thn (h.run pos pins s σ H _ I hq) ?_)⟩
  rintro us s1 ⟨xs, H1, I1, r, z, q⟩
  refine ⟨by rw [← r.length]; exact z, ?_⟩
  have fresh : H1 s1.heap.objs.size = none := I1.hok.fresh (Nat.le_refl _)
  have big : sysModules < s1.heap.objs.size := by
    have h1 : mainGlobals < X.base.objs.size := I1.ok.mod.glob.lt
    have h2 := Nat.le_trans I1.ok.bsz I1.sz
    exact Nat.lt_of_lt_of_le (Nat.lt_trans (by decide) h1) h2
  refine ⟨.ref s1.heap.objs.size, upd H1 s1.heap.objs.size (.lst xs), I1.laid (t' := s1.toks) ?_ (Nat.le_refl _) ?_, rfl, q _ fresh (Nat.ne_of_gt big)⟩
  · intro b u e
    exact Heap.get?_push_of_some _ e
  · exact ⟨z, us, 0, r, Heap.get?_push_size _ rfl⟩
end
end Lw

namespace Lw
open PySem PySem.Spec PyProof.Rows L2

/-! ### the law's own call, no repr under way around -/
theorem enterG {P : Program} {w : World} {K : PySem.W.Frag} {mg mb : Str → Option Value} {k : Nat} {fa a : Addr} {fd : FuncData} {x : Str} {sp : Sp} {s₁ : Shared} {vs : List Value} {ns : List Int}
    (inK : K.In s₁.heap) (gl : s₁.heap.Ns mainGlobals mg) (bl : s₁.heap.Ns builtinsNs mb) (bb : ∀ x : Str, x ≠ "__name__" → mb x = bootBuiltins x) (lim : s₁.heap.NoLimit) (gens : s₁.gens = #[])
    (ha : s₁.heap.get? a = some { cls := .type "list", data := .seq vs.toArray }) (hints : IntsAre vs ns) (short : ns.length ≤ sizeLine) (room : Room k callerA)
    (F : ∀ base : Heap, K.In base → base.Ns mainGlobals mg → FnG P w K mg base k fa fd [x] sp)
    (bind : ∀ (s : Shared) (u : Value), BindsTo s fd ⟨[u], []⟩ [(x, u)])
    (hsp : ∀ H : Hp, SqL K H a (ns.map V.int) → sp [.ref a] H (fun v _ => v = .bl true) fun _ _ _ => False) :
    codeAny (model P w) callerA (.call (.ref fa) ⟨[.ref a], []⟩)
      (fun r s' => r = .ok (.ret (.bool true)) ∧ OldK s₁.heap s'.heap ∧ s'.os = s₁.os ∧ AllBare s'.gens) s₁ := by
  have rv := vals_ints hints
  have lenV := hints.length
  have main : ∀ H : Hp, (∀ b, H b = none ∨ ∃ o xs, H b = some (.frz o (.lst xs))) → SqL K H a (ns.map V.int) → HOk P w H s₁.heap →
      (∀ b, H b ≠ none → b = a) → (H a ≠ none → K.lookup a = none) →
      codeAny (model P w) callerA (.call (.ref fa) ⟨[.ref a], []⟩)
        (fun r s' => r = .ok (.ret (.bool true)) ∧ OldK s₁.heap s'.heap ∧ s'.os = s₁.os ∧ AllBare s'.gens) s₁ := by
    intro H only sq hok isA notK
    have free : ∀ {b : Addr} {o : Obj} {es : Array DictEntry} {ep : Nat},
        s₁.heap.get? b = some o → o.data = .dict es ep → H b = none := by
      intro b o es ep hb hd
      cases q : H b with
      | none => rfl
      | some u =>
        have eb : b = a := isA b (by rw [q]; exact fun z => nomatch z)
        rw [eb, ha] at hb
        cases hb
        have z : Data.seq vs.toArray _ = Data.dict es ep := hd
        cases z
    have nsT : ∀ {b : Addr} {m : Str → Option Value}, s₁.heap.Ns b m → (hidT s₁.heap H).Ns b m := by
      rintro b m ⟨o, es, ep, e, d, r⟩
      exact ⟨o, es, ep, hidT_get e (free e d), d, r⟩
    have kT : K.In (hidT s₁.heap H) := by
      intro b o e
      refine hidT_get (inK b o e) ?_
      cases q : H b with
      | none => rfl
      | some u =>
        have eb : b = a := isA b (by rw [q]; exact fun z => nomatch z)
        have nl := notK (by rw [← eb, q]; exact fun z => nomatch z)
        rw [← eb, e] at nl
        cases nl
    have md : Mod K mg (hidT s₁.heap H) := by
      obtain ⟨mc, l1, l2⟩ := lim
      exact ⟨kT, nsT gl, ⟨mb, nsT bl, bb⟩, mc, nsT l1, l2⟩
    have e0 : Env0 P w K mg (hidT s₁.heap H) callerA [] s₁ H := by
      refine ⟨rfl, md, fun b o e => of_hidT e, ?_, trivial, ?_, hok, .of_eq gens⟩
      · exact Nat.le_of_eq (hidT_size _ _)
      · intro b hb
        exact absurd (show b ∈ ([] : List Addr) from hb) (List.not_mem_nil)
    have ran := (F _ kT (nsT gl)).runG callerA [] s₁ H ⟨[.ref a], []⟩ [.ref a] [.ref a] _ _ rfl room e0 (bind s₁ (.ref a)) (.cons rfl .nil) (hsp H sq)
    refine codeAny_mono ran ?_
    intro r s' h
    cases r with
    | error e => exact False.elim h
    | ok fl =>
      cases fl with
      | next => exact False.elim h
      | brk => exact False.elim h
      | cont => exact False.elim h
      | ret u =>
        obtain ⟨v, H', os, bare, un, hok', r', q⟩ := h
        have ev : v = .bl true := q
        subst ev
        obtain rfl : u = Value.bool true := r'
        refine ⟨rfl, OldK.of_keep ?_, os, bare⟩
        intro b o e
        rcases only b with z | ⟨ob, xs, z⟩
        · exact un.keep b o e z (fun y => absurd (show b ∈ ([] : List Addr) from y) List.not_mem_nil) List.not_mem_nil
        · have z2 := un.frzs b ob _ z
          have e1 := (hok b _ z).1
          have e2 := (hok' b _ z2).1
          rw [e] at e1
          cases e1
          exact e2
  cases hk : K.lookup a with
  | some o =>
    have e := inK a o hk
    rw [ha] at e
    cases e
    refine main (fun _ => none) (fun _ => Or.inl rfl) (Or.inr ?_) ?_ (fun b z => absurd rfl z) (fun z => absurd rfl z)
    · exact ⟨_, vs.toArray, _, hk, rfl, rfl, rfl, by rw [List.size_toArray, lenV]; exact short, by simpa using rv⟩
    · intro b u z
      have z' : (none : Option HO) = some u := z
      cases z'
  | none =>
    let o₀ : Obj := { cls := .type "list", data := .seq vs.toArray }
    let H₀ : Hp := fun b => if b = a then some (.frz o₀ (.lst (ns.map V.int))) else none
    have at_a : H₀ a = some (.frz o₀ (.lst (ns.map V.int))) := if_pos rfl
    have off : ∀ b, b ≠ a → H₀ b = none := fun b hb => if_neg hb
    refine main H₀ ?_ (Or.inl (Or.inr ⟨o₀, at_a⟩)) ?_ ?_ (fun _ => hk)
    · intro b
      by_cases hb : b = a
      · rw [hb]
        exact Or.inr ⟨_, _, at_a⟩
      · exact Or.inl (off b hb)
    · intro b u z
      by_cases hb : b = a
      · rw [hb, at_a] at z
        cases z
        rw [hb]
        exact ⟨ha, by rw [List.length_map]; exact short, vs, _, rv, ha⟩
      · rw [off b hb] at z
        cases z
    · intro b z
      by_cases hb : b = a
      · exact hb
      · exact absurd (off b hb) z

theorem walkG {l : PySem.W.OpenLaw} {n k : Nat} {q : Program} {loose : List Str} {XP : (Str → Option Value) → Heap → Prop} {YP : World → Heap → Prop} {d : DefRec}
    {K : Params → PySem.W.Frag} {sp : PySem.W.Frag → Sp} {x : Str} (hn : l.most = some n) (hn2 : n ≤ sizeLine) (hdf : d.params.defaults = []) (room : Room k callerA)
    (hY : ∀ (w : World) (h : Heap), YP w h → (K w.params).In h)
    (F : ∀ (w : World) (mg : Str → Option Value) (fa : Addr) (h : Heap), (K w.params).In h → h.Ns mainGlobals mg → mg d.name = some (.ref fa) →
      ∃ fd : FuncData, (∀ (s : Shared) (u : Value), BindsTo s fd ⟨[u], []⟩ [(x, u)]) ∧
        ∀ base : Heap, (K w.params).In base → base.Ns mainGlobals mg → FnG l.prog w (K w.params) mg base k fa fd [x] (sp (K w.params)))
    (hsp : ∀ (K : PySem.W.Frag) (H : Hp) (a : Addr) (ns : List Int), ns.length ≤ n → (∀ z ∈ ns, Builtin.Int.intBits z ≤ 1048576) → SqL K H a (ns.map V.int) →
      sp K [.ref a] H (fun v _ => v = .bl true) fun _ _ _ => False) :
    PySem.W.WalkO q loose XP YP l.row.toRowW d [] (fun f vs => PySem.call f vs) := by
  refine Att.attach_callB hn hdf ?_
  intro w s₀ s₁ mg mb fa o pm cd doc a vs ns G Y ho hd hcd hmg hobj hints hlen hbits hg
  have inK := hY w _ Y
  obtain ⟨fd, hb, hF⟩ := F w mg fa _ inK G.T.g hmg
  exact enterG inK G.T.g G.T.b G.T.builtins G.T.nolimit hg hobj hints (Nat.le_trans hlen hn2) room hF hb fun H hS => hsp _ H a ns hlen hbits hS

/-! ### data in the heap -/
def keyD : Key → PyData
  | .inl i => .int i
  | .inr x => .str x
mutual
/-- v holds the data d; f: no list of it stands at the place of sys.modules -/
inductive D (f : Bool) (H : Hp) : V → PyData → Prop
  | non : D f H .non .none
  | bl (b : Bool) : D f H (.bl b) (.bool b)
  | int (i : Int) : D f H (.int i) (.int i)
  | str (x : Str) : D f H (.str x) (.str x)
  | lst {a : Addr} {xs : List V} {ds : List PyData} : H a = some (.lst xs) → (f = true → a ≠ sysModules) → DA f H xs ds → D f H (.ref a) (.list ds)
  | tup {a : Addr} {xs : List V} {ds : List PyData} : H a = some (.tup xs) → DA f H xs ds → D f H (.ref a) (.tuple ds)
  | dct {a : Addr} {kvs : List (Key × V)} {ds : List PyData} : H a = some (.dK kvs) → DA f H (kvs.map (·.2)) ds → D f H (.ref a) (.dict ((kvs.map fun p => keyD p.1).zip ds))
inductive DA (f : Bool) (H : Hp) : List V → List PyData → Prop
  | nil : DA f H [] []
  | cons {v : V} {vs : List V} {d : PyData} {ds : List PyData} : D f H v d → DA f H vs ds → DA f H (v :: vs) (d :: ds)
end
theorem DA.length {f : Bool} {H : Hp} : ∀ {vs : List V} {ds : List PyData}, DA f H vs ds → vs.length = ds.length
  | _, _, .nil => rfl
  | _, _, .cons _ t => by rw [List.length_cons, List.length_cons, t.length]
theorem DA.get {f : Bool} {H : Hp} : ∀ {vs : List V} {ds : List PyData} (i : Nat) {v : V}, DA f H vs ds → vs[i]? = some v → ∃ d, ds[i]? = some d ∧ D f H v d
  | _, _, _, _, .nil, e => by simp at e
  | _, _, 0, _, .cons h _, e => by
    simp at e
    subst e
    exact ⟨_, rfl, h⟩
  | _, _, i + 1, v, .cons _ t, e => by
    obtain ⟨d, e1, h⟩ := DA.get i (v := v) t (by simpa using e)
    exact ⟨d, by simpa using e1, h⟩
theorem DA.append {f : Bool} {H : Hp} : ∀ {vs ws : List V} {ds es : List PyData}, DA f H vs ds → DA f H ws es → DA f H (vs ++ ws) (ds ++ es)
  | _, _, _, _, .nil, h => h
  | _, _, _, _, .cons h t, g => .cons h (t.append g)
theorem DA.take {f : Bool} {H : Hp} : ∀ {vs : List V} {ds : List PyData} (n : Nat), DA f H vs ds → DA f H (vs.take n) (ds.take n)
  | _, _, 0, _ => .nil
  | _, _, _ + 1, .nil => .nil
  | _, _, n + 1, .cons h t => .cons h (t.take n)
theorem DA.drop {f : Bool} {H : Hp} : ∀ {vs : List V} {ds : List PyData} (n : Nat), DA f H vs ds → DA f H (vs.drop n) (ds.drop n)
  | _, _, 0, h => h
  | _, _, _ + 1, .nil => .nil
  | _, _, n + 1, .cons _ t => t.drop n
theorem DA.rev {f : Bool} {H : Hp} : ∀ {vs : List V} {ds : List PyData}, DA f H vs ds → DA f H vs.reverse ds.reverse
  | _, _, .nil => .nil
  | _, _, .cons h t => by
    rw [List.reverse_cons, List.reverse_cons]
    exact t.rev.append (.cons h .nil)
mutual
theorem D.same {f : Bool} {H H' : Hp} (s : Same H H') : ∀ {v : V} {d : PyData}, D f H v d → D f H' v d
  | _, _, .non => .non
  | _, _, .bl b => .bl b
  | _, _, .int i => .int i
  | _, _, .str x => .str x
  | _, _, .lst e n t => .lst (s _ _ e) n (DA.same s t)
  | _, _, .tup e t => .tup (s _ _ e) (DA.same s t)
  | _, _, .dct e t => .dct (s _ _ e) (DA.same s t)
theorem DA.same {f : Bool} {H H' : Hp} (s : Same H H') : ∀ {vs : List V} {ds : List PyData}, DA f H vs ds → DA f H' vs ds
  | _, _, .nil => .nil
  | _, _, .cons a b => .cons (D.same s a) (DA.same s b)
end
mutual
theorem D.weak {f : Bool} {H : Hp} : ∀ {v : V} {d : PyData}, D f H v d → D false H v d
  | _, _, .non => .non
  | _, _, .bl b => .bl b
  | _, _, .int i => .int i
  | _, _, .str x => .str x
  | _, _, .lst e _ t => .lst e (fun z => nomatch z) (DA.weak t)
  | _, _, .tup e t => .tup e (DA.weak t)
  | _, _, .dct e t => .dct e (DA.weak t)
theorem DA.weak {f : Bool} {H : Hp} : ∀ {vs : List V} {ds : List PyData}, DA f H vs ds → DA false H vs ds
  | _, _, .nil => .nil
  | _, _, .cons a b => .cons (D.weak a) (DA.weak b)
end

/-! ### the data are read by the machine -/
theorem readsAll_app {h : Heap} : ∀ {vs : List Value} {ds : List PyData} {as : List Addr}, ReadsAll h vs ds as → True := fun _ => trivial
theorem pairs_keys {P : Program} {w : World} {h : Heap} : ∀ {es : List DictEntry} {kvs : List (Key × Value)}, Pairs (mixKind P w) es kvs →
    ReadsAll h (es.map (·.key)) (kvs.map fun p => keyD p.1) []
  | _, _, .nil => .nil
  | _, _, .cons (kv := kv) (e := e) hk _ t => by
    have r : Reads h e.key (keyD kv.1) [] := by
      rcases keyIs_shape (show keyIs kv.1 e.key = true from hk) with ⟨i, tk, e1, e2⟩ | ⟨x, tk, e1, e2⟩
      · rw [e1, e2]; exact Reads.int i tk
      · rw [e1, e2]; exact Reads.str x tk
    exact ReadsAll.cons r (pairs_keys t)
theorem pairs_vals {P : Program} {w : World} : ∀ {es : List DictEntry} {kvs : List (Key × Value)}, Pairs (mixKind P w) es kvs → es.map (·.val) = kvs.map (·.2)
  | _, _, .nil => rfl
  | _, _, .cons _ hv t => by rw [List.map_cons, List.map_cons, hv, pairs_vals t]
theorem kv_keys : ∀ {kvs : List (Key × V)} {vs : List (Key × Value)}, KV kvs vs → kvs.map (fun p => keyD p.1) = vs.map fun p => keyD p.1
  | _, _, .nil => rfl
  | _, _, .cons h t => by rw [List.map_cons, List.map_cons, h.1, kv_keys t]
theorem kv_vals : ∀ {kvs : List (Key × V)} {vs : List (Key × Value)}, KV kvs vs → Vals (kvs.map (·.2)) (vs.map (·.2))
  | _, _, .nil => .nil
  | _, _, .cons h t => .cons h.2 (kv_vals t)
section
variable {X : Cx} {pins : List (Addr × Obj)} {σ : L2.St} {H : Hp} {s : Shared}
mutual
theorem D.reads {f : Bool} (I : Inv X pins σ H s) : ∀ {v : V} {d : PyData}, D f H v d → ∀ u, RelV v u → ∃ as, Reads s.heap u d as ∧ (f = true → sysModules ∉ as)
  | _, _, .non, u, r => by
    cases r
    exact ⟨_, Reads.none, fun _ => List.not_mem_nil⟩
  | _, _, .bl b, u, r => by
    cases r
    exact ⟨_, Reads.bool b, fun _ => List.not_mem_nil⟩
  | _, _, .int i, u, r => by
    obtain ⟨t, rfl⟩ := r
    exact ⟨_, Reads.int i t, fun _ => List.not_mem_nil⟩
  | _, _, .str x, u, r => by
    obtain ⟨t, rfl⟩ := r
    exact ⟨_, Reads.str x t, fun _ => List.not_mem_nil⟩
  | _, _, .lst (a := a) (xs := xs) e n t, u, r => by
    cases (show u = Value.ref a from r)
    obtain ⟨_, its, k, rv, ho⟩ := (show ObjOk X.prog X.w H s.heap a (.lst xs) from I.hok a _ e)
    obtain ⟨as, ra, na⟩ := DA.reads I t its rv
    refine ⟨_, Reads.list ho rfl rfl ra, fun hf z => ?_⟩
    rcases List.mem_cons.mp z with z | z
    · exact n hf z.symm
    · exact na hf z
  | _, _, .tup (a := a) (xs := xs) e t, u, r => by
    cases (show u = Value.ref a from r)
    obtain ⟨_, its, rv, o, ho, hc, k, hd⟩ := (show ObjOk X.prog X.w H s.heap a (.tup xs) from I.hok a _ e)
    obtain ⟨as, ra, na⟩ := DA.reads I t its rv
    exact ⟨_, Reads.tuple ho hc hd ra, na⟩
  | _, _, .dct (a := a) (kvs := kvs) (ds := ds) e t, u, r => by
    cases (show u = Value.ref a from r)
    obtain ⟨_, ns, vs, kv, o, es, ep, ho, ex, hd, _, pr, _⟩ := (show ObjOk X.prog X.w H s.heap a (.dK kvs) from I.hok a _ e)
    obtain ⟨as, ra, na⟩ := DA.reads I t _ (kv_vals kv)
    have hl : (kvs.map fun p => keyD p.1).length = ds.length := by
      have := t.length
      rw [List.length_map] at this
      rw [List.length_map]
      exact this
    have r1 := pairs_keys (h := s.heap) pr
    rw [← kv_keys kv] at r1
    rw [← pairs_vals pr] at ra
    refine ⟨_, Reads.dict ho ex.1 hd (as := []) (bs := as) ?_ ?_, fun hf z => ?_⟩
    · rw [List.map_fst_zip (Nat.le_of_eq hl)]
      exact r1
    · rw [List.map_snd_zip (Nat.le_of_eq hl.symm)]
      exact ra
    · rcases List.mem_cons.mp z with z | z
      · rw [← z] at ns
        exact absurd ns (by decide)
      · exact na hf (by simpa using z)
theorem DA.reads {f : Bool} (I : Inv X pins σ H s) : ∀ {vs : List V} {ds : List PyData}, DA f H vs ds → ∀ us, Vals vs us → ∃ as, ReadsAll s.heap us ds as ∧ (f = true → sysModules ∉ as)
  | _, _, .nil, us, r => by
    cases r
    exact ⟨_, ReadsAll.nil, fun _ => List.not_mem_nil⟩
  | _, _, .cons h t, us, r => by
    cases r with
    | cons r1 r2 =>
      obtain ⟨as, q1, n1⟩ := D.reads I h _ r1
      obtain ⟨bs, q2, n2⟩ := DA.reads I t _ r2
      exact ⟨_, ReadsAll.cons q1 q2, fun hf z => (List.mem_append.mp z).elim (n1 hf) (n2 hf)⟩
end
end

/-! ### repr -/
/-- what repr takes -/
structure Ok (d : PyData) : Prop where
  sh : d.showable = true
  dp : d.depth ≤ 100
  ln : d.shown.length ≤ sizeLine
def rRepr : List V → Hp → VK → Prop := fun xs H Q => ∃ (v : V) (d : PyData) (f : Bool), xs = [v] ∧ D f H v d ∧ (d.hasDict = true → f = true) ∧ Ok d ∧ Q (.str d.shown) H
theorem call_repr {X : Cx} {k : Nat} (hgd : X.A.guards = some []) (room : Room k X.A) : CallR X (.builtin "repr") rRepr := by
  intro pins s σ H xs us Q I r h
  obtain ⟨v, d, f, rfl, hd, hf, ok, q⟩ := h
  obtain ⟨u, rfl, ru⟩ := vals1 r
  cases hd with
  | non =>
    cases ru
    exact PySem.P.repr_of_none ⟨.str _, H, I.tok _, ⟨_, rfl⟩, by simpa only [PyData.shown] using q⟩
  | bl b =>
    cases ru
    exact PySem.P.repr_of_bool ⟨.str _, H, I.tok _, ⟨_, rfl⟩, by simpa only [PyData.shown] using q⟩
  | int i =>
    obtain ⟨t, rfl⟩ := ru
    have hz : i.natAbs.log2 < 1920 := by simpa only [PyData.showable, decide_eq_true_eq] using ok.sh
    exact PySem.P.repr_of_int hz ⟨.str _, H, I.tok _, ⟨_, rfl⟩, by simpa only [PyData.shown] using q⟩
  | str x =>
    obtain ⟨t, rfl⟩ := ru
    have hz : (reprText x).length ≤ sizeLine := by simpa only [PyData.shown] using ok.ln
    exact PySem.P.repr_of_str ⟨.str _, H, I.tok _, ⟨_, rfl⟩, by simpa only [PyData.shown] using q⟩ hz
  | lst e n t =>
    cases ru
    obtain ⟨as, rd, na⟩ := D.reads I (.lst e n t) _ rfl
    have hu := room.un
    have hdp := ok.dp
    exact repr_of_reads' rd ok.sh (fun z => na (hf z)) hgd (by omega) (fun _ _ e => e) (fun h' tk t2 hk => ⟨.str _, H, I.kept (t' := t2) hk, ⟨_, rfl⟩, q⟩) ok.ln
  | tup e t =>
    cases ru
    obtain ⟨as, rd, na⟩ := D.reads I (.tup e t) _ rfl
    have hu := room.un
    have hdp := ok.dp
    exact repr_of_reads' rd ok.sh (fun z => na (hf z)) hgd (by omega) (fun _ _ e => e) (fun h' tk t2 hk => ⟨.str _, H, I.kept (t' := t2) hk, ⟨_, rfl⟩, q⟩) ok.ln
  | dct e t =>
    cases ru
    obtain ⟨as, rd, na⟩ := D.reads I (.dct e t) _ rfl
    have hu := room.un
    have hdp := ok.dp
    exact repr_of_reads' rd ok.sh (fun z => na (hf z)) hgd (by omega) (fun _ _ e => e) (fun h' tk t2 hk => ⟨.str _, H, I.kept (t' := t2) hk, ⟨_, rfl⟩, q⟩) ok.ln
end Lw

namespace Lw
open PySem PySem.Spec PyProof.Rows L2

/-! ### powers of great numbers -/
def CPowW (i j : Int) : Prop := 0 ≤ j ∧ (Builtin.Int.intBits i : Int) * j ≤ 2 ^ 27
theorem op_powW {X : Cx} : OpR X (binaryOp .Pow) (rI CPowW fun i j => .int (i ^ j.toNat)) :=
  opI fun _ _ _ _ _ _ _ hc q => pow_int hc.1 hc.2 q

/-! ### a tuple turned about -/
section
variable {prog : Program} {w : World} {A : Around} {E : Value → Shared → Prop} {s : Shared}
theorem places_back (n : Nat) : Builtin.Slice.slicePlaces ((n : Int) - 1) (-1) (-1) = n := by
  unfold Builtin.Slice.slicePlaces
  rw [if_neg (by decide)]
  by_cases h : n = 0
  · subst h
    rfl
  · rw [if_pos (by omega)]
    have e : (((n : Int) - 1 - -1 - 1) / (- -1)) = (n : Int) - 1 := by
      rw [show (- -1 : Int) = 1 from rfl, Int.ediv_one]
      omega
    rw [e]
    omega
theorem pick_back (xs : Array Value) : ((List.range xs.size).filterMap fun (k : Nat) => xs[((xs.size : Int) - 1 + (k : Int) * (-1)).toNat]?) = xs.toList.reverse := by
  have e : ∀ k ∈ List.range xs.size, xs[((xs.size : Int) - 1 + (k : Int) * (-1)).toNat]? = xs.toList.reverse[k]? := by
    intro k hk
    have hk' : k < xs.size := List.mem_range.mp hk
    have e1 : ((xs.size : Int) - 1 + (k : Int) * (-1)).toNat = xs.size - 1 - k := by omega
    rw [e1, List.getElem?_reverse (by rw [Array.length_toList]; exact hk'), Array.length_toList, Array.getElem?_toList]
  have fm : ∀ (l : List Nat) (f g : Nat → Option Value), (∀ k ∈ l, f k = g k) → l.filterMap f = l.filterMap g := by
    intro l f g
    induction l with
    | nil => intro _; rfl
    | cons k l ih =>
      intro h
      rw [List.filterMap_cons, List.filterMap_cons, h k List.mem_cons_self, ih fun j hj => h j (List.mem_cons_of_mem _ hj)]
  rw [fm _ _ _ e]
  have e2 : xs.size = xs.toList.reverse.length := by rw [List.length_reverse, Array.length_toList]
  rw [e2]
  generalize xs.toList.reverse = ys
  induction ys with
  | nil => rfl
  | cons y ys ih =>
    rw [List.length_cons, List.range_succ_eq_map, List.filterMap_cons]
    show y :: _ = _
    rw [List.filterMap_map]
    exact congrArg (y :: ·) ih
theorem getItem_back {t sl : Addr} {items : Array Value} {tk : Tok} {Q : Value → Shared → Prop} (ht : IsTup s.heap t items) (hs : s.heap.IsSliceOf sl .none .none (.int (-1) tk))
    (h : Q (.ref s.heap.objs.size) { s with heap := s.heap.push { cls := .type "tuple", data := .seq items.toList.reverse.toArray } }) (hz : items.size ≤ sizeLine) :
    wpAny (model prog w) A (getItem (.ref t) (.ref sl)) Q E s := by
  have room : sizeOk (.seq items.toList.reverse.toArray) := by
    show items.toList.reverse.toArray.size ≤ sizeLine
    rw [List.size_toArray, List.length_reverse, Array.length_toList]
    exact hz
  obtain ⟨os, hos, hcs, hds⟩ := id hs
  have hTs : s.TypeIs (.ref sl) "slice" := ⟨os, hos, hcs⟩
  unfold getItem
  try with_reducible refine wpAny_holding ?_
  first
    | refine wpAny_bind (wpAny_pure ?_)
    | skip
  refine wpAny_bind (wpAny_sequenceKey ht.typeIs (by decide) ?_)
  refine wpAny_bind (wpAny_callSpecial?_slot (name := Str.ofString "__getitem__") ht.typeIs
    PyProof.Rows.slot_tuple_getitem (wpAny_call_entry PyProof.Rows.slot_tuple_getitem ht.typeIs entry_tuple_getitem ?_ (args_tuple_getitem _ _)))
  show wpAny _ _ (Builtin.Tuple.tupleItemsOf (.ref t) >>= _) _ _ s
  refine wpAny_bind (tupleItemsOf_ ht ?_)
  refine wpAny_bind (wpAny_typeOf hTs ?_)
  rw [if_pos (by decide)]
  refine wpAny_bind (m := Builtin.Slice.sliceApplied (.ref sl) (pure (items.size : Int))) ?_
  unfold Builtin.Slice.sliceApplied Builtin.Slice.sliceFields
  refine wpAny_bind (wpAny_bind (wpAny_field hos hds (x := Value.none) rfl (wpAny_bind
    (wpAny_field hos hds (x := Value.none) rfl (wpAny_bind (wpAny_field hos hds (x := .int (-1) tk) rfl (wpAny_pure ?_)))))))
  refine wpAny_bind (slicePart_int ?_)
  show wpAny _ _ (if ((-1 : Int) == 0) = true then _ else _) _ _ s
  rw [if_neg (by decide)]
  refine wpAny_bind (slicePart_none (wpAny_bind (slicePart_none (wpAny_bind (wpAny_pure ?_)))))
  show wpAny _ _ (pure ((items.size : Int) - 1, (-1 : Int), Builtin.Slice.slicePlaces ((items.size : Int) - 1) (-1) (-1))) _ _ s
  rw [places_back]
  refine wpAny_pure ?_
  show wpAny _ _ (if (((items.size : Int) - 1 == 0) && ((-1 : Int) == 1) && (items.size == items.size)) = true then _ else _) _ _ s
  rw [if_neg (by simp), pick_back]
  first
    | exact wpAny_bind (m := Builtin.Tuple.tupleExact _) (wpAny_newObj_type (wpAny_pure ⟨_, rfl, wpAny_pure h⟩) room)
    | exact wpAny_bind (m := Builtin.Tuple.tupleExact _)
        (wpAny_newObj_type (wpAny_bind (wpAny_pure (wpAny_pure ⟨_, rfl, wpAny_pure h⟩))) room)
end
section
variable {X : Cx}
def tRevT (K : PySem.W.Frag) (te : TE) : TE := fun σ H Q => te σ H fun x H1 => ∃ a xs, x = .ref a ∧ SqT K H1 a xs ∧ ∀ p, H1 p = none → Q (.ref p) (upd H1 p (.tup xs.reverse))
theorem vals_rev : ∀ {xs : List V} {us : List Value}, Vals xs us → Vals xs.reverse us.reverse
  | _, _, .nil => .nil
  | _, _, .cons h t => by
    rw [List.reverse_cons, List.reverse_cons]
    exact (vals_rev t).append (.cons h .nil)
theorem pe_revT {e : Expr} {te : TE} {k : Nat} {p1 p2 p3 pos : Pos} (he : PE X e te) :
    PE X (.Subscript e (.Slice none none (some (.UnaryOp .USub (.Constant (.int 1) k p1) p2)) p3) pos) (tRevT X.K te) := by
  refine ⟨fun pins s σ H Q I h => Subscript_ (thn (he.run pins s σ H _ I h) ?_)⟩
  rintro v s1 ⟨x, H1, I1, r1, a, xs, rfl, hx, q⟩
  cases r1
  have hst : PO X (some (.UnaryOp .USub (.Constant (.int 1) k p1) p2)) (tPart (tUn (rU fun i => .int (-i)) (tC (.int 1)))) :=
    po_some (pe_un un_neg pe_int)
  refine wpAny_Slice (thn (po_none.run pins s1 σ H1 (fun o H2 => o = none ∧ H2 = H1) I1 ⟨rfl, rfl⟩) ?_)
  rintro vl s2 ⟨l, H2, I2, pl, el, e2⟩
  subst el e2
  refine thn (po_none.run pins s2 σ H2 (fun o H3 => o = none ∧ H3 = H2) I2 ⟨rfl, rfl⟩) ?_
  rintro vu s3 ⟨u, H3, I3, pu, eu, e3⟩
  subst eu e3
  refine thn (hst.run pins s3 σ H3 (fun o H4 => o = some (-1) ∧ H4 = H3) I3 ⟨1, rfl, -1, rfl, rfl, rfl⟩) ?_
  rintro vs s4 ⟨o, H4, I4, ps, eo, e4⟩
  subst eo e4
  cases pl
  cases pu
  cases ps with
  | int i tk =>
    have I5 : Inv X pins σ H4 { s4 with heap := s4.heap.push { cls := .type "slice", data := .fields #[.none, .none, .int (-1) tk] } } :=
      I4.kept (t' := s4.toks) fun b ob q => Heap.get?_push_of_some _ q
    obtain ⟨its, r, ht, hz⟩ := I5.tuple hx
    have hlen := r.length
    show wpAny (model X.prog X.w) X.A (subscriptTail e (.Slice none none (some (.UnaryOp .USub (.Constant (.int 1) k p1) p2)) p3) (.ref a)
      (.ref s4.heap.objs.size)) (EP X pins σ Q) X.xe { s4 with heap := s4.heap.push { cls := .type "slice", data := .fields #[.none, .none, .int (-1) tk] } }
    refine tail_any (ops := [.ref a, .ref s4.heap.objs.size]) ht.typeIs PyProof.Rows.slot_tuple_getitem.lookup ?_ (by with_unfolding_all rfl)
    refine getItem_back ht (Heap.IsSliceOf.new _ _ _ _) ?_ (by rw [List.size_toArray]; omega)
    refine ⟨.ref _, _, I5.laid (t' := s4.toks) (o := .tup xs.reverse) (fun b ob q => Heap.get?_push_of_some _ q) (Nat.le_refl _) ?_, rfl, q _ (I5.hok.fresh (Nat.le_refl _))⟩
    exact ⟨by rw [List.length_reverse]; exact hz, its.reverse, vals_rev r, IsTup.new _ _⟩
/-! ### tuples cut and put together: one way out -/
theorem cut_whole {xs : List V} {lo hi : Option Int} (h : HT.sIx xs.length 0 lo = 0 ∧ HT.sIx xs.length xs.length hi = xs.length) : cutV xs lo hi = xs := by
  unfold cutV
  rw [h.1, h.2, List.drop_zero, Nat.sub_zero]
  exact List.take_length
def rSlU : V → Option Int → Option Int → Hp → VK → Prop := fun x lo hi H Q => ∃ a xs, x = .ref a ∧ H a = some (.tup xs) ∧
  ∀ p H', Same H H' → H' p = some (.tup (cutV xs lo hi)) → (p = a ∨ H p = none) → Q (.ref p) H'
theorem upd_grow {H : Hp} {p : Addr} {o : HO} (h : H p = none) : Same H (upd H p o) := fun b u q => by
  rw [upd_ne (ne_of_none q h)]
  exact q
theorem sl_U : SlR X rSlU := by
  intro pins s σ H x v vl vu lo hi sl Q I rx hs pl pu h
  obtain ⟨a, xs, rfl, hx, q⟩ := h
  refine sl_tupA pins s σ H _ v vl vu lo hi sl Q I rx hs pl pu ⟨a, xs, rfl, SqT.of hx, fun hw => ?_, fun _ p np => ?_⟩
  · exact q a H (Same.refl H) (by rw [cut_whole hw]; exact hx) (Or.inl rfl)
  · exact q p _ (upd_grow np) upd_same (Or.inr np)
def rCatU : R2 := fun x y H Q => ∃ a b xs ys, x = .ref a ∧ y = .ref b ∧ H a = some (.tup xs) ∧ H b = some (.tup ys) ∧ xs.length + ys.length ≤ sizeLine ∧
  ∀ p H', Same H H' → H' p = some (.tup (xs ++ ys)) → (p = a ∨ p = b ∨ H p = none) → Q (.ref p) H'
theorem op_catU : OpR X (binaryOp .Add) rCatU := by
  intro pins s σ H x y v u Q I rx ry h
  obtain ⟨a, b, xs, ys, rfl, rfl, ha, hb, hz, q⟩ := h
  refine op_catA pins s σ H _ _ v u Q I rx ry ⟨a, b, xs, ys, rfl, rfl, SqT.of ha, SqT.of hb, hz, fun e => ?_, fun _ e => ?_, fun _ _ p np => ?_⟩
  · exact q b H (Same.refl H) (by rw [e]; exact hb) (Or.inr (Or.inl rfl))
  · exact q a H (Same.refl H) (by rw [e, List.append_nil]; exact ha) (Or.inl rfl)
  · exact q p _ (upd_grow np) upd_same (Or.inr (Or.inr np))
def cutD (ds : List PyData) (lo hi : Option Int) : List PyData := (ds.drop (HT.sIx ds.length 0 lo)).take (HT.sIx ds.length ds.length hi - HT.sIx ds.length 0 lo)
theorem DA.cut {f : Bool} {H : Hp} {xs : List V} {ds : List PyData} (h : DA f H xs ds) (lo hi : Option Int) : DA f H (cutV xs lo hi) (cutD ds lo hi) := by
  unfold cutV cutD
  rw [h.length]
  exact (h.drop _).take _
theorem cutD_mem {ds : List PyData} {lo hi : Option Int} {x : PyData} (h : x ∈ cutD ds lo hi) : x ∈ ds := List.mem_of_mem_drop (List.mem_of_mem_take h)
theorem cutV_le (xs : List V) (lo hi : Option Int) : (cutV xs lo hi).length ≤ xs.length := cutV_length xs lo hi
end
end Lw

namespace Lw
open PySem PySem.Spec PyProof.Rows L2

/-! ### kinds of data -/
def tyD : PyData → String
  | .none => "NoneType"
  | .bool _ => "bool"
  | .int _ => "int"
  | .str _ => "str"
  | .list _ => "list"
  | .tuple _ => "tuple"
  | .dict _ => "dict"
theorem D.ty {f : Bool} {K : PySem.W.Frag} {H : Hp} {v : V} {d : PyData} (h : D f H v d) : TyX K H v (.type (tyD d)) := by
  cases h with
  | non => exact .base .non
  | bl b => exact .base (.bl b)
  | int i => exact .base (.int i)
  | str x => exact .base (.str x)
  | lst e n t => exact .base (.lst e)
  | tup e t => exact .base (.tup e)
  | dct e t => exact .base (.dK e)
def isIntD : PyData → Bool
  | .int _ => true
  | .bool _ => true
  | _ => false
def isBoolD : PyData → Bool
  | .bool _ => true
  | _ => false
def isTupD : PyData → Bool
  | .tuple _ => true
  | _ => false
def isStrD : PyData → Bool
  | .str _ => true
  | _ => false
section
variable {K : PySem.W.Frag} {H : Hp} {f : Bool} {v : V} {d : PyData} {Q : VK}
theorem kit_int (d : PyData) : PySem.W.kitOne K (.type (tyD d)) (.type "int") = some (isIntD d) := by
  cases d with
  | none => exact kit_ty (by decide +kernel : kitB "NoneType" "int" = some false)
  | bool b => exact kit_ty (by decide +kernel : kitB "bool" "int" = some true)
  | int i => exact kit_ty (by decide +kernel : kitB "int" "int" = some true)
  | str x => exact kit_ty (by decide +kernel : kitB "str" "int" = some false)
  | list xs => exact kit_ty (by decide +kernel : kitB "list" "int" = some false)
  | tuple xs => exact kit_ty (by decide +kernel : kitB "tuple" "int" = some false)
  | dict kvs => exact kit_ty (by decide +kernel : kitB "dict" "int" = some false)
theorem kit_bool (d : PyData) : PySem.W.kitOne K (.type (tyD d)) (.type "bool") = some (isBoolD d) := by
  cases d with
  | none => exact kit_ty (by decide +kernel : kitB "NoneType" "bool" = some false)
  | bool b => exact kit_ty (by decide +kernel : kitB "bool" "bool" = some true)
  | int i => exact kit_ty (by decide +kernel : kitB "int" "bool" = some false)
  | str x => exact kit_ty (by decide +kernel : kitB "str" "bool" = some false)
  | list xs => exact kit_ty (by decide +kernel : kitB "list" "bool" = some false)
  | tuple xs => exact kit_ty (by decide +kernel : kitB "tuple" "bool" = some false)
  | dict kvs => exact kit_ty (by decide +kernel : kitB "dict" "bool" = some false)
theorem kit_tup (d : PyData) : PySem.W.kitOne K (.type (tyD d)) (.type "tuple") = some (isTupD d) := by
  cases d with
  | none => exact kit_ty (by decide +kernel : kitB "NoneType" "tuple" = some false)
  | bool b => exact kit_ty (by decide +kernel : kitB "bool" "tuple" = some false)
  | int i => exact kit_ty (by decide +kernel : kitB "int" "tuple" = some false)
  | str x => exact kit_ty (by decide +kernel : kitB "str" "tuple" = some false)
  | list xs => exact kit_ty (by decide +kernel : kitB "list" "tuple" = some false)
  | tuple xs => exact kit_ty (by decide +kernel : kitB "tuple" "tuple" = some true)
  | dict kvs => exact kit_ty (by decide +kernel : kitB "dict" "tuple" = some false)
theorem kit_str (d : PyData) : PySem.W.kitOne K (.type (tyD d)) (.type "str") = some (isStrD d) := by
  cases d with
  | none => exact kit_ty (by decide +kernel : kitB "NoneType" "str" = some false)
  | bool b => exact kit_ty (by decide +kernel : kitB "bool" "str" = some false)
  | int i => exact kit_ty (by decide +kernel : kitB "int" "str" = some false)
  | str x => exact kit_ty (by decide +kernel : kitB "str" "str" = some true)
  | list xs => exact kit_ty (by decide +kernel : kitB "list" "str" = some false)
  | tuple xs => exact kit_ty (by decide +kernel : kitB "tuple" "str" = some false)
  | dict kvs => exact kit_ty (by decide +kernel : kitB "dict" "str" = some false)
end
/-- a new thing is laid -/
theorem same_new {H : Hp} {p : Addr} {o : HO} (h : H p = none) : Same H (upd H p o) := fun b u q => by
  rw [upd_ne (ne_of_none q h)]
  exact q

/-! ### draws -/
/-- the hand that draws: at most n draws were mixed -/
def Hd (H : Hp) (a : Addr) (n : Nat) : Prop := ∃ g m c : Int, H a = some (.lst [.int g, .int m, .int c]) ∧ 0 ≤ m ∧ m < 2305843009213693921 ∧ 0 ≤ c ∧ c ≤ n
/-- all but what stands at a is as it was -/
def Kp (a : Addr) (H H' : Hp) : Prop := ∀ b o, b ≠ a → H b = some o → H' b = some o
theorem Kp.refl (a : Addr) (H : Hp) : Kp a H H := fun _ _ _ h => h
theorem Kp.trans {a : Addr} {H H1 H2 : Hp} (x : Kp a H H1) (y : Kp a H1 H2) : Kp a H H2 := fun b o n h => y b o n (x b o n h)
theorem Kp.of_same {a : Addr} {H H' : Hp} (x : Same H H') : Kp a H H' := fun b o _ h => x b o h
theorem Kp.upd {a : Addr} {H H' : Hp} {o : HO} (x : Kp a H H') : Kp a H (L2.upd H' a o) := fun b u n h => by
  rw [upd_ne n]
  exact x b u n h
theorem Hd.same {H H' : Hp} {a : Addr} {n : Nat} (x : Hd H a n) (s : Same H H') : Hd H' a n := by
  obtain ⟨g, m, c, e, r⟩ := x
  exact ⟨g, m, c, s _ _ e, r⟩
theorem Hd.mono {H : Hp} {a : Addr} {n k : Nat} (x : Hd H a n) (h : n ≤ k) : Hd H a k := by
  obtain ⟨g, m, c, e, h1, h2, h3, h4⟩ := x
  exact ⟨g, m, c, e, h1, h2, h3, by omega⟩
/-- the heap without what stands at some places -/
def remL (as : List Addr) (H : Hp) : Hp := fun b => if b ∈ as then none else H b
theorem remL_ne {as : List Addr} {b : Addr} {H : Hp} (h : b ∉ as) : remL as H b = H b := if_neg h
theorem remL_some {as : List Addr} {b : Addr} {H : Hp} {o : HO} (h : remL as H b = some o) : b ∉ as ∧ H b = some o := by
  by_cases e : b ∈ as
  · rw [show remL as H b = none from if_pos e] at h
    cases h
  · rw [remL_ne e] at h
    exact ⟨e, h⟩
theorem remL_same {as : List Addr} {H : Hp} : Same (remL as H) H := fun b o h => (remL_some h).2
theorem same_remL {as : List Addr} {H H' : Hp} (k : Same H H') : Same (remL as H) (remL as H') := fun b o h => by
  obtain ⟨n, e⟩ := remL_some h
  rw [remL_ne n]
  exact k b o e
theorem Kp.remL {as : List Addr} {a : Addr} {H H' : Hp} (ha : a ∈ as) (k : Kp a H H') : Same (Lw.remL as H) (Lw.remL as H') := fun b o h => by
  obtain ⟨n, e⟩ := remL_some h
  rw [remL_ne n]
  exact k b o (fun z => n (z ▸ ha)) e
/-- these places are taken -/
def Trk (as : List Addr) (H : Hp) : Prop := ∀ b ∈ as, H b ≠ none
theorem Trk.same {as : List Addr} {H H' : Hp} (t : Trk as H) (k : Same H H') : Trk as H' := fun b hb z => by
  cases e : H b with
  | none => exact t b hb e
  | some o =>
    rw [k b o e] at z
    cases z
theorem Trk.kp {as : List Addr} {a : Addr} {n : Nat} {H H' : Hp} (t : Trk as H) (k : Kp a H H') (h : Hd H' a n) : Trk as H' := fun b hb z => by
  by_cases e0 : b = a
  · obtain ⟨g, m, c, e, _⟩ := h
    rw [e0, e] at z
    cases z
  · cases e : H b with
    | none => exact t b hb e
    | some o =>
      rw [k b o e0 e] at z
      cases z
theorem Trk.new {as : List Addr} {H : Hp} {p : Addr} (t : Trk as H) (h : H p = none) : p ∉ as := fun z => t p z h
theorem remL_new {as : List Addr} {H : Hp} {p : Addr} {o : HO} (t : Trk as H) (h : H p = none) : remL as (upd H p o) p = some o := by
  rw [remL_ne (t.new h), upd_same]

/-! ### how large data are -/
theorem int_short {i : Int} (h : i.natAbs < 10 ^ 62) : (PyData.shown (.int i)).length ≤ 64 := by
  have e := int_text_length_le10 (k := 62) (by decide) h
  show (Str.ofString (toString i)).length ≤ 64
  rw [PySem.ofString_length]
  omega
structure Bd (n m : Nat) (d : PyData) : Prop where
  lf : d.leavesShort 64 = true
  sh : d.showable = true
  dp : d.depth ≤ n
  wt : d.weight ≤ m
theorem Bd.mono {n m n' m' : Nat} {d : PyData} (h : Bd n m d) (hn : n ≤ n') (hm : m ≤ m') : Bd n' m' d := ⟨h.lf, h.sh, Nat.le_trans h.dp hn, Nat.le_trans h.wt hm⟩
theorem Bd.ok {n m : Nat} {d : PyData} (h : Bd n m d) (hn : n ≤ 100) (hm : m ≤ 250000) : Ok d := by
  refine ⟨h.sh, Nat.le_trans h.dp hn, ?_⟩
  have h1 := PyData.shown_le 64 (by decide) d h.lf
  have h2 : (64 + 2) * d.weight + 64 ≤ 16777216 := by
    have := h.wt
    omega
  exact Nat.le_trans h1 h2
theorem all_of {n m : Nat} : ∀ {ds : List PyData}, (∀ x ∈ ds, Bd n m x) → PyData.leavesShortAll 64 ds = true ∧ PyData.showableAll ds = true ∧ PyData.depthAll ds ≤ n ∧ PyData.weightAll ds ≤ ds.length * (m + 1)
  | [], _ => by
    refine ⟨rfl, rfl, ?_, ?_⟩
    · show PyData.depthAll [] ≤ n
      simp only [PyData.depthAll]
      exact Nat.zero_le _
    · simp only [PyData.weightAll]
      exact Nat.zero_le _
  | x :: ds, h => by
    have hx := h x List.mem_cons_self
    obtain ⟨a, b, c, d⟩ := all_of (ds := ds) fun y hy => h y (List.mem_cons_of_mem _ hy)
    refine ⟨?_, ?_, ?_, ?_⟩
    · simp only [PyData.leavesShortAll, hx.lf, a, Bool.and_self]
    · simp only [PyData.showableAll, hx.sh, b, Bool.and_self]
    · simp only [PyData.depthAll]
      have := hx.dp
      omega
    · simp only [PyData.weightAll, List.length_cons, Nat.succ_mul]
      have := hx.wt
      omega
theorem Bd.tuple {n m k : Nat} {ds : List PyData} (h : ∀ x ∈ ds, Bd n m x) (hk : ds.length * (m + 1) ≤ k) : Bd (n + 1) k (.tuple ds) := by
  obtain ⟨a, b, c, d⟩ := all_of h
  exact ⟨by simpa only [PyData.leavesShort] using a, by simpa only [PyData.showable] using b, by simp only [PyData.depth]; omega, by simp only [PyData.weight]; omega⟩
theorem Bd.list {n m k : Nat} {ds : List PyData} (h : ∀ x ∈ ds, Bd n m x) (hk : ds.length * (m + 1) ≤ k) : Bd (n + 1) k (.list ds) := by
  obtain ⟨a, b, c, d⟩ := all_of h
  exact ⟨by simpa only [PyData.leavesShort] using a, by simpa only [PyData.showable] using b, by simp only [PyData.depth]; omega, by simp only [PyData.weight]; omega⟩
theorem Bd.int {n : Nat} {i : Int} (h : i.natAbs < 10 ^ 62) : Bd n 210 (.int i) := by
  have hl : i.natAbs.log2 < 206 := PySem.Flt.log2_lt_of (by decide) (Nat.lt_of_lt_of_le h (by decide +kernel))
  refine ⟨?_, ?_, ?_, ?_⟩
  · simp only [PyData.leavesShort, decide_eq_true_eq]
    exact int_short h
  · simp only [PyData.showable, decide_eq_true_eq]
    omega
  · simp only [PyData.depth]
    exact Nat.zero_le _
  · simp only [PyData.weight]
    split <;> omega
theorem Bd.flat0 {n m : Nat} {d : PyData} (h : d = .none ∨ (∃ b, d = .bool b) ∨ d = .str "" ∨ d = .str "0" ∨ d = .tuple [] ∨ d = .list [] ∨ d = .dict []) (hn : 1 ≤ n) (hm : 1 ≤ m) : Bd n m d := by
  have z : Bd 1 1 d := by
    rcases h with rfl | ⟨b, rfl⟩ | rfl | rfl | rfl | rfl | rfl
    all_goals exact ⟨by decide +kernel +revert, by decide +kernel +revert, by decide +kernel +revert, by decide +kernel +revert⟩
  exact z.mono hn hm
/-! ### rows of data, by their whole weight -/
structure BA (n t : Nat) (ds : List PyData) : Prop where
  lf : PyData.leavesShortAll 64 ds = true
  sh : PyData.showableAll ds = true
  dp : PyData.depthAll ds ≤ n
  wt : PyData.weightAll ds ≤ t
theorem BA.mono {n t n' t' : Nat} {ds : List PyData} (h : BA n t ds) (hn : n ≤ n') (ht : t ≤ t') : BA n' t' ds := ⟨h.lf, h.sh, Nat.le_trans h.dp hn, Nat.le_trans h.wt ht⟩
theorem BA.nil {n t : Nat} : BA n t [] := ⟨rfl, rfl, by simp only [PyData.depthAll]; exact Nat.zero_le _, by simp only [PyData.weightAll]; exact Nat.zero_le _⟩
theorem wa_append : ∀ (ds es : List PyData), PyData.weightAll (ds ++ es) = PyData.weightAll ds + PyData.weightAll es
  | [], es => by simp only [List.nil_append, PyData.weightAll, Nat.zero_add]
  | d :: ds, es => by
    have := wa_append ds es
    simp only [List.cons_append, PyData.weightAll]
    omega
theorem da_append : ∀ (ds es : List PyData), PyData.depthAll (ds ++ es) = max (PyData.depthAll ds) (PyData.depthAll es)
  | [], es => by simp only [List.nil_append, PyData.depthAll, Nat.zero_max]
  | d :: ds, es => by
    have := da_append ds es
    simp only [List.cons_append, PyData.depthAll]
    omega
theorem la_append : ∀ (ds es : List PyData), PyData.leavesShortAll 64 (ds ++ es) = (PyData.leavesShortAll 64 ds && PyData.leavesShortAll 64 es)
  | [], es => by simp only [List.nil_append, PyData.leavesShortAll, Bool.true_and]
  | d :: ds, es => by simp only [List.cons_append, PyData.leavesShortAll, la_append ds es, Bool.and_assoc]
theorem sa_append : ∀ (ds es : List PyData), PyData.showableAll (ds ++ es) = (PyData.showableAll ds && PyData.showableAll es)
  | [], es => by simp only [List.nil_append, PyData.showableAll, Bool.true_and]
  | d :: ds, es => by simp only [List.cons_append, PyData.showableAll, sa_append ds es, Bool.and_assoc]
theorem BA.append {n t u : Nat} {ds es : List PyData} (h : BA n t ds) (g : BA n u es) : BA n (t + u) (ds ++ es) := by
  refine ⟨?_, ?_, ?_, ?_⟩
  · rw [la_append, h.lf, g.lf]
    rfl
  · rw [sa_append, h.sh, g.sh]
    rfl
  · rw [da_append]
    have := h.dp
    have := g.dp
    omega
  · rw [wa_append]
    have := h.wt
    have := g.wt
    omega
theorem BA.parts {n t : Nat} {ds es : List PyData} (h : BA n t (ds ++ es)) : BA n t ds ∧ BA n t es := by
  have h1 := h.lf
  have h2 := h.sh
  have h3 := h.dp
  have h4 := h.wt
  rw [la_append, Bool.and_eq_true] at h1
  rw [sa_append, Bool.and_eq_true] at h2
  rw [da_append] at h3
  rw [wa_append] at h4
  exact ⟨⟨h1.1, h2.1, by omega, by omega⟩, ⟨h1.2, h2.2, by omega, by omega⟩⟩
theorem BA.take {n t : Nat} {ds : List PyData} (h : BA n t ds) (k : Nat) : BA n t (ds.take k) := by
  rw [← List.take_append_drop k ds] at h
  exact h.parts.1
theorem BA.drop {n t : Nat} {ds : List PyData} (h : BA n t ds) (k : Nat) : BA n t (ds.drop k) := by
  rw [← List.take_append_drop k ds] at h
  exact h.parts.2
theorem BA.cut {n t : Nat} {ds : List PyData} (h : BA n t ds) (lo hi : Option Int) : BA n t (cutD ds lo hi) := (h.drop _).take _
theorem BA.one {n m : Nat} {d : PyData} (h : Bd n m d) : BA n (m + 1) [d] := by
  refine ⟨?_, ?_, ?_, ?_⟩
  · simp only [PyData.leavesShortAll, h.lf, Bool.and_self]
  · simp only [PyData.showableAll, h.sh, Bool.and_self]
  · simp only [PyData.depthAll]
    have := h.dp
    omega
  · simp only [PyData.weightAll]
    have := h.wt
    omega
theorem BA.rev {n t : Nat} : ∀ {ds : List PyData}, BA n t ds → BA n t ds.reverse
  | [], h => h
  | d :: ds, h => by
    have e : d :: ds = [d] ++ ds := rfl
    have p := (e ▸ h : BA n t ([d] ++ ds)).parts
    have hw := h.wt
    simp only [PyData.weightAll] at hw
    have r : BA n (PyData.weightAll ds) ds.reverse := BA.rev ⟨p.2.lf, p.2.sh, p.2.dp, Nat.le_refl _⟩
    have o : BA n (d.weight + 1) [d] := ⟨p.1.lf, p.1.sh, p.1.dp, by simp only [PyData.weightAll]; omega⟩
    rw [List.reverse_cons]
    exact (r.append o).mono (Nat.le_refl _) (by omega)
theorem BA.tuple {n t : Nat} {ds : List PyData} (h : BA n t ds) : Bd (n + 1) t (.tuple ds) :=
  ⟨by simpa only [PyData.leavesShort] using h.lf, by simpa only [PyData.showable] using h.sh, by simp only [PyData.depth]; have := h.dp; omega, by simp only [PyData.weight]; exact h.wt⟩
theorem BA.list {n t : Nat} {ds : List PyData} (h : BA n t ds) : Bd (n + 1) t (.list ds) :=
  ⟨by simpa only [PyData.leavesShort] using h.lf, by simpa only [PyData.showable] using h.sh, by simp only [PyData.depth]; have := h.dp; omega, by simp only [PyData.weight]; exact h.wt⟩
/-- v is a tuple of the data ds, apart from some places -/
def Tp (as : List Addr) (H : Hp) (b : Addr) (ds : List PyData) : Prop := b ∉ as ∧ ∃ xs, H b = some (.tup xs) ∧ DA true (remL as H) xs ds
theorem Tp.same {as : List Addr} {H H' : Hp} {b : Addr} {ds : List PyData} (h : Tp as H b ds) (s : Same H H') : Tp as H' b ds := by
  obtain ⟨n, xs, e, t⟩ := h
  exact ⟨n, xs, s _ _ e, t.same (same_remL s)⟩
theorem Tp.kp {as : List Addr} {a : Addr} {H H' : Hp} {b : Addr} {ds : List PyData} (h : Tp as H b ds) (ha : a ∈ as) (k : Kp a H H') : Tp as H' b ds := by
  obtain ⟨n, xs, e, t⟩ := h
  exact ⟨n, xs, k _ _ (fun z => n (z ▸ ha)) e, t.same (k.remL ha)⟩
theorem Tp.d {as : List Addr} {H : Hp} {b : Addr} {ds : List PyData} (h : Tp as H b ds) : D true (remL as H) (.ref b) (.tuple ds) := by
  obtain ⟨n, xs, e, t⟩ := h
  exact .tup (by rw [remL_ne n]; exact e) t
end Lw

namespace Lw
open PySem PySem.Spec PyProof.Rows L2

/-! ### rows of ints, by their order -/
abbrev lex := HT.lexLt
theorem lex_cons (x y : Int) (xs ys : List Int) : lex (x :: xs) (y :: ys) = if x = y then lex xs ys else decide (x < y) := rfl
theorem lex_irr : ∀ x : List Int, lex x x = false
  | [] => rfl
  | a :: x => by
    rw [lex_cons, if_pos rfl]
    exact lex_irr x
theorem lex_asym : ∀ x y : List Int, lex x y = true → lex y x = false
  | [], [], h => by cases h
  | [], _ :: _, _ => rfl
  | _ :: _, [], h => by cases h
  | a :: x, b :: y, h => by
    rw [lex_cons] at h ⊢
    by_cases e : a = b
    · subst e
      rw [if_pos rfl] at h ⊢
      exact lex_asym x y h
    · rw [if_neg e, decide_eq_true_eq] at h
      rw [if_neg (fun z => e z.symm), decide_eq_false_iff_not]
      omega
theorem lex_tr : ∀ x y z : List Int, lex y x = false → lex z y = false → lex z x = false
  | [], [], [], _, _ => rfl
  | [], [], _ :: _, _, _ => rfl
  | [], _ :: _, [], _, h => by cases h
  | [], _ :: _, _ :: _, _, _ => rfl
  | _ :: _, [], _, h, _ => by cases h
  | _ :: _, _ :: _, [], _, h => by cases h
  | a :: x, b :: y, c :: z, h1, h2 => by
    rw [lex_cons] at h1 h2 ⊢
    by_cases e1 : b = a
    · subst e1
      rw [if_pos rfl] at h1
      by_cases e2 : c = b
      · subst e2
        rw [if_pos rfl] at h2 ⊢
        exact lex_tr x y z h1 h2
      · rw [if_neg e2] at h2 ⊢
        exact h2
    · rw [if_neg e1, decide_eq_false_iff_not] at h1
      by_cases e2 : c = b
      · subst e2
        rw [if_neg e1, decide_eq_false_iff_not]
        omega
      · rw [if_neg e2, decide_eq_false_iff_not] at h2
        rw [if_neg (show ¬ c = a by omega), decide_eq_false_iff_not]
        omega
theorem lex_eq : ∀ x y : List Int, lex x y = false → lex y x = false → x = y
  | [], [], _, _ => rfl
  | [], _ :: _, h, _ => by cases h
  | _ :: _, [], _, h => by cases h
  | a :: x, b :: y, h1, h2 => by
    rw [lex_cons] at h1 h2
    by_cases e : a = b
    · subst e
      rw [if_pos rfl] at h1 h2
      rw [lex_eq x y h1 h2]
    · rw [if_neg e, decide_eq_false_iff_not] at h1
      rw [if_neg (fun z => e z.symm), decide_eq_false_iff_not] at h2
      omega
theorem swo_key {α : Type} (k : α → List Int) : SrtO.Swo fun v u => lex (k v) (k u) :=
  ⟨fun x y h => lex_asym _ _ h, fun x y z h1 h2 => lex_tr _ _ _ h1 h2⟩

/-- v is a tuple of the ints ns -/
def TI (h : Heap) (v : Value) (ns : List Int) : Prop := ∃ (a : Addr) (o : Obj) (its : Array Value) (n : Nat), v = .ref a ∧ h.get? a = some o ∧ o.cls = .type "tuple" ∧ o.data = .seq its n ∧ IntsAre its.toList ns
theorem TI.keeps {h h' : Heap} {v : Value} {ns : List Int} (t : TI h v ns) (k : ∀ b o, h.get? b = some o → o.cls = .type "tuple" → h'.get? b = some o) : TI h' v ns := by
  obtain ⟨a, o, its, n, e, ho, hc, r⟩ := t
  exact ⟨a, o, its, n, e, k a o ho hc, hc, r⟩
section
variable {prog : Program} {w : World} {A : Around} {E : Value → Shared → Prop} {s : Shared} {Q : Bool → Shared → Prop}
theorem lex_walk {b : Bool} : ∀ {xs ys : List Value} {ns ms : List Int} {fin : Bool} (i : Nat), IntsAre xs ns → IntsAre ys ms → fin = decide (ns.length < ms.length) → Q (lex ns ms) s → PySem.W.KatLex prog w A b fin Q (xs.zip ys) i s
  | _, _, _, _, fin, i, .nil, .nil, hf, h => by
    subst hf
    exact PySem.W.kat_nil h
  | _, _, _, _, fin, i, .nil, .cons (ns := ms) m t hy, hf, h => by
    have e : fin = true := by
      rw [hf]
      exact decide_eq_true (by simp)
    rw [e]
    exact PySem.W.kat_nil (i := i) h
  | _, _, _, _, fin, i, .cons (ns := ns) m t hy, .nil, hf, h => by
    have e : fin = false := by
      rw [hf]
      exact decide_eq_false (by simp)
    rw [e]
    exact PySem.W.kat_nil (i := i) h
  | _, _, _, _, fin, i, .cons (ns := ns) x t hx, .cons (ns := ms) y u hy, hf, h => by
    refine PySem.W.kat_cons (SeqAt.EqAt.int_int x t y u prog w _ _ ?_)
    refine PySem.W.kat_go (fun e1 => ?_) (fun e1 => ?_)
    · have ex : x = y := by simpa using e1
      have h' : Q (lex ns ms) s := by
        rw [show lex (x :: ns) (y :: ms) = lex ns ms by rw [lex_cons, if_pos ex]] at h
        exact h
      refine PySem.W.kat_yes (lex_walk (i + 1) hx hy ?_ h')
      rw [hf]
      exact decide_eq_decide.mpr (by simp)
    · have ex : ¬ x = y := by simpa using e1
      have h' : Q (decide (x < y)) s := by
        rw [show lex (x :: ns) (y :: ms) = decide (x < y) by rw [lex_cons, if_neg ex]] at h
        exact h
      exact PySem.W.kat_no (TS.oneLt_ints _ h')
/-- the three ways in which two such tuples are compared -/
theorem ti_tuples {x y : Value} {ns ms : List Int} (hx : TI s.heap x ns) (hy : TI s.heap y ms) (h : Q (lex ns ms) s) : wpAny (model prog w) A (keyLt' (tuples' true) x y) Q E s := by
  obtain ⟨a, o, its, n, rfl, ho, hc, hd, hi⟩ := hx
  obtain ⟨b, p, jts, m, rfl, hp, hc2, hd2, hj⟩ := hy
  refine PySem.W.kat_lt ho hd hp hd2 (lex_walk 0 hi hj ?_ h)
  have e1 := hi.length
  have e2 := hj.length
  rw [Array.length_toList] at e1 e2
  rw [← e1, ← e2]
theorem ti_general {x y : Value} {ns ms : List Int} (hu : A.units < cLine) (hx : TI s.heap x ns) (hy : TI s.heap y ms) (h : Q (lex ns ms) s) : wpAny (model prog w) A (keyLt' general' x y) Q E s := by
  obtain ⟨a, o, its, n, rfl, ho, hc, hd, hi⟩ := hx
  obtain ⟨b, p, jts, m, rfl, hp, hc2, hd2, hj⟩ := hy
  show wpAny _ _ (oneLt' false (.ref a) (.ref b)) Q E s
  exact PySem.W.kat_one _ _ (HT.lt_tupInts ⟨o, ho, hc, n, hd⟩ ⟨p, hp, hc2, m, hd2⟩ hi hj hu h)
theorem ti_one {x y : Value} {ns ms : List Int} (hu : A.units < cLine) (hx : TI s.heap x ns) (hy : TI s.heap y ms) (h : Q (lex ns ms) s) : wpAny (model prog w) A (keyLt' oneType' x y) Q E s := by
  obtain ⟨a, ⟨cls, dd, data, sl⟩, its, n, rfl, ho, hc, hd, hi⟩ := hx
  obtain ⟨b, ⟨cls2, dd2, data2, sl2⟩, jts, m, rfl, hp, hc2, hd2, hj⟩ := hy
  simp only at hc hd hc2 hd2
  subst hc hd hc2 hd2
  rw [keyLt'_oneType, oneLt'_eq]
  simp only [if_true]
  refine wpAny_bind (wpAny_cRoomFor hu ?_)
  refine wpAny_bind (wpAny_callSpecialIfBound?_slot ⟨_, ho, rfl⟩ PySem.F.slot_tuple_lt (call_meets PySem.F.slot_tuple_lt ⟨_, ho, rfl⟩ PySem.F.entry_tuple_lt (PySem.F.args_tuple_lt_2 _ _)
    (HT.tuple_lt_ints a b its jts n m dd dd2 sl sl2 ns ms hi hj) ⟨ho, hp, ?_⟩))
  exact wpAny_truthy_bool h
end
section
variable {M : Model} {A : Around} {E : Value → Shared → Prop} {s : Shared}
/-- the first part of a tuple -/
def fstH (h : Heap) : Value → Option Value
  | .ref a => match h.get? a with
    | some o => match o.data with
      | .seq its _ => its[0]?
      | _ => none
    | none => none
  | _ => none
theorem fst_ti {h : Heap} {a : Addr} {o : Obj} {its : Array Value} {n : Nat} (ho : h.get? a = some o) (hd : o.data = .seq its n) : fstH h (.ref a) = its[0]? := by
  unfold fstH
  simp only [ho, hd]
theorem fst_some {h : Heap} {v : Value} {ns : List Int} (t : TI h v ns) : (fstH h v).isSome = true ↔ ns ≠ [] := by
  obtain ⟨a, o, its, n, e, ho, hc, hd, hi⟩ := t
  subst e
  rw [fst_ti ho hd, ← Array.getElem?_toList]
  generalize its.toList = l at hi
  cases hi with
  | nil => simp
  | cons x t r => simp
theorem firsts_run {k : Value → List Int} : ∀ (vs : List Value) {Q : List (Option Value) → Shared → Prop}, (∀ v ∈ vs, TI s.heap v (k v)) → Q (vs.map (fstH s.heap)) s → wpAny M A (vs.mapM firstOfTuple') Q E s
  | [], _, _, h => by
    rw [List.mapM_nil]
    exact wpAny_pure h
  | v :: vs, Q, hp, h => by
    obtain ⟨a, o, its, n, e, ho, hc, hd, hi⟩ := hp v List.mem_cons_self
    subst e
    rw [List.mapM_cons]
    refine wpAny_bind ?_
    rw [PySem.W.kas_first_eq]
    refine wpAny_bind (PySem.W.Looks.here (show PySem.W.Looks M s.heap (typeOf (.ref a)) o.cls from (PySem.W.Looks.ld ho).andThen .now) ?_)
    rw [hc, if_neg (by first | decide | simp)]
    refine wpAny_bind (listItems_at ho hd (wpAny_pure ?_))
    refine wpAny_bind (firsts_run vs (Q := fun bs s' => wpAny M A (pure (its[0]? :: bs)) Q E s') (fun u hu => hp u (List.mem_cons_of_mem _ hu)) (wpAny_pure ?_))
    rw [List.map_cons, fst_ti ho hd] at h
    exact h
theorem types_tup {k : Value → List Int} {vs : List Value} (h : ∀ v ∈ vs, TI s.heap v (k v)) (h0 : 0 < vs.length) {Q : Option Value → Shared → Prop} (hq : Q (some (.type "tuple")) s) : wpAny M A (oneTypeOnly' vs.toArray) Q E s := by
  rw [oneTypeOnly'_eq, List.mapM_toArray, map_eq_pure_bind]
  refine wpAny_bind (wpAny_bind (PySem.W.kas_mapM (r := Value.type "tuple") _ (fun v hv Q' hq' => ?_) (wpAny_pure ?_)))
  · obtain ⟨a, o, its, n, e, ho, hc, _⟩ := h v hv
    subst e
    have l : PySem.W.Looks M s.heap (typeOf (.ref a)) o.cls := (PySem.W.Looks.ld ho).andThen .now
    rw [hc] at l
    exact l.here hq'
  · have all : ((List.map (fun _ => Value.type "tuple") vs).toArray.all fun x => x == Value.type "tuple") = true := by
      simp only [List.all_toArray, List.all_map, List.all_eq_true]
      intro _ _
      rfl
    have at0 : (List.map (fun _ => Value.type "tuple") vs).toArray[0]? = some (Value.type "tuple") := by
      match vs, h0 with
      | v :: vs, _ => simp
    rw [at0]
    simp only [all, if_true]
    exact wpAny_pure hq
end
section
variable {prog : Program} {w : World} {A : Around} {E : Value → Shared → Prop} {s : Shared}
theorem tups_sortable {a : Addr} {vs : List Value} {k : Value → List Int} (hu : A.units < cLine) (h0 : 0 < vs.length) (hp : ∀ v ∈ vs, TI s.heap v (k v)) (ha : ∀ o, s.heap.get? a = some o → o.cls ≠ .type "tuple") :
    SrtO.SortableO prog w A s a vs fun v u => lex (k v) (k u) := by
  intro h' keep
  have hp' : ∀ v ∈ vs, TI h' v (k v) := fun v hm => (hp v hm).keeps fun b o e c => keep b o (fun z => by subst z; exact ha o e c) e
  by_cases hall : ∀ v ∈ vs, k v ≠ []
  · refine ⟨tuples' true, fun Q E hq => ?_, fun p q hm hm' => ti_tuples (hp' _ hm) (hp' _ hm') ⟨rfl, rfl⟩⟩
    have ks : ∀ us : List Value, (∀ v ∈ us, TI h' v (k v) ∧ k v ≠ []) → ∃ fs : List Value, PySem.W.KatTups h' us fs ∧ fs.length = us.length ∧ ∀ f ∈ fs, ∃ x t, f = Value.int x t := by
      intro us
      induction us with
      | nil => intro _; exact ⟨[], PySem.W.KatTups.nil, rfl, fun f hf => by cases hf⟩
      | cons u us ih =>
        intro hus
        obtain ⟨fs, f1, f2, f3⟩ := ih fun v hv => hus v (List.mem_cons_of_mem _ hv)
        obtain ⟨⟨b, o, its, n, e, ho, hc, hd, hi⟩, hne⟩ := hus u List.mem_cons_self
        subst e
        obtain ⟨x, t, hx⟩ : ∃ x t, its[0]? = some (Value.int x t) := by
          rw [← Array.getElem?_toList]
          generalize its.toList = l at hi
          generalize k (.ref b) = ns at hi hne
          cases hi with
          | nil => exact absurd rfl hne
          | cons x t r => exact ⟨x, t, rfl⟩
        refine ⟨.int x t :: fs, PySem.W.KatTups.cons ho hc hd hx f1, by rw [List.length_cons, List.length_cons, f2], fun f hf => ?_⟩
        rcases List.mem_cons.mp hf with e | hf
        · exact ⟨x, t, e⟩
        · exact f3 f hf
    obtain ⟨fs, f1, f2, f3⟩ := ks vs fun v hv => ⟨hp' v hv, hall v hv⟩
    refine PySem.W.kat_kind (T := .type "int") f1 (by omega) (fun f hm => ?_) (by rfl) ?_
    · obtain ⟨x, t, rfl⟩ := f3 f hm
      exact PySem.W.Looks.now
    · have e : (Value.type "int" != Value.type "tuple") = true := by
        first
          | decide +kernel
          | rfl
      rw [e]
      exact hq
  · have notall : ¬ ((vs.map (fstH h')).toArray.all fun x => x.isSome) = true := fun z => hall fun v hv => by
      rw [List.all_toArray, List.all_eq_true] at z
      exact (fst_some (hp' v hv)).mp (z _ (List.mem_map.mpr ⟨v, hv, rfl⟩))
    by_cases h1 : (((vs.map (fstH h')).toArray[0]?).bind id).isSome = true
    · refine ⟨general', fun Q E hq => ?_, fun p q hm hm' => ti_general hu (hp' _ hm) (hp' _ hm') ⟨rfl, rfl⟩⟩
      rw [keyKind'_eq, List.mapM_toArray, map_eq_pure_bind]
      refine wpAny_bind (wpAny_bind (firsts_run (s := { s with heap := h' }) (k := k) vs hp' (wpAny_pure ?_)))
      rw [if_neg notall, if_pos h1]
      exact wpAny_pure hq
    · refine ⟨oneType', fun Q E hq => ?_, fun p q hm hm' => ti_one hu (hp' _ hm) (hp' _ hm') ⟨rfl, rfl⟩⟩
      rw [keyKind'_eq, List.mapM_toArray, map_eq_pure_bind]
      refine wpAny_bind (wpAny_bind (firsts_run (s := { s with heap := h' }) (k := k) vs hp' (wpAny_pure ?_)))
      rw [if_neg notall, if_neg h1]
      exact wpAny_bind (types_tup (s := { s with heap := h' }) hp' h0 (wpAny_pure hq))
end
/-! ### sorted of a tuple -/
section
variable {prog : Program} {w : World} {A : Around} {E : Value → Shared → Prop} {s : Shared}
theorem collect_tup {l : Addr} {vs : List Value} {Q : List Value → Shared → Prop} (hl : IsTup s.heap l vs.toArray) (hsz : vs.length ≤ sizeLine)
    (h : Q vs { s with heap := (s.heap.push (seqObj "list" #[] 0)).update s.heap.objs.size (Obj.mapSeq (· ++ vs.toArray)) }) : wpAny (model prog w) A (collect (.ref l)) Q E s := by
  obtain ⟨o, ho, hc, n, hd⟩ := id hl
  unfold collect
  refine wpAny_bind (wpAny_runValue (codeAny_builtin entry_proto_collect' ?_))
  show wpAny _ _ (do again (.builtin "list.__iadd__" ⟨[← newList [], .ref l], []⟩)) _ _ s
  refine wpAny_bind (wpAny_newList (wpAny_pure ⟨Code.quiet_builtin _ (by decide +kernel), codeAny_builtin entry_list_iadd' ?_⟩))
  show wpAny _ _ (Builtin.List.listExtendWith (.ref s.heap.objs.size) (.ref l) (.ref s.heap.objs.size)) _ _ { s with heap := s.heap.push (seqObj "list" #[] 0) }
  unfold Builtin.List.listExtendWith
  have old : (s.heap.push (seqObj "list" #[] 0)).get? l = some o := Heap.get?_push_of_some _ ho
  refine wpAny_bind (wpAny_typeOf (T := "tuple") ⟨o, old, hc⟩ ?_)
  have yes : (Value.type "tuple" == Value.type "tuple") = true := by rfl
  rw [if_pos (by rw [yes]; simp)]
  refine wpAny_bind (listItems_at old hd ?_)
  refine wpAny_bind (listItems_at (xs := #[]) (n := 0) (Heap.get?_push_size _ rfl) rfl ?_)
  rw [if_neg (by simp)]
  refine wpAny_bind (listUpdate_at (xs := #[]) (n := 0) (Heap.get?_push_size _ rfl) rfl ?_ (Nat.zero_le _)
    (by show (#[] ++ vs.toArray).size ≤ sizeLine + 1; simp only [Array.size_append, List.size_toArray, List.length_nil]; omega))
  refine wpAny_pure ?_
  show wpAny (model prog w) A (do
      let o ← load s.heap.objs.size
      match o.data with
      | .seq xs _ => pure xs.toList
      | _ => unsupported "internal:collect") Q E { s with heap := (s.heap.push (seqObj "list" #[] 0)).update s.heap.objs.size (Obj.mapSeq (· ++ vs.toArray)) }
  refine wpAny_bind (wpAny_load (get?_update_seq (Heap.get?_push_size _ rfl) _) ?_)
  show wpAny _ _ (pure ((#[] : Array Value) ++ vs.toArray).toList) Q E _
  have e : ((#[] : Array Value) ++ vs.toArray).toList = vs := by simp
  rw [e]
  exact wpAny_pure h
/-- sorted(t, reverse=True), t a tuple or a list of tuples of ints -/
theorem sorted_tups {l : Addr} {vs : List Value} {k : Value → List Int} {Q : Value → Shared → Prop} (hu : A.units + 2 < cLine) (hl : IsTup s.heap l vs.toArray ∨ s.heap.IsList l vs.toArray) (hz : vs.length ≤ sizeLine) (hp : ∀ v ∈ vs, TI s.heap v (k v))
    (h : ∀ out : List Value, out.Perm vs → out.Pairwise (fun x y => lex (k x) (k y) = false) → Q (.ref (s.heap.objs.size + 1)) { s with heap := sortedAll s.heap vs out.toArray }) :
    wpAny (model prog w) A (call (.builtin "sorted") [.ref l] [(Str.ofString "reverse", .bool true)]) Q E s := by
  have fin : ∀ out : List Value, SrtO.Srtd (fun v u => lex (k v) (k u)) out → SrtO.Stb (fun v u => lex (k v) (k u)) out (if true = true then vs.reverse else vs) →
      Q (.ref (s.heap.objs.size + 1)) { s with heap := sortedAll s.heap vs (if true = true then out.toArray.reverse else out.toArray) } := by
    intro out h1 h2
    rw [if_pos rfl] at h2 ⊢
    have e : out.toArray.reverse = out.reverse.toArray := by simp
    rw [e]
    refine h _ (((List.reverse_perm out).trans h2.perm).trans (List.reverse_perm vs)) ?_
    exact List.pairwise_reverse.mpr h1
  have sortable : 2 ≤ vs.length → ∀ (h₁ : Heap) (a : Addr), h₁.get? a = some (seqObj "list" vs.toArray 0) → (∀ b o, s.heap.get? b = some o → b ≠ a ∧ h₁.get? b = some o) →
      SrtO.SortableO prog w A.in1.in1 { s with heap := h₁ } a vs fun v u => lex (k v) (k u) := by
    intro h2 h₁ a ha kk
    refine tups_sortable (s := { s with heap := h₁ }) (by show A.units + 1 + 1 < cLine; omega) (by omega) (fun v hm => (hp v hm).keeps fun b o e _ => (kk b o e).2) fun o e => ?_
    have e' : some o = some (seqObj "list" vs.toArray 0) := e.symm.trans ha
    cases e'
    exact fun c => absurd (Value.type.inj c) (by decide)
  rcases hl with hl | hl
  · refine call_function_entry_kw kind_sorted plain_sorted entry_sorted (args_sorted_rev _ _) ?_
    unfold Builtin.«sorted»
    refine wpAny_bind (m := checkCount "sorted" 1 1 _) (wpAny_pure ?_)
    refine wpAny_bind (collect_tup hl hz ?_)
    refine wpAny_bind (wpAny_newList ?_ hz)
    have sz : ((s.heap.push (seqObj "list" #[] 0)).update s.heap.objs.size (Obj.mapSeq (· ++ vs.toArray))).objs.size = s.heap.objs.size + 1 := by
      rw [Heap.size_update, size_push']
    have new : (((s.heap.push (seqObj "list" #[] 0)).update s.heap.objs.size (Obj.mapSeq (· ++ vs.toArray))).push (seqObj "list" vs.toArray 0)).get? (s.heap.objs.size + 1) = some (seqObj "list" vs.toArray 0) := by
      rw [← sz]
      exact Heap.get?_push_size _ rfl
    have keep : ∀ b o, s.heap.get? b = some o → b ≠ s.heap.objs.size + 1 ∧ (((s.heap.push (seqObj "list" #[] 0)).update s.heap.objs.size (Obj.mapSeq (· ++ vs.toArray))).push (seqObj "list" vs.toArray 0)).get? b = some o := by
      intro b o q
      have lt : b < s.heap.objs.size := Heap.lt_size q
      refine ⟨Nat.ne_of_lt (Nat.lt_succ_of_lt lt), Heap.get?_push_of_some _ ?_⟩
      rw [Heap.get?_update_ne _ _ _ _ (Nat.ne_of_lt lt)]
      exact Heap.get?_push_of_some _ q
    show wpAny _ _ _ _ _ { s with heap := ((s.heap.push (seqObj "list" #[] 0)).update s.heap.objs.size (Obj.mapSeq (· ++ vs.toArray))).push (seqObj "list" vs.toArray 0) }
    rw [sz]
    refine wpAny_bind (wpAny_holding (wpAny_call_entry_kw slot_list_sort ⟨_, new, rfl⟩ entry_list_sort ?_ (args_list_sort_rev _ _)))
    refine SrtR.list_sort_ordR (swo_key k) new hz (fun h2 => sortable h2 _ _ new keep) fun out hs hb => ⟨_, rfl, ?_⟩
    exact wpAny_pure ⟨_, rfl, fin out hs hb⟩
  · exact SrtR.sorted_ordK (fun _ => rfl) (args_sorted_rev _ _) (fun _ => args_list_sort_rev _ _) (swo_key k) hl hz sortable fin
end
section
variable {X : Cx}
def rSortTR (K : PySem.W.Frag) : List V → List V → Hp → VK → Prop := fun vs zs H Q => ∃ (a : Addr) (xs : List V) (k : V → List Int), vs = [V.ref a] ∧ zs = [V.bl true] ∧ (SqT K H a xs ∨ SqL K H a xs) ∧
  (∀ x ∈ xs, ∃ t, x = V.ref t ∧ H t = some (.tup ((k x).map V.int))) ∧
  ∀ ys p, ys.Perm xs → ys.Pairwise (fun x y => lex (k x) (k y) = false) → H p = none → Q (.ref p) (upd H p (.lst ys))
theorem cr_sortTR {r : Nat} (room : Room r X.A) : CallRK X (.builtin "sorted") [Str.ofString "reverse"] (rSortTR X.K) := by
  intro pins s σ H vs zs us ws Q I r rz h
  obtain ⟨a, xs, k, rfl, rfl, hs, hx, q⟩ := h
  obtain rfl := Vals.ref1 r
  obtain ⟨w1, rfl, e1⟩ := vals1 rz
  obtain rfl : w1 = Value.bool true := e1
  obtain ⟨its, rv, hl, hz⟩ : ∃ its : List Value, Vals xs its ∧ (IsTup s.heap a its.toArray ∨ s.heap.IsList a its.toArray) ∧ xs.length ≤ sizeLine := by
    rcases hs with hs | hs
    · obtain ⟨its, rv, p, hz⟩ := I.tuple hs
      exact ⟨its, rv, .inl p, hz⟩
    · obtain ⟨its, rv, p, hz⟩ := I.list hs
      exact ⟨its, rv, .inr p.isList, hz⟩
  obtain ⟨e1, e2⟩ := refs_back rv fun x m => by
    obtain ⟨t, e, _⟩ := hx x m
    exact ⟨t, e⟩
  refine sorted_tups (k := fun u => k (backV u)) (by have := room.un; omega) hl (by rw [← rv.length]; exact hz) (fun v hv => ?_) fun out h1 h2 => ?_
  · obtain ⟨t, rfl⟩ := e2 v hv
    have hm : V.ref t ∈ xs := by
      rw [e1]
      exact List.mem_map.mpr ⟨_, hv, rfl⟩
    obtain ⟨t', e, ht⟩ := hx _ hm
    cases e
    obtain ⟨_, its2, r2, o, ho, hc, n, hd⟩ := I.hok _ _ ht
    exact ⟨t, o, its2.toArray, n, rfl, ho, hc, hd, intsAre_of r2⟩
  · have h3 : ∀ u ∈ out, ∃ b, u = Value.ref b := fun u hu => e2 u (h1.mem_iff.mp hu)
    obtain ⟨n, hn⟩ := PyProof.Rows.sortedAll_at s.heap its out.toArray
    have hb : (out.map backV).Perm xs := by
      rw [e1]
      exact h1.map backV
    refine ⟨.ref _, upd H (s.heap.objs.size + 1) (.lst (out.map backV)), I.laid (t' := s.toks) (fun _ _ => PyProof.Rows.sortedAll_old) (Nat.le_succ _) ⟨?_, out, n, vals_back h3, hn⟩, rfl, q _ _ hb (List.pairwise_map.mpr h2) (I.hok.fresh (Nat.le_succ _))⟩
    rw [hb.length_eq]
    exact hz
end
end Lw

namespace Lw
open PySem PySem.Spec PyProof.Rows L2

/-! ### comprehensions over a tuple, over a range -/
/-- what a comprehension's reading asks behind its source -/
def LcEnd (J : It) (g : TG) (tt : TT) (te : TE) (vs : List Nat) (σ : L2.St) (H1 : Hp) (D : Addr) (Qd : Hp → Prop) : Prop :=
  ∃ W : Nat → Nat → Hp → Prop, (∃ m, W 0 m (upd H1 D (.lst []))) ∧ ∀ i m H, W i m H →
    (J.stop i H ∧ Qd H) ∨ (J.go i H ∧ ∃ Nx : Hp → Prop, (∀ H', Nx H' → ∃ m', m' < m ∧ W (i + 1) m' H') ∧ ∀ x H', J.yld i H x H' → g x (wipe σ vs) H' fun σ2 H2 => wipe σ2 vs = wipe σ vs ∧ tt σ2 H2 fun b H3 =>
      if b = true then te σ2 H3 fun y H4 => ∃ acc, H4 D = some (.lst acc) ∧ acc.length < sizeLine ∧ Nx (upd H4 D (.lst (acc ++ [y]))) else Nx H3)
theorem lc_tup {K : PySem.W.Frag} {a : Addr} {xs : List V} {g : TG} {tt : TT} {te : TE} {vs : List Nat} {σ : L2.St} {H1 : Hp} {D : Addr} {Qd : Hp → Prop} (Pv : Nat → Hp → Prop) (h0 : Pv 0 (upd H1 D (.lst []))) (hl : ∀ i H, i ≤ xs.length → Pv i H → SqT K H a xs)
    (hs : ∀ i x H, xs[i]? = some x → Pv i H → g x (wipe σ vs) H fun σ2 H2 => wipe σ2 vs = wipe σ vs ∧ tt σ2 H2 fun b H3 =>
      if b = true then te σ2 H3 fun y H4 => ∃ acc, H4 D = some (.lst acc) ∧ acc.length < sizeLine ∧ Pv (i + 1) (upd H4 D (.lst (acc ++ [y]))) else Pv (i + 1) H3) (hd : ∀ H, Pv xs.length H → Qd H) :
    LcEnd (Itt K a) g tt te vs σ H1 D Qd := by
  refine ⟨fun i m H => m = xs.length - i ∧ i ≤ xs.length ∧ Pv i H, ⟨xs.length, by simp, Nat.zero_le _, h0⟩, ?_⟩
  rintro i m H ⟨rfl, hi, p⟩
  have q := hl i H hi p
  by_cases lt : i < xs.length
  · refine Or.inr ⟨⟨xs, xs[i], q, by simp [lt]⟩, Pv (i + 1), ?_, ?_⟩
    · intro H' p'
      exact ⟨xs.length - (i + 1), by omega, rfl, lt, p'⟩
    · rintro x H' ⟨e, y⟩
      subst e
      exact hs i x _ (y xs q) p
  · have e : i = xs.length := by omega
    subst e
    exact Or.inl ⟨⟨xs, q, Nat.le_refl _⟩, hd H p⟩
theorem lc_range {lo : Int} {n : Nat} {g : TG} {tt : TT} {te : TE} {vs : List Nat} {σ : L2.St} {H1 : Hp} {D : Addr} {Qd : Hp → Prop} (Pv : Nat → Hp → Prop) (h0 : Pv 0 (upd H1 D (.lst [])))
    (hs : ∀ i H, i < n → Pv i H → g (.int (lo + i)) (wipe σ vs) H fun σ2 H2 => wipe σ2 vs = wipe σ vs ∧ tt σ2 H2 fun b H3 =>
      if b = true then te σ2 H3 fun y H4 => ∃ acc, H4 D = some (.lst acc) ∧ acc.length < sizeLine ∧ Pv (i + 1) (upd H4 D (.lst (acc ++ [y]))) else Pv (i + 1) H3) (hd : ∀ H, Pv n H → Qd H) :
    LcEnd (Itr lo n) g tt te vs σ H1 D Qd := by
  refine ⟨fun i m H => m = n - i ∧ i ≤ n ∧ Pv i H, ⟨n, by simp, Nat.zero_le _, h0⟩, ?_⟩
  rintro i m H ⟨rfl, hi, p⟩
  by_cases lt : i < n
  · refine Or.inr ⟨lt, Pv (i + 1), ?_, ?_⟩
    · intro H' p'
      exact ⟨n - (i + 1), by omega, rfl, lt, p'⟩
    · rintro x H' ⟨e, y⟩
      subst e y
      exact hs i _ lt p
  · have e : i = n := by omega
    subst e
    exact Or.inl ⟨Nat.le_refl _, hd H p⟩

/-! ### the k-th greatest -/
section
variable {α : Type}
def above (key : α → List Int) (xs : List α) (v : α) : Nat := (xs.filter fun x => lex (key v) (key x)).length
def below (key : α → List Int) (xs : List α) (v : α) : Nat := (xs.filter fun x => lex (key x) (key v)).length
structure IsKth (key : α → List Int) (xs : List α) (k : Nat) (v : α) : Prop where
  up : above key xs v < k
  dn : below key xs v + k ≤ xs.length
theorem filter_false {p : α → Bool} {l : List α} (h : ∀ x ∈ l, p x = false) : l.filter p = [] :=
  List.filter_eq_nil_iff.mpr fun x hx => by
    rw [h x hx]
    exact Bool.false_ne_true
theorem kth_parts {key : α → List Int} {xs A B : List α} {v : α} (hp : (A ++ v :: B).Perm xs) (hs : (A ++ v :: B).Pairwise fun x y => lex (key x) (key y) = false) : IsKth key xs (A.length + 1) v := by
  obtain ⟨h1, h2, h3⟩ := List.pairwise_append.mp hs
  obtain ⟨h4, h5⟩ := List.pairwise_cons.mp h2
  have up : ∀ x ∈ v :: B, lex (key v) (key x) = false := by
    intro x hx
    rcases List.mem_cons.mp hx with z | hx
    · rw [z]
      exact lex_irr _
    · exact h4 x hx
  have dn : ∀ x ∈ A, lex (key x) (key v) = false := fun x hx => h3 x hx _ List.mem_cons_self
  have n1 : above key xs v = ((A ++ v :: B).filter fun x => lex (key v) (key x)).length := (hp.filter _).length_eq.symm
  have n2 : below key xs v = ((A ++ v :: B).filter fun x => lex (key x) (key v)).length := (hp.filter _).length_eq.symm
  rw [List.filter_append, filter_false up, List.append_nil] at n1
  rw [List.filter_append, filter_false dn, List.nil_append, List.filter_cons_of_neg (by rw [lex_irr]; exact Bool.false_ne_true)] at n2
  have f1 := List.length_filter_le (fun x => lex (key v) (key x)) A
  have f2 := List.length_filter_le (fun x => lex (key x) (key v)) B
  have hl := hp.length_eq
  rw [List.length_append, List.length_cons] at hl
  exact ⟨by omega, by omega⟩
theorem kth_of_sorted {key : α → List Int} {xs ys : List α} {k : Nat} {v : α} (hp : ys.Perm xs) (hs : ys.Pairwise fun x y => lex (key x) (key y) = false) (h : ys[k]? = some v) : IsKth key xs (k + 1) v := by
  obtain ⟨hk, hv⟩ := List.getElem?_eq_some_iff.mp h
  have e : ys = ys.take k ++ v :: ys.drop (k + 1) := by
    rw [← hv, ← List.drop_eq_getElem_cons hk]
    exact (List.take_append_drop k ys).symm
  have lt : (ys.take k).length = k := by
    rw [List.length_take]
    omega
  have r := kth_parts (key := key) (xs := xs) (A := ys.take k) (v := v) (B := ys.drop (k + 1)) (by rw [← e]; exact hp) (by rw [← e]; exact hs)
  rw [lt] at r
  exact r
theorem filter_le {p q : α → Bool} : ∀ {l : List α}, (∀ x, p x = true → q x = true) → (l.filter p).length ≤ (l.filter q).length
  | [], _ => Nat.le_refl _
  | x :: l, h => by
    have ih := filter_le (l := l) h
    cases hp : p x with
    | true =>
      rw [List.filter_cons_of_pos hp, List.filter_cons_of_pos (h x hp), List.length_cons, List.length_cons]
      omega
    | false =>
      rw [List.filter_cons_of_neg (by rw [hp]; exact Bool.false_ne_true)]
      cases hq : q x with
      | true =>
        rw [List.filter_cons_of_pos hq, List.length_cons]
        omega
      | false =>
        rw [List.filter_cons_of_neg (by rw [hq]; exact Bool.false_ne_true)]
        exact ih
theorem filter_split {p : α → Bool} : ∀ l : List α, (l.filter p).length + (l.filter fun x => !p x).length = l.length
  | [] => rfl
  | x :: l => by
    have ih := filter_split (p := p) l
    cases hp : p x with
    | true =>
      rw [List.filter_cons_of_pos hp, List.filter_cons_of_neg (by rw [hp]; decide), List.length_cons, List.length_cons]
      omega
    | false =>
      rw [List.filter_cons_of_neg (by rw [hp]; decide), List.filter_cons_of_pos (by rw [hp]; rfl), List.length_cons, List.length_cons]
      omega
theorem kth_less {key : α → List Int} {xs : List α} {k : Nat} {u v : α} (hu : IsKth key xs k u) (hv : IsKth key xs k v) : lex (key u) (key v) = false := by
  cases h : lex (key u) (key v) with
  | false => rfl
  | true =>
    exfalso
    have O := swo_key key
    have e1 : (xs.filter fun x => !lex (key x) (key v)).length ≤ above key xs u := by
      refine filter_le fun x hx => ?_
      have hx' : lex (key x) (key v) = false := by simpa using hx
      exact O.ltle (x := u) (y := v) (z := x) h hx'
    have e2 := filter_split (p := fun x => lex (key x) (key v)) xs
    have e3 : (xs.filter fun x => lex (key x) (key v)).length = below key xs v := rfl
    have := hu.up
    have := hv.dn
    omega
theorem kth_same {key : α → List Int} {xs : List α} {k : Nat} {u v : α} (hu : IsKth key xs k u) (hv : IsKth key xs k v) : key u = key v := lex_eq _ _ (kth_less hu hv) (kth_less hv hu)
end
end Lw

namespace Lw
open PySem PySem.Spec PyProof.Rows L2

/-! ### a text once or not at all -/
def rMulS : R2 := fun x y H Q => ∃ (z : Str) (b : Bool), x = .str z ∧ y = .int (if b = true then 1 else 0) ∧ Q (.str (if b = true then z else Str.empty)) H
theorem op_mulS {X : Cx} : OpR X (binaryOp .Mult) rMulS := by
  intro pins s σ H x y v u Q I rx ry h
  obtain ⟨z, b, rfl, rfl, q⟩ := h
  obtain ⟨t, rfl⟩ := rx
  obtain ⟨t', rfl⟩ := ry
  cases b with
  | false => exact PySem.P.mul_str_none (by decide) (by decide) ⟨.str Str.empty, H, I.tok _, ⟨_, rfl⟩, q⟩
  | true =>
    refine PySem.P.mul_str (by decide) (fun _ e => ?_) (fun _ e => ?_) ?_
    · exact absurd e (by simp)
    · exact absurd e (by simp)
    · exact ⟨.str z, H, I, ⟨_, rfl⟩, q⟩

/-! ### a tuple once, or several times -/
theorem tuple_mul1 (l : Addr) (items : Array Value) (n : Nat) (dd : Option Addr) (sl : Array (Option Value)) (u : Tok) :
    Meets (Builtin.«tuple.__mul__» ⟨[.ref l, .int 1 u], []⟩) (fun _ R s => s.heap.get? l = some { cls := .type "tuple", dict := dd, data := .seq items n, slots := sl } ∧ R (.ok (.ret (Value.ref l))) s) :=
  .of_wp fun prog w A R s h => by
    obtain ⟨hp, g, d, tk, os⟩ := s
    obtain ⟨hl, h⟩ := h
    have f1 := AutoSeq1.idx_int
    wp_walk using wpAny_loadPart' hl
    exact ⟨_, rfl, h⟩
def rRepU : R2 := fun x y H Q => ∃ l k xs, x = .ref l ∧ y = .int k ∧ H l = some (.tup xs) ∧ xs ≠ [] ∧ 1 ≤ k ∧ k ≤ 1000 ∧ xs.length ≤ 1000 ∧
  ∀ p H', Same H H' → H' p = some (.tup (List.replicate k.toNat xs).flatten) → (p = l ∨ H p = none) → Q (.ref p) H'
theorem op_repU {X : Cx} : OpR X (binaryOp .Mult) rRepU := by
  intro pins s σ H x y v u Q I rx ry h
  obtain ⟨l, k, xs, rfl, rfl, hT, hne, h1, h2, hz, q⟩ := h
  by_cases hk : k = 1
  · subst hk
    cases rx
    obtain ⟨t, rfl⟩ := ry
    obtain ⟨its, r, ⟨⟨cls, dd, data, sl⟩, ho, hc, n, hd⟩, hs⟩ := I.tuple (SqT.of hT)
    simp only at hc hd
    subst hc hd
    refine wpAny_binaryOp_repeat_ref (T := "tuple") (U := "int") (by decide) ⟨_, ho, rfl⟩ (fun s' => typeIs_int s' 1 t) noFill_tuple_mul F.fills_int_mul F.slot_int_rmul repeat_tuple F.slot_int_index.lookup
      (call_meets F.slot_int_rmul (typeIs_int s 1 t) F.entry_int_rmul (F.args_int_rmul_2 _ _) (int_rmul_tuple 1 t l its.toArray n dd sl)
        ⟨ho, rfl, ⟨_, ho, rfl⟩, call_meets F.slot_tuple_mul ⟨_, ho, rfl⟩ F.entry_tuple_mul (F.args_tuple_mul_2 _ _) (tuple_mul1 l its.toArray n dd sl t) ⟨ho, ?_⟩⟩)
    refine ⟨.ref l, H, I, rfl, q l H (Same.refl H) ?_ (Or.inl rfl)⟩
    have e : (List.replicate (1 : Int).toNat xs).flatten = xs := by
      show (List.replicate 1 xs).flatten = xs
      simp
    rw [e]
    exact hT
  · exact op_repT pins s σ H _ _ v u Q I rx ry ⟨l, k, xs, rfl, rfl, SqT.of hT, hne, by omega, h2, hz, fun p np => q p _ (upd_grow np) upd_same (Or.inr np)⟩

/-! ### len, the written part told -/
def rLen (K : PySem.W.Frag) : List V → Hp → VK → Prop := fun xs H Q => ∃ p ys, xs = [V.ref p] ∧ (SqL K H p ys ∨ SqT K H p ys) ∧ Q (.int ys.length) H
theorem call_lenK {X : Cx} {K : PySem.W.Frag} (h : X.K = K := by rfl) : CallR X (.builtin "len") (rLen K) := by
  subst h
  exact call_len_seq
def rIsiKK (K : PySem.W.Frag) : List V → Hp → VK → Prop := rIsi K
theorem call_isiKK {X : Cx} {K : PySem.W.Frag} (h : X.K = K := by rfl) : CallR X (.builtin "isinstance") (rIsi K) := by
  subst h
  exact call_isi

/-! ### texts of letters -/
def Lt (z : Str) : Prop := ∀ c ∈ z.cps.toList, 97 ≤ c ∧ c ≤ 122
theorem app_cps (x y : Str) : (x ++ y).cps.toList = x.cps.toList ++ y.cps.toList := by
  show (x.cps ++ y.cps).toList = _
  simp
theorem len_cps (z : Str) : z.length = z.cps.toList.length := by
  show z.cps.size = _
  simp
theorem lt_app {x y : Str} (hx : Lt x) (hy : Lt y) : Lt (x ++ y) := by
  intro c hc
  rw [app_cps] at hc
  rcases List.mem_append.mp hc with h | h
  · exact hx c h
  · exact hy c h
theorem lt_one {c : Nat} (h : 97 ≤ c ∧ c ≤ 122) : Lt ⟨#[c]⟩ := by
  intro d hd
  have e : d = c := by simpa using hd
  rw [e]
  exact h
theorem lt_empty : Lt Str.empty := by
  intro c hc
  exact absurd hc (by decide +revert)
theorem lt_cut {z : Str} (h : Lt z) (lo hi : Option Int) : Lt (cutS z lo hi) := by
  intro c hc
  have hc' : c ∈ (z.cps.toList.drop (HT.sIx z.length 0 lo)).take (HT.sIx z.length z.length hi - HT.sIx z.length 0 lo) := by
    have : (cutS z lo hi).cps.toList = (z.cps.toList.drop (HT.sIx z.length 0 lo)).take (HT.sIx z.length z.length hi - HT.sIx z.length 0 lo) := by
      unfold cutS
      simp
    rw [← this]
    exact hc
  exact h c (List.mem_of_mem_drop (List.mem_of_mem_take hc'))
theorem cut_len (z : Str) (lo hi : Option Int) : (cutS z lo hi).length = min (HT.sIx z.length z.length hi - HT.sIx z.length 0 lo) (z.length - HT.sIx z.length 0 lo) := by
  rw [len_cps (cutS z lo hi)]
  unfold cutS
  show ((z.cps.toList.drop (HT.sIx z.length 0 lo)).take (HT.sIx z.length z.length hi - HT.sIx z.length 0 lo)).toArray.toList.length = _
  rw [List.toList_toArray, List.length_take, List.length_drop, ← len_cps]
theorem cut_two (z : Str) (i : Nat) : (cutS z none (some (i : Int))).length + (cutS z (some (i : Int)) none).length = z.length := by
  rw [cut_len, cut_len, HT.sIx_none, HT.sIx_none, HT.sIx_nat, HT.sIx_nat]
  omega
theorem join_lt : ∀ {ys : List Str}, (∀ y ∈ ys, Lt y) → Lt (Str.join Str.empty ys) ∧ (Str.join Str.empty ys).length = (ys.map (·.length)).sum
  | [], _ => ⟨lt_empty, rfl⟩
  | [y], h => ⟨h y List.mem_cons_self, by simp [Str.join]⟩
  | x :: y :: r, h => by
    obtain ⟨h1, h2⟩ := join_lt (ys := y :: r) fun z hz => h z (List.mem_cons_of_mem _ hz)
    have e : Str.join Str.empty (x :: y :: r) = x ++ Str.empty ++ Str.join Str.empty (y :: r) := rfl
    refine ⟨by rw [e]; exact lt_app (lt_app (h x List.mem_cons_self) lt_empty) h1, ?_⟩
    rw [e, strLen_append, strLen_append, h2]
    simp only [List.map_cons, List.sum_cons]
    have : Str.empty.length = 0 := rfl
    omega
theorem bd_str {n : Nat} {z : Str} (h : Lt z) {m : Nat} (hm : z.length ≤ m) : Bd n m (.str z) := by
  refine ⟨?_, rfl, ?_, ?_⟩
  · simp only [PyData.leavesShort, List.all_eq_true, decide_eq_true_eq]
    intro c hc
    have := (h c hc).2
    exact Nat.lt_of_le_of_lt this (by decide)
  · simp only [PyData.depth]
    exact Nat.zero_le _
  · simp only [PyData.weight]
    exact hm
end Lw

namespace Lw
open PySem PySem.Spec PyProof.Rows L2

/-! ### a tuple beside none -/
def rNe0 : R2 := fun x y H Q => ∃ a b xs, x = .ref a ∧ y = .ref b ∧ H a = some (.tup xs) ∧ H b = some (.tup []) ∧ Q (.bl (!decide (xs.length = 0))) H
def rEq0 : R2 := fun x y H Q => ∃ a b xs, x = .ref a ∧ y = .ref b ∧ H a = some (.tup xs) ∧ H b = some (.tup []) ∧ Q (.bl (decide (xs.length = 0))) H
theorem op_ne0 {X : Cx} {k : Nat} (room : Room k X.A) : OpR X (compareOp .NotEq) rNe0 := by
  intro pins s σ H x y v u Q I rx ry h
  obtain ⟨a, b, xs, rfl, rfl, ha, hb, q⟩ := h
  cases rx
  cases ry
  obtain ⟨its, r1, p1, _⟩ := I.tuple (SqT.of ha)
  obtain ⟨its2, r2, p2, _⟩ := I.tuple (SqT.of hb)
  cases r2
  have hl := r1.length
  refine SeqAt.RcNeAt.tuples (e := fun _ => true) p1 p2 room.units0 (fun j h1 h2 => absurd h2 (Nat.not_lt_zero j)) X.prog X.w X.xe _ ?_
  have e : (!((List.range (min its.toArray.size ([] : List Value).toArray.size)).all (fun _ => true) && its.toArray.size == ([] : List Value).toArray.size)) = !decide (xs.length = 0) := by
    rw [List.size_toArray, ← hl]
    show (!(((List.range (min xs.length 0)).all fun _ => true) && (xs.length == 0))) = _
    rw [Nat.min_zero]
    show (!(true && (xs.length == 0))) = _
    rw [Bool.true_and]
    rfl
  rw [e]
  exact ⟨.bl (!decide (xs.length = 0)), H, I, rfl, q⟩
theorem op_eq0 {X : Cx} {k : Nat} (room : Room k X.A) : OpR X (compareOp .Eq) rEq0 := by
  intro pins s σ H x y v u Q I rx ry h
  obtain ⟨a, b, xs, rfl, rfl, ha, hb, q⟩ := h
  cases rx
  cases ry
  obtain ⟨its, r1, p1, _⟩ := I.tuple (SqT.of ha)
  obtain ⟨its2, r2, p2, _⟩ := I.tuple (SqT.of hb)
  cases r2
  have hl := r1.length
  refine SeqAt.RcAt.tuples (e := fun _ => true) p1 p2 room.units0 (fun j h1 h2 => absurd h2 (Nat.not_lt_zero j)) X.prog X.w X.xe _ ?_
  have e : ((List.range (min its.toArray.size ([] : List Value).toArray.size)).all (fun _ => true) && its.toArray.size == ([] : List Value).toArray.size) = decide (xs.length = 0) := by
    rw [List.size_toArray, ← hl]
    show (((List.range (min xs.length 0)).all fun _ => true) && (xs.length == 0)) = _
    rw [Nat.min_zero]
    show (true && (xs.length == 0)) = _
    rw [Bool.true_and]
    rfl
  rw [e]
  exact ⟨.bl (decide (xs.length = 0)), H, I, rfl, q⟩

/-! ### more of how large data are -/
theorem len_le_wa : ∀ ds : List PyData, ds.length ≤ PyData.weightAll ds
  | [] => Nat.zero_le _
  | d :: ds => by
    have := len_le_wa ds
    simp only [PyData.weightAll, List.length_cons]
    omega
theorem Bd.small {n : Nat} {i : Int} (h : i.natAbs < 16) : Bd n 5 (.int i) := by
  have hl : i.natAbs.log2 < 4 := PySem.Flt.log2_lt_of (by decide) h
  have b := Bd.int (n := n) (i := i) (Nat.lt_trans h (by decide +kernel))
  refine ⟨b.lf, b.sh, b.dp, ?_⟩
  simp only [PyData.weight]
  split <;> omega
theorem Bd.ofTup {n m : Nat} {ds : List PyData} (h : Bd n m (.tuple ds)) : BA n m ds ∧ ∀ x ∈ ds, Bd (n - 1) m x := by
  have h1 := h.lf
  have h2 := h.sh
  have h3 := h.dp
  have h4 := h.wt
  simp only [PyData.leavesShort] at h1
  simp only [PyData.showable] at h2
  simp only [PyData.depth] at h3
  simp only [PyData.weight] at h4
  refine ⟨⟨h1, h2, by omega, h4⟩, ?_⟩
  have all : ∀ es : List PyData, PyData.leavesShortAll 64 es = true → PyData.showableAll es = true → PyData.depthAll es + 1 ≤ n → PyData.weightAll es ≤ m → ∀ x ∈ es, Bd (n - 1) m x := by
    intro es
    induction es with
    | nil =>
      intro _ _ _ _ x hx
      cases hx
    | cons e es ih =>
      intro a b c d x hx
      simp only [PyData.leavesShortAll, Bool.and_eq_true] at a
      simp only [PyData.showableAll, Bool.and_eq_true] at b
      simp only [PyData.depthAll] at c
      simp only [PyData.weightAll] at d
      rcases List.mem_cons.mp hx with z | z
      · rw [z]
        exact ⟨a.1, b.1, by omega, by omega⟩
      · exact ih a.2 b.2 (by omega) (by omega) x z
  exact all ds h1 h2 h3 h4
theorem D.tupOf {f : Bool} {H : Hp} {v : V} {ds : List PyData} (h : D f H v (.tuple ds)) : ∃ a xs, v = .ref a ∧ H a = some (.tup xs) ∧ DA f H xs ds := by
  cases h with
  | tup e t => exact ⟨_, _, rfl, e, t⟩
theorem Tp.of {as : List Addr} {H : Hp} {v : V} {ds : List PyData} (h : D true (remL as H) v (.tuple ds)) : ∃ b, v = .ref b ∧ Tp as H b ds := by
  obtain ⟨b, xs, e, g, t⟩ := h.tupOf
  obtain ⟨n, g'⟩ := remL_some g
  exact ⟨b, e, n, xs, g', t⟩

/-! ### a list of a tuple's parts, its place not that of sys.modules -/
theorem call_listN {X : Cx} : CallR X (.type "list") (fun vs H Q => ∃ b ys, vs = [.ref b] ∧ H b = some (.tup ys) ∧ ∀ l, H l = none → l ≠ sysModules → Q (.ref l) (upd H l (.lst ys))) := by
  intro pins s σ H vs us Q I rv ⟨b, ys, e, hb, q⟩
  subst e
  obtain ⟨u, rfl, ru⟩ := vals1 rv
  cases ru
  obtain ⟨its, rr, pl, hz⟩ := I.tuple (SqT.of hb)
  have hlen := rr.length
  obtain ⟨o, ho, hc, n, hd⟩ := pl
  have far : s.heap.objs.size ≠ sysModules := by
    have h1 : mainGlobals < X.base.objs.size := I.ok.mod.glob.lt
    have h2 := Nat.le_trans I.ok.bsz I.sz
    exact Nat.ne_of_gt (Nat.lt_of_lt_of_le (Nat.lt_trans (by decide) h1) h2)
  refine call_list_seq b (.inr rfl) ho hc hd (fun h' c kp e => ?_) (by rw [List.size_toArray]; omega)
  have new := q _ (I.hok.fresh (Nat.le_refl _)) far
  exact ⟨.ref s.heap.objs.size, _, I.laid (o := .lst ys) (t' := s.toks) kp (Nat.le_refl _) ⟨hz, its, c, rr, e⟩, rfl, new⟩

/-! ### places that were free -/
theorem Kp.free {a p : Addr} {H H' : Hp} {o : HO} (k : Kp a H H') (h : H p = none) : Kp a H (L2.upd H' p o) := fun b u n e => by
  have nb : b ≠ p := fun z => by
    rw [z, h] at e
    cases e
  rw [upd_ne nb]
  exact k b u n e
theorem Kp.none {a p : Addr} {n : Nat} {H H' : Hp} (k : Kp a H H') (g : Hd H' a n) (h : H' p = Option.none) : H p = Option.none := by
  have np : p ≠ a := fun z => by
    obtain ⟨_, _, _, e, _⟩ := g
    rw [z, e] at h
    cases h
  cases e : H p with
  | none => rfl
  | some o =>
    rw [k p o np e] at h
    cases h
theorem Tp.cut {as : List Addr} {H H' : Hp} {b p : Addr} {xs : List V} {ds : List PyData} {lo hi : Option Int} (nb : b ∉ as) (da : DA true (remL as H) xs ds) (tr : Trk as H) (s : Same H H') (e : H' p = some (.tup (cutV xs lo hi))) (o : p = b ∨ H p = Option.none) : Tp as H' p (cutD ds lo hi) := by
  refine ⟨?_, _, e, (da.cut lo hi).same (same_remL s)⟩
  rcases o with rfl | o
  · exact nb
  · exact tr.new o
theorem Tp.cat {as : List Addr} {H H' : Hp} {b c p : Addr} {xs ys : List V} {ds es : List PyData} (nb : b ∉ as) (nc : c ∉ as) (da : DA true (remL as H) xs ds) (db : DA true (remL as H) ys es) (tr : Trk as H) (s : Same H H') (e : H' p = some (.tup (xs ++ ys))) (o : p = b ∨ p = c ∨ H p = Option.none) : Tp as H' p (ds ++ es) := by
  refine ⟨?_, _, e, (da.append db).same (same_remL s)⟩
  rcases o with rfl | rfl | o
  · exact nb
  · exact nc
  · exact tr.new o
theorem remL_less {a : Addr} {as : List Addr} {H : Hp} : Same (remL (a :: as) H) (remL as H) := fun b o e => by
  obtain ⟨n, g⟩ := remL_some e
  rw [remL_ne (fun z => n (List.mem_cons_of_mem _ z))]
  exact g
/-- some rest of a goal, known later -/
theorem later {a b : TS} {k : Ends} {σ : L2.St} {H : Hp} {P : Hp → Prop} (h2 : ∀ H, P H → b k σ H) (h1 : (∀ H, P H → b k σ H) → tSeq a b k σ H) : tSeq a b k σ H := h1 h2
theorem Hd.at {H : Hp} {a p : Addr} {n : Nat} {o : HO} (h : Hd H a n) (np : p ≠ a) : Hd (upd H p o) a n := by
  obtain ⟨g, m, c, e, r⟩ := h
  exact ⟨g, m, c, by rw [upd_ne np.symm]; exact e, r⟩
theorem Hd.new {H : Hp} {a p : Addr} {n : Nat} (h : Hd H a n) (e : H p = Option.none) : p ≠ a := fun z => by
  obtain ⟨_, _, _, g, _⟩ := h
  rw [z, g] at e
  cases e
theorem Trk.at {as : List Addr} {H : Hp} {p : Addr} {o : HO} (t : Trk as H) : Trk as (upd H p o) := fun b hb z => by
  by_cases e : b = p
  · rw [e, upd_same] at z
    cases z
  · rw [upd_ne e] at z
    exact t b hb z
theorem Trk.cons {as : List Addr} {H : Hp} {p : Addr} (t : Trk as H) (h : H p ≠ Option.none) : Trk (p :: as) H := fun b hb => by
  rcases List.mem_cons.mp hb with e | e
  · rw [e]
    exact h
  · exact t b e
theorem remL_in {as : List Addr} {H : Hp} {p : Addr} {o : HO} (h : p ∈ as) : Same (remL as H) (remL as (upd H p o)) := fun b u e => by
  obtain ⟨n, g⟩ := remL_some e
  have nb : b ≠ p := fun z => n (z ▸ h)
  rw [remL_ne n, upd_ne nb]
  exact g
theorem da_of {H : Hp} {p : PyData → Prop} : ∀ {vs : List V}, (∀ v ∈ vs, ∃ d, D true H v d ∧ p d) → ∃ ds, DA true H vs ds ∧ ∀ d ∈ ds, p d
  | [], _ => ⟨[], .nil, fun d hd => by cases hd⟩
  | v :: vs, h => by
    obtain ⟨d, h1, h2⟩ := h v List.mem_cons_self
    obtain ⟨ds, h3, h4⟩ := da_of (vs := vs) fun u hu => h u (List.mem_cons_of_mem _ hu)
    refine ⟨d :: ds, .cons h1 h3, fun e he => ?_⟩
    rcases List.mem_cons.mp he with z | z
    · rw [z]
      exact h2
    · exact h4 e z
/-- none, or a small number -/
def Spot (v : V) : Prop := v = .non ∨ ∃ k : Nat, v = .int k ∧ k < 16
theorem Spot.d {H : Hp} {v : V} (h : Spot v) : ∃ d, D true H v d ∧ Bd 1 5 d := by
  rcases h with e | ⟨k, e, hk⟩
  · subst e
    exact ⟨.none, .non, Bd.flat0 (.inl rfl) (by decide) (by decide)⟩
  · subst e
    exact ⟨.int k, .int _, Bd.small (by omega)⟩
end Lw

namespace Lw
open PySem PySem.Spec PyProof.Rows L2

/-! ### one tuple of ints above another -/
theorem toks_lex : ∀ ms ns : List Int, PyProof.Rows.lexLt itemOrd (PySem.W.keyToksAll (ms.map PyData.int)) (PySem.W.keyToksAll (ns.map PyData.int)) = lex ms ns
  | [], [] => by decide
  | [], n :: ns => by
    simp only [List.map_nil, List.map_cons, PySem.W.keyToksAll]
    exact lex_diff (O := itemOrd) (by decide)
  | m :: ms, [] => by
    simp only [List.map_nil, List.map_cons, PySem.W.keyToksAll]
    exact lex_diff (O := itemOrd) (by decide)
  | m :: ms, n :: ns => by
    have ih := toks_lex ms ns
    simp only [List.map_cons, PySem.W.keyToksAll, PySem.W.keyToks, List.singleton_append]
    rw [PyProof.Rows.lex_self (O := itemOrd), lex_cons]
    by_cases e : m = n
    · subst e
      rw [PyProof.Rows.lex_self (O := itemOrd), if_pos rfl]
      exact ih
    · rw [PyProof.Rows.lex_diff (O := itemOrd) (by intro z; exact e (Sum.inl.inj z)), if_neg e]
      rfl
theorem alike_ints : ∀ ms ns : List Int, PySem.W.alikeAll (ms.map PyData.int) (ns.map PyData.int) = true
  | [], ns => by cases ns <;> simp only [List.map_nil, List.map_cons, PySem.W.alikeAll]
  | m :: ms, [] => by simp only [List.map_nil, List.map_cons, PySem.W.alikeAll]
  | m :: ms, n :: ns => by simp only [List.map_cons, PySem.W.alikeAll, PySem.W.alike, alike_ints ms ns, Bool.and_self]
theorem da_ints {f : Bool} {H : Hp} : ∀ ns : List Int, DA f H (ns.map V.int) (ns.map PyData.int)
  | [] => .nil
  | n :: ns => .cons (.int n) (da_ints ns)
theorem depth_ints : ∀ ns : List Int, PyData.depthAll (ns.map PyData.int) = 0
  | [] => by simp [PyData.depthAll]
  | n :: ns => by simp [PyData.depthAll, PyData.depth, depth_ints ns]
def rGtT : R2 := fun x y H Q => ∃ a b ns ms, x = .ref a ∧ y = .ref b ∧ H a = some (.tup (List.map V.int ns)) ∧ H b = some (.tup (List.map V.int ms)) ∧ Q (.bl (lex ms ns)) H
theorem op_gtT {X : Cx} {k : Nat} (room : Room k X.A) : OpR X (compareOp .Gt) rGtT := by
  intro pins s σ H x y v u Q I rx ry h
  obtain ⟨a, b, ns, ms, rfl, rfl, ha, hb, q⟩ := h
  obtain ⟨as, r1, _⟩ := D.reads (f := false) I (.tup ha (da_ints ns)) v rx
  obtain ⟨bs, r2, _⟩ := D.reads (f := false) I (.tup hb (da_ints ms)) u ry
  refine PySem.W.gt_data r1 r2 (by simp only [PySem.W.alike]; exact alike_ints ns ms) (by intro z; cases z) ?_ ?_
  · simp only [PyData.depth, depth_ints]
    have := room.units
    omega
  · have e : PySem.W.dataLt (.tuple (ms.map PyData.int)) (.tuple (ns.map PyData.int)) = lex ms ns := by
      simp only [PySem.W.dataLt, PySem.W.keyToks]
      exact toks_lex ms ns
    rw [e]
    exact ⟨.bl (lex ms ns), H, I, rfl, q⟩

/-! ### a tuple of ints taken out of a list -/
theorem plain_ints : ∀ ns : List Int, PyData.plainAll (ns.map PyData.int) = true
  | [] => by simp only [List.map_nil, PyData.plainAll]
  | n :: ns => by simp only [List.map_cons, PyData.plainAll, PyData.plain, plain_ints ns, Bool.and_self]
def rRemT : V → List V → Hp → VK → Prop := fun x vs H Q => ∃ (l : Addr) (xs : List V) (kk : List (List Int)) (b : Addr) (ns : List Int) (j : Nat), x = .ref l ∧ vs = [.ref b] ∧ H l = some (.lst xs) ∧
  DA false H xs (kk.map fun m => .tuple (m.map PyData.int)) ∧ H b = some (.tup (ns.map V.int)) ∧ kk[j]? = some ns ∧ (∀ m, m < j → kk[m]? ≠ some ns) ∧ Q .non (upd H l (.lst (xs.eraseIdx j)))
theorem eqv_ints : ∀ ms ns : List Int, PyData.eqvAll (ms.map PyData.int) (ns.map PyData.int) = decide (ms = ns)
  | [], [] => by simp [PyData.eqvAll]
  | [], n :: ns => by simp [PyData.eqvAll]
  | m :: ms, [] => by simp [PyData.eqvAll]
  | m :: ms, n :: ns => by
    have ih := eqv_ints ms ns
    simp only [List.map_cons, PyData.eqvAll, ih]
    have e : PyData.eqv (.int m) (.int n) = (m == n) := by first | rfl | (simp only [PyData.eqv]; done) | (simp [PyData.eqv]; done)
    rw [e]
    by_cases h1 : m = n
    · subst h1
      simp
    · have : (m == n) = false := by simpa using h1
      rw [this, Bool.false_and]
      exact (decide_eq_false (fun z => h1 (List.cons.inj z).1)).symm
theorem eqv_tup (ms ns : List Int) : PyData.eqv (.tuple (ms.map PyData.int)) (.tuple (ns.map PyData.int)) = decide (ms = ns) := by
  have e : PyData.eqv (.tuple (ms.map PyData.int)) (.tuple (ns.map PyData.int)) = PyData.eqvAll (ms.map PyData.int) (ns.map PyData.int) := by simp [PyData.eqv]
  rw [e]
  exact eqv_ints ms ns
theorem plain_rows : ∀ kk : List (List Int), PyData.plainAll (kk.map fun m => PyData.tuple (m.map PyData.int)) = true
  | [] => by simp only [List.map_nil, PyData.plainAll]
  | m :: kk => by simp only [List.map_cons, PyData.plainAll, PyData.plain, plain_ints m, plain_rows kk, Bool.and_self]
theorem mt_remT {X : Cx} {k : Nat} (room : Room k X.A) : MtM X "list.remove" rRemT := by
  intro pins s σ H x vs v us Q I rx rv h
  obtain ⟨l, xs, kk, b, ns, j, rfl, rfl, hl, da, hb, hj, hno, q⟩ := h
  cases rx
  obtain ⟨u, rfl, ru⟩ := rv.one
  obtain ⟨z, its, n, r, hlen, e⟩ := I.lstM hl
  obtain ⟨as, r1, _⟩ := DA.reads I da its r
  obtain ⟨bs, r2, _⟩ := D.reads (f := false) I (.tup hb (da_ints ns)) u ru
  refine PySem.SeqAt.remove_list_data (vs := its.toArray) (j := j) ⟨_, e, rfl, n, rfl⟩ r1 r2 (plain_rows kk) (by simp only [PyData.plain]; exact plain_ints ns) ?_ ?_ (by rw [List.size_toArray]; omega) ?_
  · simp only [PyData.depth, depth_ints]
    have := room.units
    omega
  · refine List.findIdx?_eq_some_iff_getElem.mpr ?_
    obtain ⟨h1, h2⟩ := List.getElem?_eq_some_iff.mp hj
    refine ⟨by rw [List.length_map]; exact h1, ?_, fun m hm => ?_⟩
    · rw [List.getElem_map, eqv_tup, h2]
      exact decide_eq_true rfl
    · rw [List.getElem_map, eqv_tup]
      have := hno m hm
      rw [List.getElem?_eq_getElem (by omega)] at this
      have h3 : ¬ kk[m] = ns := fun z => this (by rw [z])
      rw [decide_eq_false h3]
      exact Bool.false_ne_true
  · refine ⟨.non, _, I.lset (its' := its.eraseIdx j) (t' := s.toks) hl e ?_ (r.eraseIdx j) ?_, rfl, q⟩
    · show its.toArray.eraseIdxIfInBounds j = (its.eraseIdx j).toArray
      rw [List.eraseIdxIfInBounds_toArray]
    · have := List.length_eraseIdx_le xs j
      omega
theorem units1 {X : Cx} {k : Nat} (room : Room k X.A) : X.A.units + 1 < cLine := by
  have := room.units
  omega
theorem atI0 {x : V} {xs : List V} : atI (x :: xs) 0 = some x := atI_nat (j := 0) rfl
theorem FnOk.never {P : Program} {w : World} {K : PySem.W.Frag} {mg : Str → Option Value} {base : Heap} {k : Nat} {f : Addr} {fd : FuncData} {ps : List Str} : FnOk P w K mg base CX0 k f fd ps (fun _ _ _ _ => False) :=
  ⟨fun _ _ _ _ h => h.elim, fun _ _ _ _ _ _ _ _ _ _ _ _ _ h => h.elim⟩
theorem later2 {a b : TS} {k : Ends} {σ : L2.St} {H : Hp} {P : L2.St → Hp → Prop} (h2 : ∀ σ H, P σ H → b k σ H) (h1 : (∀ σ H, P σ H → b k σ H) → tSeq a b k σ H) : tSeq a b k σ H := h1 h2
theorem gName_set {i : Nat} {v : V} {σ : L2.St} {H : Hp} {k : L2.St → Hp → Prop} (h : k (σ.set i (some v)) H) : gName i v σ H k := h
theorem hd_tup {H : Hp} {a p : Addr} {n : Nat} {o : HO} (h : Hd H a n) (e : H p = some o) (ho : ∀ xs, o ≠ .lst xs) : p ≠ a := fun z => by
  obtain ⟨_, _, _, g, _⟩ := h
  rw [z, g] at e
  cases e
  exact ho _ rfl
end Lw

namespace Lw
open PySem PySem.Spec PyProof.Rows L2

/-! ### the k-th of keys: which keys it can be -/
theorem split3 (ns : List Int) : ∀ ks : List (List Int), (ks.filter fun x => lex ns x).length + (ks.filter fun x => lex x ns).length + (ks.filter fun x => decide (x = ns)).length = ks.length
  | [] => rfl
  | m :: ks => by
    have ih := split3 ns ks
    by_cases e : m = ns
    · subst e
      rw [List.filter_cons_of_neg (by rw [lex_irr]; exact Bool.false_ne_true), List.filter_cons_of_neg (by rw [lex_irr]; exact Bool.false_ne_true), List.filter_cons_of_pos (by exact decide_eq_true rfl), List.length_cons, List.length_cons]
      omega
    · have e3 : ¬ decide (m = ns) = true := by simpa using e
      rw [List.filter_cons_of_neg (p := fun x => decide (x = ns)) e3]
      cases h1 : lex ns m with
      | true =>
        have h2 := lex_asym _ _ h1
        rw [List.filter_cons_of_pos (p := fun x => lex ns x) h1, List.filter_cons_of_neg (p := fun x => lex x ns) (by rw [h2]; exact Bool.false_ne_true), List.length_cons, List.length_cons]
        omega
      | false =>
        cases h2 : lex m ns with
        | true =>
          rw [List.filter_cons_of_neg (p := fun x => lex ns x) (by rw [h1]; exact Bool.false_ne_true), List.filter_cons_of_pos (p := fun x => lex x ns) h2, List.length_cons, List.length_cons]
          omega
        | false => exact absurd (lex_eq _ _ h2 h1) e
theorem kth_mem {ks : List (List Int)} {k : Nat} {ns : List Int} (h : IsKth id ks k ns) : ns ∈ ks := by
  have s := split3 ns ks
  have up := h.up
  have dn := h.dn
  simp only [above, below, id] at up dn
  have pos : 0 < (ks.filter fun x => decide (x = ns)).length := by omega
  obtain ⟨x, hx⟩ := List.exists_mem_of_length_pos pos
  obtain ⟨h1, h2⟩ := List.mem_filter.mp hx
  have e : x = ns := of_decide_eq_true h2
  exact e ▸ h1
theorem top_iff {ks : List (List Int)} {ns : List Int} : IsKth id ks 1 ns ↔ ns ∈ ks ∧ ∀ m ∈ ks, lex ns m = false := by
  constructor
  · intro h
    refine ⟨kth_mem h, fun m hm => ?_⟩
    have up := h.up
    simp only [above, id] at up
    have z : (ks.filter fun x => lex ns x) = [] := List.eq_nil_of_length_eq_zero (by omega)
    have := List.filter_eq_nil_iff.mp z m hm
    simpa using this
  · rintro ⟨h1, h2⟩
    have s := split3 ns ks
    have z : ks.filter (fun x => lex ns x) = [] := filter_false h2
    have pos : 0 < (ks.filter fun x => decide (x = ns)).length := List.length_pos_of_mem (List.mem_filter.mpr ⟨h1, decide_eq_true rfl⟩)
    refine ⟨?_, ?_⟩
    · simp only [above, id]
      rw [z]
      exact Nat.zero_lt_one
    · simp only [below, id]
      omega
theorem low_iff {ks : List (List Int)} {ns : List Int} : IsKth id ks ks.length ns ↔ ns ∈ ks ∧ ∀ m ∈ ks, lex m ns = false := by
  constructor
  · intro h
    refine ⟨kth_mem h, fun m hm => ?_⟩
    have dn := h.dn
    simp only [below, id] at dn
    have z : (ks.filter fun x => lex x ns) = [] := List.eq_nil_of_length_eq_zero (by omega)
    have := List.filter_eq_nil_iff.mp z m hm
    simpa using this
  · rintro ⟨h1, h2⟩
    have s := split3 ns ks
    have z : ks.filter (fun x => lex x ns) = [] := filter_false h2
    have pos : 0 < (ks.filter fun x => decide (x = ns)).length := List.length_pos_of_mem (List.mem_filter.mpr ⟨h1, decide_eq_true rfl⟩)
    refine ⟨?_, ?_⟩
    · simp only [above, id]
      omega
    · simp only [below, id]
      rw [z]
      show 0 + ks.length ≤ ks.length
      omega
theorem lex_nil (m : List Int) : lex m [] = false := by cases m <;> rfl
theorem kth_perm {ks ms : List (List Int)} {k : Nat} {ns : List Int} (h : IsKth id ks k ns) (p : ks.Perm ms) : IsKth id ms k ns := by
  have e1 : above id ms ns = above id ks ns := (p.filter _).length_eq.symm
  have e2 : below id ms ns = below id ks ns := (p.filter _).length_eq.symm
  exact ⟨by rw [e1]; exact h.up, by rw [e2, ← p.length_eq]; exact h.dn⟩
/-- with none put in, the k-th is the same -/
theorem kth_add_none {ks : List (List Int)} {k : Nat} {ns : List Int} (h : IsKth id ks k ns) : IsKth id (ks ++ [[]]) k ns := by
  have up := h.up
  have dn := h.dn
  simp only [above, below, id] at up dn
  have f : ([([] : List Int)].filter fun x => lex x ns).length ≤ 1 := List.length_filter_le _ _
  refine ⟨?_, ?_⟩
  · simp only [above, id, List.filter_append, List.length_append]
    rw [List.filter_cons_of_neg (by rw [lex_nil]; exact Bool.false_ne_true)]
    exact up
  · simp only [below, id, List.filter_append, List.length_append, List.length_singleton]
    omega
theorem low_none (ks : List (List Int)) : IsKth id (ks ++ [[]]) (ks.length + 1) [] := by
  have e : (ks ++ [([] : List Int)]).length = ks.length + 1 := by rw [List.length_append, List.length_singleton]
  rw [← e]
  exact low_iff.mpr ⟨List.mem_append_right _ (List.mem_singleton_self _), fun m _ => lex_nil m⟩
/-- the greatest of greatests -/
theorem top_top {ks : List (List Int)} {t o r : List Int} (h : IsKth id ks 1 t) (g : IsKth id [t, o] 1 r) : IsKth id (ks ++ [o]) 1 r := by
  obtain ⟨h1, h2⟩ := top_iff.mp h
  obtain ⟨g1, g2⟩ := top_iff.mp g
  refine top_iff.mpr ⟨?_, fun m hm => ?_⟩
  · rcases List.mem_cons.mp g1 with e | e
    · rw [e]
      exact List.mem_append_left _ h1
    · exact List.mem_append_right _ e
  · rcases List.mem_append.mp hm with y | y
    · exact lex_tr _ _ _ (h2 m y) (g2 t List.mem_cons_self)
    · exact g2 m (List.mem_cons_of_mem _ y)
/-- the least of leasts -/
theorem low_low {ks : List (List Int)} {t o r : List Int} (h : IsKth id ks ks.length t) (g : IsKth id [o, t] 2 r) : IsKth id (ks ++ [o]) (ks ++ [o]).length r := by
  obtain ⟨h1, h2⟩ := low_iff.mp h
  obtain ⟨g1, g2⟩ := (low_iff (ks := [o, t])).mp g
  refine low_iff.mpr ⟨?_, fun m hm => ?_⟩
  · rcases List.mem_cons.mp g1 with e | e
    · rw [e]
      exact List.mem_append_right _ (List.mem_singleton_self _)
    · rw [List.mem_singleton.mp e]
      exact List.mem_append_left _ h1
  · rcases List.mem_append.mp hm with y | y
    · exact lex_tr _ _ _ (g2 t (List.mem_cons_of_mem _ List.mem_cons_self)) (h2 m y)
    · rw [List.mem_singleton.mp y]
      exact g2 o List.mem_cons_self
/-! ### two of them -/
theorem low2 {x y r : List Int} (h : IsKth id [x, y] 2 r) : (r = x ∨ r = y) ∧ lex x r = false ∧ lex y r = false := by
  obtain ⟨h1, h2⟩ := (low_iff (ks := [x, y])).mp h
  refine ⟨?_, h2 x List.mem_cons_self, h2 y (List.mem_cons_of_mem _ List.mem_cons_self)⟩
  rcases List.mem_cons.mp h1 with e | e
  · exact .inl e
  · exact .inr (List.mem_singleton.mp e)
theorem top2 {x y r : List Int} (h : IsKth id [x, y] 1 r) : (r = x ∨ r = y) ∧ lex r x = false ∧ lex r y = false := by
  obtain ⟨h1, h2⟩ := top_iff.mp h
  refine ⟨?_, h2 x List.mem_cons_self, h2 y (List.mem_cons_of_mem _ List.mem_cons_self)⟩
  rcases List.mem_cons.mp h1 with e | e
  · exact .inl e
  · exact .inr (List.mem_singleton.mp e)
/-- the greatest with a part of its own least is that part -/
theorem absorb_top {o t l r : List Int} (h : IsKth id [o, t] 2 l) (g : IsKth id [o, l] 1 r) : r = o := by
  obtain ⟨_, h2, _⟩ := low2 h
  obtain ⟨g1, g2, _⟩ := top2 g
  rcases g1 with e | e
  · exact e
  · rw [e] at g2 ⊢
    exact lex_eq _ _ g2 h2
/-- the least with a part of its own greatest is that part -/
theorem absorb_low {o t g r : List Int} (h : IsKth id [t, o] 1 g) (k : IsKth id [g, o] 2 r) : r = o := by
  obtain ⟨_, _, h3⟩ := top2 h
  obtain ⟨k1, _, k3⟩ := low2 k
  rcases k1 with e | e
  · rw [e] at k3 ⊢
    exact lex_eq _ _ h3 k3
  · exact e
/-- least goes over greatest -/
theorem least_over {ks ls : List (List Int)} {o t r : List Int} (h : IsKth id ks 1 t) (g : IsKth id [o, t] 2 r) (hl : ls.length = ks.length) (hi : ∀ (i : Nat) (m l : List Int), ks[i]? = some m → ls[i]? = some l → IsKth id [m, o] 2 l) : IsKth id ls 1 r := by
  obtain ⟨h1, h2⟩ := top_iff.mp h
  obtain ⟨g1, g2, g3⟩ := low2 g
  refine top_iff.mpr ⟨?_, fun l hm => ?_⟩
  · obtain ⟨i, hi1⟩ := List.getElem?_of_mem h1
    have lt := (List.getElem?_eq_some_iff.mp hi1).1
    have e := List.getElem?_eq_getElem (l := ls) (i := i) (by omega)
    obtain ⟨a1, a2, a3⟩ := low2 (hi i _ _ hi1 e)
    have er : ls[i] = r := by
      have x : lex ls[i] r = false := by
        rcases a1 with z | z
        · rw [z]; exact g3
        · rw [z]; exact g2
      have y : lex r ls[i] = false := by
        rcases g1 with z | z
        · rw [z]; exact a3
        · rw [z]; exact a2
      exact lex_eq _ _ x y
    rw [← er]
    exact List.getElem_mem _
  · obtain ⟨i, hi1⟩ := List.getElem?_of_mem hm
    have lt := (List.getElem?_eq_some_iff.mp hi1).1
    have e := List.getElem?_eq_getElem (l := ks) (i := i) (by omega)
    obtain ⟨a1, a2, a3⟩ := low2 (hi i _ _ e hi1)
    have mt := h2 _ (List.getElem_mem (l := ks) (n := i) (by omega))
    rcases g1 with z | z
    · rw [z]; exact a3
    · rw [z]; exact lex_tr _ _ _ a2 mt
/-- greatest goes over least -/
theorem top_over {ks ls : List (List Int)} {o t r : List Int} (h : IsKth id ks ks.length t) (g : IsKth id [o, t] 1 r) (hl : ls.length = ks.length) (hi : ∀ (i : Nat) (m l : List Int), ks[i]? = some m → ls[i]? = some l → IsKth id [o, m] 1 l) : IsKth id ls ls.length r := by
  obtain ⟨h1, h2⟩ := low_iff.mp h
  obtain ⟨g1, g2, g3⟩ := top2 g
  refine low_iff.mpr ⟨?_, fun l hm => ?_⟩
  · obtain ⟨i, hi1⟩ := List.getElem?_of_mem h1
    have lt := (List.getElem?_eq_some_iff.mp hi1).1
    have e := List.getElem?_eq_getElem (l := ls) (i := i) (by omega)
    obtain ⟨a1, a2, a3⟩ := top2 (hi i _ _ hi1 e)
    have er : ls[i] = r := by
      have x : lex ls[i] r = false := by
        rcases g1 with z | z
        · rw [z]; exact a2
        · rw [z]; exact a3
      have y : lex r ls[i] = false := by
        rcases a1 with z | z
        · rw [z]; exact g2
        · rw [z]; exact g3
      exact lex_eq _ _ x y
    rw [← er]
    exact List.getElem_mem _
  · obtain ⟨i, hi1⟩ := List.getElem?_of_mem hm
    have lt := (List.getElem?_eq_some_iff.mp hi1).1
    have e := List.getElem?_eq_getElem (l := ks) (i := i) (by omega)
    obtain ⟨a1, a2, a3⟩ := top2 (hi i _ _ e hi1)
    have mt := h2 _ (List.getElem_mem (l := ks) (n := i) (by omega))
    rcases g1 with z | z
    · rw [z]; exact a2
    · rw [z]; exact lex_tr _ _ _ mt a3
/-! ### the greatest of the leasts of all lots of k -/
theorem sub_filter {p : List Int → Bool} {A B : List (List Int)} (h : A.Sublist B) : (A.filter p).length ≤ (B.filter p).length := (h.filter p).length_le
/-- a lot of k has one that does not stand above the k-th -/
theorem lot_one {ks L : List (List Int)} {k : Nat} {ns : List Int} (h : IsKth id ks k ns) (hs : L.Sublist ks) (hk : L.length = k) : ∃ m ∈ L, lex ns m = false := by
  have up := h.up
  simp only [above, id] at up
  have u2 := sub_filter (p := fun x => lex ns x) hs
  by_cases c : ∃ m ∈ L, lex ns m = false
  · exact c
  · have all : L.filter (fun x => lex ns x) = L := List.filter_eq_self.mpr fun m hm => by
      cases e : lex ns m with
      | true => rfl
      | false => exact absurd ⟨m, hm, e⟩ c
    rw [all] at u2
    omega
theorem kth_lots {ks ls : List (List Int)} {lots : List (List (List Int))} {k : Nat} {ns : List Int} (h : IsKth id ks k ns) (hall : ∀ L, L.Sublist ks → L.length = k → L ∈ lots) (hsub : ∀ L ∈ lots, L.Sublist ks ∧ L.length = k)
    (hl : ls.length = lots.length) (hi : ∀ (i : Nat) (L : List (List Int)) (l : List Int), lots[i]? = some L → ls[i]? = some l → IsKth id L L.length l) : IsKth id ls 1 ns := by
  have dn := h.dn
  simp only [below, id] at dn
  refine top_iff.mpr ⟨?_, fun l hm => ?_⟩
  · have hf := filter_split (p := fun x => lex x ns) ks
    let F := ks.filter fun x => !lex x ns
    have lF : k ≤ F.length := by
      show k ≤ (ks.filter fun x => !lex x ns).length
      omega
    have sF : (F.take k).Sublist ks := (List.take_sublist k F).trans List.filter_sublist
    have kF : (F.take k).length = k := by
      rw [List.length_take]
      omega
    obtain ⟨i, hi1⟩ := List.getElem?_of_mem (hall _ sF kF)
    have lt := (List.getElem?_eq_some_iff.mp hi1).1
    have e := List.getElem?_eq_getElem (l := ls) (i := i) (by omega)
    obtain ⟨b1, b2⟩ := low_iff.mp (hi i _ _ hi1 e)
    obtain ⟨m, hm, hmn⟩ := lot_one h sF kF
    have ge : ∀ x ∈ F.take k, lex x ns = false := fun x hx => by
      have := (List.mem_filter.mp (List.mem_of_mem_take hx)).2
      simpa using this
    have em : m = ns := lex_eq _ _ (ge m hm) hmn
    have er : ls[i] = ns := by
      refine lex_eq _ _ (ge _ b1) ?_
      rw [← em]
      exact b2 m hm
    rw [← er]
    exact List.getElem_mem _
  · obtain ⟨i, hi1⟩ := List.getElem?_of_mem hm
    have lt := (List.getElem?_eq_some_iff.mp hi1).1
    have e := List.getElem?_eq_getElem (l := lots) (i := i) (by omega)
    obtain ⟨s1, s2⟩ := hsub _ (List.getElem_mem (l := lots) (n := i) (by omega))
    obtain ⟨_, b2⟩ := low_iff.mp (hi i _ _ e hi1)
    obtain ⟨m, hm2, hmn⟩ := lot_one h s1 s2
    exact lex_tr _ _ _ (b2 m hm2) hmn
end Lw

namespace Lw
open PySem PySem.Spec PyProof.Rows L2

/-! ### a list beside an empty one -/
def rNeL0 : R2 := fun x y H Q => ∃ a b xs, x = .ref a ∧ y = .ref b ∧ H a = some (.lst xs) ∧ H b = some (.lst []) ∧ Q (.bl (!decide (xs.length = 0))) H
theorem op_neL0 {X : Cx} {k : Nat} (room : Room k X.A) : OpR X (compareOp .NotEq) rNeL0 := by
  intro pins s σ H x y v u Q I rx ry h
  obtain ⟨a, b, xs, rfl, rfl, ha, hb, q⟩ := h
  cases rx
  cases ry
  obtain ⟨its, r1, p1, _⟩ := I.list (SqL.of ha)
  obtain ⟨its2, r2, p2, _⟩ := I.list (SqL.of hb)
  cases r2
  have hl := r1.length
  by_cases e0 : xs.length = 0
  · have e1 : its.toArray.size = ([] : List Value).toArray.size := by
      rw [List.size_toArray, ← hl, e0]
      rfl
    refine SeqAt.RcNeAt.lists (e := fun _ => true) p1.isList p2.isList e1 room.units0 (fun j h1 h2 => absurd h2 (Nat.not_lt_zero j)) X.prog X.w X.xe _ ?_
    rw [decide_eq_true e0] at q
    have e : (!(List.range its.toArray.size).all (fun _ => true)) = !true := by simp
    rw [e]
    exact ⟨.bl (!true), H, I, rfl, q⟩
  · refine SeqAt.RcNeAt.lists_lengths p1.isList p2.isList ?_ room.units0 X.prog X.w X.xe _ ?_
    · rw [List.size_toArray, ← hl]
      show (xs.length != 0) = true
      simpa using e0
    · rw [decide_eq_false e0] at q
      exact ⟨.bl (!false), H, I, rfl, q⟩

/-! ### all lots of a row, as they are made -/
def lotsF {α : Type} : List (List α) → List α → List (List α)
  | acc, [] => acc
  | acc, x :: xs => lotsF (acc ++ acc.map (· ++ [x])) xs
theorem lots_map {α β : Type} (f : α → β) : ∀ (xs : List α) (acc : List (List α)), (lotsF acc xs).map (List.map f) = lotsF (acc.map (List.map f)) (xs.map f)
  | [], acc => rfl
  | x :: xs, acc => by
    show (lotsF (acc ++ acc.map (· ++ [x])) xs).map (List.map f) = lotsF (acc.map (List.map f) ++ (acc.map (List.map f)).map (· ++ [f x])) (xs.map f)
    rw [lots_map f xs]
    congr 1
    rw [List.map_append, List.map_map, List.map_map]
    congr 1
    refine List.map_congr_left fun L _ => ?_
    show (L ++ [x]).map f = L.map f ++ [f x]
    rw [List.map_append]
    rfl
theorem lots_length {α : Type} : ∀ (xs : List α) (acc : List (List α)), (lotsF acc xs).length = acc.length * 2 ^ xs.length
  | [], acc => by
    show acc.length = acc.length * 1
    omega
  | x :: xs, acc => by
    show (lotsF (acc ++ acc.map (· ++ [x])) xs).length = acc.length * 2 ^ (xs.length + 1)
    rw [lots_length xs, List.length_append, List.length_map, Nat.pow_succ]
    rw [← Nat.two_mul, Nat.mul_comm 2 acc.length, Nat.mul_assoc, Nat.mul_comm 2]
theorem lots_mem {α : Type} : ∀ (xs : List α) (acc : List (List α)) (L : List α), L ∈ lotsF acc xs ↔ ∃ A B, A ∈ acc ∧ B.Sublist xs ∧ L = A ++ B
  | [], acc, L => by
    constructor
    · intro h
      exact ⟨L, [], h, List.Sublist.slnil, (List.append_nil L).symm⟩
    · rintro ⟨A, B, h, s, e⟩
      have : B = [] := List.eq_nil_of_sublist_nil s
      rw [e, this, List.append_nil]
      exact h
  | x :: xs, acc, L => by
    show L ∈ lotsF (acc ++ acc.map (· ++ [x])) xs ↔ _
    rw [lots_mem xs]
    constructor
    · rintro ⟨A, B, h, s, e⟩
      rcases List.mem_append.mp h with y | y
      · exact ⟨A, B, y, s.cons x, e⟩
      · obtain ⟨A', h', eA⟩ := List.mem_map.mp y
        refine ⟨A', x :: B, h', s.cons_cons x, ?_⟩
        rw [e, ← eA, List.append_assoc]
        rfl
    · rintro ⟨A, B, h, s, e⟩
      cases s with
      | cons _ s' => exact ⟨A, B, List.mem_append_left _ h, s', e⟩
      | cons_cons _ s' =>
        rename_i B'
        refine ⟨A ++ [x], B', List.mem_append_right _ (List.mem_map.mpr ⟨A, h, rfl⟩), s', ?_⟩
        rw [e, List.append_assoc]
        rfl
/-- the lots of just so many -/
def lotsN {α : Type} (xs : List α) (k : Nat) : List (List α) := (lotsF [[]] xs).filter fun L => decide (L.length = k)
theorem lotsN_mem {α : Type} {xs : List α} {k : Nat} {L : List α} : L ∈ lotsN xs k ↔ L.Sublist xs ∧ L.length = k := by
  unfold lotsN
  rw [List.mem_filter, lots_mem, decide_eq_true_eq]
  constructor
  · rintro ⟨⟨A, B, h, s, e⟩, l⟩
    rw [List.mem_singleton.mp h, List.nil_append] at e
    exact ⟨e ▸ s, l⟩
  · rintro ⟨s, l⟩
    exact ⟨⟨[], L, List.mem_singleton_self _, s, rfl⟩, l⟩
theorem lotsN_map {α β : Type} (f : α → β) (xs : List α) (k : Nat) : (lotsN xs k).map (List.map f) = lotsN (xs.map f) k := by
  unfold lotsN
  have e := lots_map f xs [[]]
  rw [show ([[]] : List (List α)).map (List.map f) = [[]] from rfl] at e
  rw [← e, List.filter_map]
  congr 1
  refine List.filter_congr fun L _ => ?_
  show decide (L.length = k) = decide ((L.map f).length = k)
  rw [List.length_map]
theorem lotsN_length {α : Type} (xs : List α) (k : Nat) : (lotsN xs k).length ≤ 2 ^ xs.length := by
  have h := List.length_filter_le (fun L : List α => decide (L.length = k)) (lotsF [[]] xs)
  rw [lots_length, List.length_singleton, Nat.one_mul] at h
  exact h
/-- greatests put together by five -/
theorem top_five {ls : List (List Int)} {t ns : List Int} (h : IsKth id ls 1 ns) (g : IsKth id (ls.take 5) 1 t) : IsKth id (t :: ls.drop 5) 1 ns := by
  obtain ⟨h1, h2⟩ := top_iff.mp h
  obtain ⟨g1, g2⟩ := top_iff.mp g
  refine top_iff.mpr ⟨?_, fun m hm => ?_⟩
  · rw [← List.take_append_drop 5 ls] at h1
    rcases List.mem_append.mp h1 with y | y
    · have e : ns = t := lex_eq _ _ (h2 t (List.mem_of_mem_take g1)) (g2 ns y)
      rw [e]
      exact List.mem_cons_self
    · exact List.mem_cons_of_mem _ y
  · rcases List.mem_cons.mp hm with y | y
    · rw [y]
      exact h2 t (List.mem_of_mem_take g1)
    · exact h2 m (List.mem_of_mem_drop y)
/-! ### rows side by side -/
theorem Paired.get {α β : Type} {F : α → β → Prop} : ∀ {l₁ : List α} {l₂ : List β} (i : Nat) {x : α} {y : β}, Paired F l₁ l₂ → l₁[i]? = some x → l₂[i]? = some y → F x y
  | _, _, i, x, y, .nil, h, _ => by simp at h
  | _, _, 0, x, y, .cons h t, h1, h2 => by
    have e1 := Option.some.inj h1
    have e2 := Option.some.inj h2
    subst e1 e2
    exact h
  | _, _, i + 1, x, y, .cons h t, h1, h2 => Paired.get i t h1 h2
theorem Paired.app {α β : Type} {F : α → β → Prop} : ∀ {l₁ m₁ : List α} {l₂ m₂ : List β}, Paired F l₁ l₂ → Paired F m₁ m₂ → Paired F (l₁ ++ m₁) (l₂ ++ m₂)
  | _, _, _, _, .nil, h => h
  | _, _, _, _, .cons a t, h => .cons a (Paired.app t h)
theorem Paired.take {α β : Type} {F : α → β → Prop} : ∀ {l₁ : List α} {l₂ : List β} (n : Nat), Paired F l₁ l₂ → Paired F (l₁.take n) (l₂.take n)
  | _, _, 0, _ => by rw [List.take_zero, List.take_zero]; exact .nil
  | _, _, n + 1, .nil => .nil
  | _, _, n + 1, .cons a t => .cons a (Paired.take n t)
theorem Paired.drop {α β : Type} {F : α → β → Prop} : ∀ {l₁ : List α} {l₂ : List β} (n : Nat), Paired F l₁ l₂ → Paired F (l₁.drop n) (l₂.drop n)
  | _, _, 0, h => h
  | _, _, n + 1, .nil => .nil
  | _, _, n + 1, .cons a t => Paired.drop n t
theorem Paired.of_get {α β : Type} {F : α → β → Prop} : ∀ {l₁ : List α} {l₂ : List β}, l₁.length = l₂.length → (∀ (i : Nat) (x : α) (y : β), l₁[i]? = some x → l₂[i]? = some y → F x y) → Paired F l₁ l₂
  | [], [], _, _ => .nil
  | [], _ :: _, h, _ => by cases h
  | _ :: _, [], h, _ => by cases h
  | a :: l₁, b :: l₂, h, g => .cons (g 0 a b rfl rfl) (Paired.of_get (by simpa using h) fun i x y h1 h2 => g (i + 1) x y h1 h2)
theorem Paired.flip {α β : Type} {F : α → β → Prop} : ∀ {l₁ : List α} {l₂ : List β}, Paired F l₁ l₂ → Paired (fun b a => F a b) l₂ l₁
  | _, _, .nil => .nil
  | _, _, .cons a t => .cons a (Paired.flip t)
end Lw

namespace Lw
open PySem PySem.Spec PyProof.Rows L2

/-! ### a text beside anything -/
section
open AutoSeq1 (wpAny_loadPart')
theorem dict_eq_declines_str (l : Addr) (es : Array DictEntry) (ep : Nat) (dd : Option Addr) (sl : Array (Option Value)) (b : Str) (u : Tok) :
    Meets (Builtin.«dict.__eq__» ⟨[.ref l, .str b u], []⟩) (fun _ R s => s.heap.get? l = some { cls := .type "dict", dict := dd, data := .dict es ep, slots := sl } ∧ R (.ok (.ret .notImplemented)) s) :=
  .of_wp fun prog w A R s h => by obtain ⟨hp, g, d, tk, os⟩ := s; obtain ⟨hl, h⟩ := h; have f1 := F.sub_str_dict; wp_walk using wpAny_loadPart' hl; exact ⟨_, rfl, h⟩
theorem str_eq_declines_dict (b : Str) (u : Tok) (l : Addr) (c : Value) (es : Array DictEntry) (ep : Nat) (dd : Option Addr) (sl : Array (Option Value)) :
    Meets (Builtin.«str.__eq__» ⟨[.str b u, .ref l], []⟩) (fun _ R s => s.heap.get? l = some { cls := c, dict := dd, data := .dict es ep, slots := sl } ∧ R (.ok (.ret .notImplemented)) s) :=
  .of_wp fun prog w A R s h => by obtain ⟨hp, g, d, tk, os⟩ := s; obtain ⟨hl, h⟩ := h; wp_walk using wpAny_loadPart' hl, wpAny_load hl; exact ⟨_, rfl, h⟩
theorem rc_str_dict {A : Around} {s : Shared} {l : Addr} {o : Obj} {es : Array DictEntry} {ep : Nat} (b : Str) (u : Tok) (ho : s.heap.get? l = some o) (hc : o.cls = .type "dict") (hd : o.data = .dict es ep) (hu : A.units < cLine) : SeqAt.RcAt A s (.str b u) (.ref l) false := fun prog w E Q h => by
  obtain ⟨cls, dd, data, sl⟩ := o
  simp only at hc hd
  subst hc hd
  exact SeqAt.rc_eq_decline_or (k := false) (typeIs_str s b u) ⟨_, ho, rfl⟩ (by decide) F.sub_dict_str F.slot_str_eq F.slot_dict_eq_refl
    (fun _ hq => call_meets F.slot_str_eq (typeIs_str s b u) F.entry_str_eq (F.args_str_eq_2 _ _) (str_eq_declines_dict b u l (.type "dict") es ep dd sl) ⟨ho, hq⟩)
    (fun _ hq => call_meets F.slot_dict_eq_refl ⟨_, ho, rfl⟩ F.entry_dict_eq (F.args_dict_eq_2 _ _) (dict_eq_declines_str l es ep dd sl b u) ⟨ho, hq⟩)
    (fun _ hq => wpAny_of_eq (rfl : isSame (.str b u) (.ref l) = pure false) hq) (.inr hu) h
end
theorem cut_take (xs : List V) (n : Nat) : cutV xs none (some (n : Int)) = xs.take n := by
  unfold cutV
  rw [HT.sIx_none, HT.sIx_nat, List.drop_zero, Nat.sub_zero]
  by_cases h : n ≤ xs.length
  · rw [Nat.min_eq_left h]
  · rw [Nat.min_eq_right (by omega), List.take_length, List.take_of_length_le (by omega)]
theorem cut_drop (xs : List V) (n : Nat) : cutV xs (some (n : Int)) none = xs.drop n := by
  unfold cutV
  rw [HT.sIx_none, HT.sIx_nat]
  by_cases h : n ≤ xs.length
  · rw [Nat.min_eq_left h]
    exact List.take_of_length_le (by rw [List.length_drop]; omega)
  · rw [Nat.min_eq_right (by omega), List.drop_length, List.drop_of_length_le (by omega), List.take_nil]
theorem ix_listK {X : Cx} {K : PySem.W.Frag} (h : X.K = K := by rfl) : IxR X (rIxL K) := by
  subst h
  exact ix_list
theorem ix_tupK {X : Cx} {K : PySem.W.Frag} (h : X.K = K := by rfl) : IxR X (rIxT K) := by
  subst h
  exact ix_tup
def strIs (z : Str) : PyData → Bool
  | .str y => z == y
  | _ => false
def rEqSD : R2 := fun x y H Q => ∃ (z : Str) (d : PyData) (f : Bool), x = .str z ∧ D f H y d ∧ Q (.bl (strIs z d)) H
theorem op_eqSD {X : Cx} {k : Nat} (room : Room k X.A) : OpR X (compareOp .Eq) rEqSD := by
  intro pins s σ H x y v u Q I rx ry h
  obtain ⟨z, d, f, rfl, hd, q⟩ := h
  obtain ⟨t, rfl⟩ := rx
  have fin : ∀ b : Bool, b = strIs z d → SeqAt.RcAt X.A s (.str z t) u b → wpAny (model X.prog X.w) X.A (compareOp .Eq (.str z t) u) (fun r s' => EP X pins σ Q r s') X.xe s := fun b e rc => by
    refine rc X.prog X.w X.xe _ ?_
    rw [e]
    exact ⟨.bl (strIs z d), H, I, rfl, q⟩
  cases hd with
  | non =>
    cases ry
    exact fin false rfl (SeqAt.RcAt.str_none z t)
  | bl b =>
    cases ry
    exact fin false rfl (SeqAt.RcAt.str_bool z t b)
  | int i =>
    obtain ⟨t2, rfl⟩ := ry
    exact fin false rfl (SeqAt.RcAt.str_int z t i t2)
  | str y =>
    obtain ⟨t2, rfl⟩ := ry
    exact fin _ rfl (SeqAt.RcAt.str_str z t y t2)
  | @lst a xs ds e n dt =>
    cases (show u = Value.ref a from ry)
    obtain ⟨_, its, k, rv, ho⟩ := (show ObjOk X.prog X.w H s.heap a (.lst xs) from I.hok a _ e)
    exact fin false rfl (SeqAt.RcAt.str_list z t ⟨_, ho, rfl, _, rfl⟩ room.units0)
  | @tup a xs ds e dt =>
    cases (show u = Value.ref a from ry)
    obtain ⟨_, its, rv, o, ho, hc, k, hd⟩ := (show ObjOk X.prog X.w H s.heap a (.tup xs) from I.hok a _ e)
    exact fin false rfl (SeqAt.RcAt.str_tuple z t ⟨_, ho, hc, _, hd⟩ room.units0)
  | @dct a kvs ds e dt =>
    cases (show u = Value.ref a from ry)
    obtain ⟨_, ns, vs, kv, o, es, ep, ho, ex, hd, _, pr, _⟩ := (show ObjOk X.prog X.w H s.heap a (.dK kvs) from I.hok a _ e)
    exact fin false rfl (rc_str_dict z t ho ex.1 hd room.units0)
end Lw

namespace Lw
open PySem PySem.Spec PyProof.Rows L2

/-! ### truths as numbers -/
def isN (v : V) (i : Int) : Prop := v = .int i ∨ ∃ b : Bool, v = .bl b ∧ i = if b = true then 1 else 0
def rAddN : R2 := fun x y H Q => ∃ i j, isN x i ∧ y = .int j ∧ Q (.int (i + j)) H
def rSubN : R2 := fun x y H Q => ∃ i j, isN x i ∧ y = .int j ∧ Q (.int (i - j)) H
def rSubM : R2 := fun x y H Q => ∃ i j, x = .int i ∧ isN y j ∧ Q (.int (i - j)) H
def rEqN : R2 := fun x y H Q => ∃ i j, isN x i ∧ y = .int j ∧ Q (.bl (i == j)) H
section
variable {X : Cx}
theorem op_addN : OpR X (binaryOp .Add) rAddN := by
  intro pins s σ H x y v u Q I rx ry h
  obtain ⟨i, j, hi, rfl, q⟩ := h
  rcases hi with rfl | ⟨b, rfl, rfl⟩
  · exact op_add pins s σ H _ _ v u Q I rx ry ⟨i, j, rfl, rfl, q⟩
  · cases rx
    obtain ⟨t, rfl⟩ := ry
    exact PySem.IntBool.add_bool_int ⟨.int _, H, I.tok _, ⟨_, rfl⟩, q⟩
theorem op_subN : OpR X (binaryOp .Sub) rSubN := by
  intro pins s σ H x y v u Q I rx ry h
  obtain ⟨i, j, hi, rfl, q⟩ := h
  rcases hi with rfl | ⟨b, rfl, rfl⟩
  · exact op_sub pins s σ H _ _ v u Q I rx ry ⟨i, j, rfl, rfl, q⟩
  · cases rx
    obtain ⟨t, rfl⟩ := ry
    exact PySem.IntBool.sub_bool_int ⟨.int _, H, I.tok _, ⟨_, rfl⟩, q⟩
theorem op_subM : OpR X (binaryOp .Sub) rSubM := by
  intro pins s σ H x y v u Q I rx ry h
  obtain ⟨i, j, rfl, hj, q⟩ := h
  rcases hj with rfl | ⟨b, rfl, rfl⟩
  · exact op_sub pins s σ H _ _ v u Q I rx ry ⟨i, j, rfl, rfl, q⟩
  · cases ry
    obtain ⟨t, rfl⟩ := rx
    exact PySem.IntBool.sub_int_bool ⟨.int _, H, I.tok _, ⟨_, rfl⟩, q⟩
theorem op_eqN : OpR X (compareOp .Eq) rEqN := by
  intro pins s σ H x y v u Q I rx ry h
  obtain ⟨i, j, hi, rfl, q⟩ := h
  rcases hi with rfl | ⟨b, rfl, rfl⟩
  · obtain ⟨t, rfl⟩ := rx
    obtain ⟨t2, rfl⟩ := ry
    exact SeqAt.RcAt.int_int i t j t2 X.prog X.w X.xe _ ⟨.bl (i == j), H, I, rfl, q⟩
  · cases rx
    obtain ⟨t2, rfl⟩ := ry
    exact SeqAt.RcAt.bool_int b j t2 X.prog X.w X.xe _ ⟨.bl _, H, I, rfl, q⟩
def strN : V → Str
  | .int i => Str.ofString (toString i)
  | .bl b => Str.ofString (if b = true then "True" else "False")
  | _ => Str.empty
theorem call_strN : CallR X (.type "str") (fun xs H Q => ∃ v i, xs = [v] ∧ isN v i ∧ i.natAbs.log2 < 1920 ∧ Q (.str (strN v)) H) := by
  intro pins s σ H xs us Q I r h
  obtain ⟨v, i, rfl, hi, hz, q⟩ := h
  rcases hi with rfl | ⟨b, rfl, rfl⟩
  · obtain ⟨u, rfl, t, rfl⟩ := vals1 r
    exact PySem.P.str_of_int hz ⟨.str _, H, I.tok _, ⟨_, rfl⟩, q⟩
  · obtain ⟨u, rfl, r1⟩ := vals1 r
    cases r1
    refine PySem.P.str_of_bool ⟨.str _, H, I.tok _, ⟨_, rfl⟩, ?_⟩
    cases b <;> exact q
/-! ### a list beside an empty one -/
def rEqL0 : R2 := fun x y H Q => ∃ a b xs, x = .ref a ∧ y = .ref b ∧ H a = some (.lst xs) ∧ H b = some (.lst []) ∧ Q (.bl (decide (xs.length = 0))) H
theorem op_eqL0 {k : Nat} (room : Room k X.A) : OpR X (compareOp .Eq) rEqL0 := by
  intro pins s σ H x y v u Q I rx ry h
  obtain ⟨a, b, xs, rfl, rfl, ha, hb, q⟩ := h
  cases rx
  cases ry
  obtain ⟨its, r1, p1, _⟩ := I.list (SqL.of ha)
  obtain ⟨its2, r2, p2, _⟩ := I.list (SqL.of hb)
  cases r2
  have hl := r1.length
  by_cases e0 : xs.length = 0
  · have e1 : its.toArray.size = ([] : List Value).toArray.size := by
      rw [List.size_toArray, ← hl, e0]
      rfl
    refine SeqAt.RcAt.lists (e := fun _ => true) p1.isList p2.isList e1 room.units0 (fun j h1 h2 => absurd h2 (Nat.not_lt_zero j)) X.prog X.w X.xe _ ?_
    rw [decide_eq_true e0] at q
    have e : ((List.range its.toArray.size).all (fun _ => true)) = true := by simp
    rw [e]
    exact ⟨.bl true, H, I, rfl, q⟩
  · refine SeqAt.RcAt.lists_lengths p1.isList p2.isList ?_ room.units0 X.prog X.w X.xe _ ?_
    · rw [List.size_toArray, ← hl]
      show (xs.length != 0) = true
      simpa using e0
    · rw [decide_eq_false e0] at q
      exact ⟨.bl false, H, I, rfl, q⟩
end
/-! ### texts, and how large they are -/
theorem Bd.chars {n m : Nat} {z : Str} (h : Bd n m (.str z)) : (∀ c ∈ z.cps.toList, c < 16 ^ 8) ∧ z.length ≤ m := by
  have h1 := h.lf
  have h2 := h.wt
  simp only [PyData.leavesShort, List.all_eq_true, decide_eq_true_eq] at h1
  simp only [PyData.weight] at h2
  exact ⟨h1, h2⟩
theorem bd_chars {n m : Nat} {z : Str} (h : ∀ c ∈ z.cps.toList, c < 16 ^ 8) (hm : z.length ≤ m) : Bd n m (.str z) := by
  refine ⟨?_, rfl, ?_, ?_⟩
  · simp only [PyData.leavesShort, List.all_eq_true, decide_eq_true_eq]
    exact h
  · simp only [PyData.depth]
    exact Nat.zero_le _
  · simp only [PyData.weight]
    exact hm
theorem Bd.app {n m k : Nat} {z y : Str} (h : Bd n m (.str z)) (g : Bd n k (.str y)) : Bd n (m + k) (.str (z ++ y)) := by
  obtain ⟨h1, h2⟩ := h.chars
  obtain ⟨g1, g2⟩ := g.chars
  refine bd_chars (fun c hc => ?_) ?_
  · rw [app_cps] at hc
    rcases List.mem_append.mp hc with e | e
    · exact h1 c e
    · exact g1 c e
  · rw [len_cps, app_cps, List.length_append, ← len_cps, ← len_cps]
    omega
theorem Bd.cutS {n m : Nat} {z : Str} (h : Bd n m (.str z)) (lo hi : Option Int) : Bd n m (.str (cutS z lo hi)) := by
  obtain ⟨h1, h2⟩ := h.chars
  refine bd_chars (fun c hc => h1 c ?_) (Nat.le_trans (cutS_length z lo hi) h2)
  unfold L2.cutS at hc
  simp only [Array.toList_extract, List.extract] at hc
  exact List.mem_of_mem_drop (List.mem_of_mem_take hc)
/-! ### numbers that are not far -/
mutual
def inB (B : Nat) : PyData → Bool
  | .none | .bool _ | .str _ => true
  | .int i => decide (i.natAbs < B)
  | .list xs | .tuple xs => inBAll B xs
  | .dict kvs => inBKv B kvs
def inBAll (B : Nat) : List PyData → Bool
  | [] => true
  | x :: xs => inB B x && inBAll B xs
def inBKv (B : Nat) : List (PyData × PyData) → Bool
  | [] => true
  | (k, v) :: r => inB B k && inB B v && inBKv B r
end
theorem inB_all {B : Nat} : ∀ {ds : List PyData}, inBAll B ds = true ↔ ∀ d ∈ ds, inB B d = true
  | [] => by simp [inBAll]
  | d :: ds => by
    simp only [inBAll, Bool.and_eq_true, inB_all (ds := ds), List.mem_cons]
    constructor
    · rintro ⟨a, b⟩ x (e | e)
      · rw [e]; exact a
      · exact b x e
    · intro h
      exact ⟨h d (.inl rfl), fun x hx => h x (.inr hx)⟩
theorem inB_tup {B : Nat} {ds : List PyData} : inB B (.tuple ds) = true ↔ ∀ d ∈ ds, inB B d = true := by
  simp only [inB]
  exact inB_all
theorem inB_lst {B : Nat} {ds : List PyData} : inB B (.list ds) = true ↔ ∀ d ∈ ds, inB B d = true := by
  simp only [inB]
  exact inB_all
mutual
theorem inB_mono {B C : Nat} (h : B ≤ C) : ∀ d : PyData, inB B d = true → inB C d = true
  | .none, _ => by simp [inB]
  | .bool _, _ => by simp [inB]
  | .str _, _ => by simp [inB]
  | .int i, g => by
    simp only [inB, decide_eq_true_eq] at g ⊢
    omega
  | .list xs, g => by
    simp only [inB] at g ⊢
    exact inBAll_mono h xs g
  | .tuple xs, g => by
    simp only [inB] at g ⊢
    exact inBAll_mono h xs g
  | .dict kvs, g => by
    simp only [inB] at g ⊢
    exact inBKv_mono h kvs g
theorem inBAll_mono {B C : Nat} (h : B ≤ C) : ∀ ds : List PyData, inBAll B ds = true → inBAll C ds = true
  | [], _ => by simp [inBAll]
  | d :: ds, g => by
    simp only [inBAll, Bool.and_eq_true] at g ⊢
    exact ⟨inB_mono h d g.1, inBAll_mono h ds g.2⟩
theorem inBKv_mono {B C : Nat} (h : B ≤ C) : ∀ ds : List (PyData × PyData), inBKv B ds = true → inBKv C ds = true
  | [], _ => by simp [inBKv]
  | (k, v) :: ds, g => by
    simp only [inBKv, Bool.and_eq_true] at g ⊢
    exact ⟨⟨inB_mono h k g.1.1, inB_mono h v g.1.2⟩, inBKv_mono h ds g.2⟩
end
end Lw

namespace Lw
open PySem PySem.Spec PyProof.Rows L2

/-! ### enumerate of a tuple -/
section
open AutoSeq1 (wpAny_loadPart')
theorem meets_enumerate_newT (l : Addr) (items : Array Value) (n : Nat) (dct : Option Addr) (sl : Array (Option Value)) :
    Meets (Builtin.«enumerate.__new__» ⟨[.type "enumerate", .ref l], []⟩) (fun _ R s => s.heap.get? l = some { cls := .type "tuple", dict := dct, data := .seq items n, slots := sl } ∧
      R (.ok (.ret (.ref (s.heap.push { cls := .type "tuple_iterator", data := .fields #[.ref l, .int 0 0] }).objs.size)))
        { s with heap := (s.heap.push { cls := .type "tuple_iterator", data := .fields #[.ref l, .int 0 0] }).push { cls := .type "enumerate", data := .fields #[.none, .bool false, .ref s.heap.objs.size, rawInt 0, .none, .none] } }) :=
  .of_wp fun prog w A R s h => by
    obtain ⟨hp, g, d, tk, os⟩ := s; obtain ⟨hl, h⟩ := h
    have hsub := sub_enumerate
    have hL : Heap.IsTuple (Shared.heap ⟨hp, g, d, tk, os⟩) l items := ⟨_, hl, rfl, n, rfl⟩
    wp_walk using wpAny_loadPart' hl
    refine wpAny_stack_any fun st => wpAny_pure ?_
    split
    · rename_i c _ _ _ _ _
      cases (c == Value.type "enumerate")
      · wp_walk using wpAny_loadPart' hl, wpAny_pyIter_tuple hL
        exact ⟨_, rfl, h⟩
      · wp_walk using wpAny_loadPart' hl, wpAny_pyIter_tuple hL
        exact ⟨_, rfl, h⟩
    · wp_walk using wpAny_loadPart' hl, wpAny_pyIter_tuple hL
      exact ⟨_, rfl, h⟩
end
section
variable {prog : Program} {w : World} {A : Around} {E : Value → Shared → Prop} {s : Shared}
theorem call_enumT {l : Addr} {items : Array Value} {Q : Value → Shared → Prop} (hL : s.heap.IsTuple l items)
    (h : ∀ h', IsEnum h' (s.heap.objs.size + 1) s.heap.objs.size 0 .none → h'.IsTupleIter s.heap.objs.size l 0 → h'.objs.size = s.heap.objs.size + 2 → (∀ b o, s.heap.get? b = some o → h'.get? b = some o) → Q (.ref (s.heap.objs.size + 1)) { s with heap := h' }) :
    wpAny (model prog w) A (call (.type "enumerate") [.ref l]) Q E s := by
  obtain ⟨⟨c, dct, dt, sl⟩, hl, hc, n, hd⟩ := hL
  have hc' : c = .type "tuple" := hc
  have hd' : dt = .seq items n := hd
  subst hc' hd'
  refine callType_new F.called_enumerate (by decide) (F.typeCall_enumerate_1 _) (F.newCall_enumerate_1 _) (fun obj => F.args_object_init_2 obj _) F.entry_enumerate_new (meets_enumerate_newT l items n dct sl) ⟨hl, ?_⟩
  have hz : (s.heap.push { cls := .type "tuple_iterator", data := .fields #[.ref l, .int 0 0] }).objs.size = s.heap.objs.size + 1 := Heap.size_push ..
  show _ ∧ _
  rw [hz]
  have he : IsEnum ((s.heap.push { cls := .type "tuple_iterator", data := .fields #[.ref l, .int 0 0] }).push { cls := .type "enumerate", data := .fields #[.none, .bool false, .ref s.heap.objs.size, rawInt 0, .none, .none] }) (s.heap.objs.size + 1) s.heap.objs.size 0 .none := by
    have := Heap.get?_push_size (s.heap.push { cls := .type "tuple_iterator", data := .fields #[.ref l, .int 0 0] }) (o := { cls := .type "enumerate", data := .fields #[.none, .bool false, .ref s.heap.objs.size, rawInt 0, .none, .none] }) rfl
    rw [hz] at this
    exact this
  exact ⟨⟨_, he, rfl⟩, h _ he ⟨_, Heap.get?_push_of_some _ (Heap.get?_push_size _ rfl), rfl, rfl⟩ (by rw [Heap.size_push, hz]) fun b o x => Heap.get?_push_of_some _ (Heap.get?_push_of_some _ x)⟩
theorem next_enumT_end {e it l : Addr} {i : Nat} {items : Array Value} {old : Value} {Q : Option Value → Shared → Prop} (hh : A.handled = none) (he : IsEnum s.heap e it i old) (hit : s.heap.IsTupleIter it l i) (hl : s.heap.IsTuple l items) (hx : items[i]? = none)
    (hQ : ∀ h', Heap.ExtBut it s.heap h' → Q none { s with heap := h' }) : wpAny (model prog w) A (pyNext (.ref e)) Q E s := by
  have hT : s.TypeIs (.ref e) "enumerate" := ⟨_, he, rfl⟩
  unfold pyNext
  refine wpAny_bind (wpAny_attempt (wpAny_callSpecial?_slot (name := Str.ofString "__next__") hT F.slot_enumerate_next (wpAny_call_entry F.slot_enumerate_next hT F.entry_enumerate_next ?_ (F.args_enumerate_next_1 _))))
  show wpAny _ _ (field (.ref e) 2 >>= _) _ _ _
  refine wpAny_bind (wpAny_field he rfl (x := .ref it) rfl (wpAny_bind (wpAny_nextOf_tuple_end hh hit hl hx fun h' x he' hx' => ?_)))
  obtain ⟨o, ho, hc⟩ := hx'
  exact wpAny_bind (wpAny_isInstance (T := "StopIteration") (b := true) ⟨o, ho, hc⟩ isSubtype_stop (wpAny_pure (hQ _ he')))
end
/-- the tuple at a, each item with its number in a new pair -/
def IteT (K : PySem.W.Frag) (a : Addr) : It :=
  ⟨fun i H => ∃ (xs : List V) (x : V), SqT K H a xs ∧ xs[i]? = some x, fun i H v H' => ∃ T x, v = .ref T ∧ H T = none ∧ H' = upd H T (.tup [.int (i : Nat), x]) ∧ ∀ xs, SqT K H a xs → xs[i]? = some x, fun i H => ∃ xs : List V, SqT K H a xs ∧ xs.length ≤ i⟩
theorem turn_enumT {P : Program} {w : World} {K : PySem.W.Frag} {elts : List Expr} {kk : Nat} {tpos : Pos} (a e it : Addr) :
    Turn P w K (.Tuple elts kk tpos) (IteT K a) [e, it] e (fun i h => (∃ old, IsEnum h e it ((i : Nat) : Int) old) ∧ h.IsTupleIter it a i ∧ e ≠ it ∧ e ≠ a ∧ a ≠ it) where
  mem := by simp
  obj := fun i h st b hb => by
    obtain ⟨⟨old, he⟩, ⟨o, ho, hc, hd⟩, _⟩ := st
    rcases (by simpa using hb : b = e ∨ b = it) with z | z
    · rw [z]; exact ⟨_, he, fun v q => nomatch q⟩
    · rw [z]; exact ⟨o, ho, fun v q => by rw [hd] at q; cases q⟩
  keep := fun i h h' st k => let ⟨⟨old, he⟩, hi, hne⟩ := st; ⟨⟨old, k e (by simp) _ he⟩, hi.at fun o q => k it (by simp) o q, hne⟩
  item := by
    intro X hP hw hK hc i pins s σ H E I hf st hg
    subst hP hw hK
    obtain ⟨⟨old, he⟩, hit, hne, hea, hai⟩ := st
    obtain ⟨xs, x, hq, hx⟩ := hg
    obtain ⟨its, rv, p, hz⟩ := I.tuple hq
    obtain ⟨u, hu, ru⟩ := rv.get hx
    have hel : e < s.heap.objs.size := Heap.lt_size he
    have hil : it < s.heap.objs.size := by obtain ⟨_, q, _⟩ := hit; exact Heap.lt_size q
    have hiz : i < its.toArray.size := by
      rw [List.size_toArray]
      exact (List.getElem?_eq_some_iff.mp hu).1
    refine wpAny_pyNext_enum_itemD (Draws.tuple (A := X.A.in1) (I.ok.hd hc) it a hai its.toArray) he ⟨hit, p⟩ hiz hne (by simp [hne, hea]) fun y h' tk hy ho hst hT hsz hk => ?_
    have ey : y = u := by
      have e1 : its.toArray[i]? = some u := by simpa using hu
      rw [e1] at hy
      exact (Option.some.inj hy).symm
    subst ey
    refine ⟨_, rfl, wpAny_letOwnedTupleGo_enum (s := { s with heap := h', toks := tk + 1 }) ho fun h'' he' sb => ?_⟩
    have hT2 : h''.get? s.heap.objs.size = some { cls := .type "tuple", data := .seq #[.int i tk, y] } := (sb.2 _ (Nat.ne_of_gt hel)).trans hT
    have new : ObjOk X.prog X.w (upd H s.heap.objs.size (.tup [.int (i : Nat), x])) h'' s.heap.objs.size (.tup [.int (i : Nat), x]) :=
      ⟨by show 2 ≤ sizeLine; decide, [.int i tk, y], .cons ⟨_, rfl⟩ (.cons ru .nil), ⟨_, hT2, rfl, _, rfl⟩⟩
    have I1 : Inv X pins σ (upd H s.heap.objs.size (.tup [.int (i : Nat), x])) { s with heap := h'', toks := tk + 1 } :=
      I.turnedNew (ch := [e, it]) (fun b ob hb q => (sb.2 b (fun z => hb (by simp [z]))).trans (hk b ob (fun z => hb (by simp [z])) (fun z => hb (by simp [z])) q)) hf (Nat.le_refl _) new
    refine ⟨.ref s.heap.objs.size, _, I1, rfl, ⟨_, x, rfl, I.hok.fresh (Nat.le_refl _), rfl, fun ys hy => by rw [I.tuple_inj hy hq]; exact hx⟩, ⟨⟨y, ?_⟩, hst.1.at fun o q => (sb.2 it (Ne.symm hne)).trans q, hne, hea, hai⟩, fun b hb => ?_⟩
    · have e1 : ((i + 1 : Nat) : Int) = (i : Int) + 1 := by omega
      rw [e1]
      exact he'
    · have hb' : b < s.heap.objs.size := by
        rcases (by simpa using hb : b = e ∨ b = it) with z | z
        · rw [z]; exact hel
        · rw [z]; exact hil
      rw [upd_ne (Nat.ne_of_lt hb')]
      exact (hf b hb).1
  done := by
    intro X hP hw hK hc i pins s σ H E I hf st hg
    subst hP hw hK
    obtain ⟨⟨old, he⟩, hit, hne, _⟩ := st
    obtain ⟨xs, hq, hx⟩ := hg
    obtain ⟨its, rv, p, hz⟩ := I.tuple hq
    obtain ⟨f0, f1, f2, f3, f4, f5⟩ := hf it (by simp)
    have hl := rv.length
    exact next_enumT_end (I.ok.hd hc) he hit p (by simp; omega) fun h' eb => ⟨rfl, I.turned (t' := s.toks) (fun b o hb q => eb b o hb q) f0 f1 f3 f4 f5⟩
  self := fun A i s Q E st h => let ⟨⟨_, he⟩, _⟩ := st; wpAny_pyIter_enum he h
def iEnumT (K : PySem.W.Frag) (ta : TA) : L2.TI := fun σ H R => ta σ H fun vs H1 => ∃ a xs, vs = [.ref a] ∧ SqT K H1 a xs ∧ R (IteT K a) H1
theorem pi_enumT {X : Cx} {e : Expr} {ta : TA} {p pos tpos : Pos} {elts : List Expr} {kk : Nat} (hg : Gl X "enumerate") (hm : X.mg "enumerate" = none) (ha : PA X [e] ta) (hs : starEach [e] X.env = [(false, eval e X.env)] := by rfl) :
    PI X (.Tuple elts kk tpos) (.Call (.Name "enumerate" p) [e] [] pos) (iEnumT X.K ta) := by
  refine ⟨fun pins s σ H R I h => ?_⟩
  refine Call_ (ld_blt I hg hm boot_enumerate (PyProof.Rows.callWith_type1 (thn (ha.run pos pins s σ H _ I h) fun us s1 ⟨vs, H1, I1, r1, q1⟩ => ?_) hs rfl))
  obtain ⟨a, xs, ex, hq, q⟩ := q1
  subst ex
  cases r1 with
  | cons r rr =>
    cases rr
    cases r
    obtain ⟨its, rv, p', hz⟩ := I1.tuple hq
    have hal : a < s1.heap.objs.size := by
      obtain ⟨o, ho, _⟩ := id p'
      exact Heap.lt_size ho
    refine call_enumT p' fun h' he hit hsz hk => wpAny_pyIter_enum he ?_
    have I2 : Inv X pins σ H1 { s1 with heap := h' } := I1.kept (t' := s1.toks) hk
    refine ⟨s1.heap.objs.size + 1, [s1.heap.objs.size + 1, s1.heap.objs.size], _, _, H1, rfl, I2, turn_enumT a (s1.heap.objs.size + 1) s1.heap.objs.size, ⟨⟨.none, he⟩, hit, Nat.succ_ne_self _, fun z => absurd (z ▸ hal : s1.heap.objs.size + 1 < s1.heap.objs.size) (Nat.not_lt_of_le (Nat.le_succ _)), Nat.ne_of_lt hal⟩, fun b hb => ?_, q⟩
    have hle : s1.heap.objs.size ≤ b := by
      rcases (by simpa using hb : b = s1.heap.objs.size + 1 ∨ b = s1.heap.objs.size) with z | z
      · rw [z]; exact Nat.le_add_right _ _
      · rw [z]; exact Nat.le_refl _
    exact I1.fpOk hle (I1.hok.fresh hle)
theorem for_enumT {K : PySem.W.Frag} {a : Addr} {xs : List V} {g : TG} {tb : TS} {D : Ends} {σ : L2.St} {H : Hp} (Pv : Nat → L2.St → Hp → Prop) (h0 : Pv 0 σ H) (hl : ∀ i σ H, i ≤ xs.length → Pv i σ H → SqT K H a xs)
    (hs : ∀ (i : Nat) (x : V) (T : Addr) (σ : L2.St) (H : Hp), xs[i]? = some x → Pv i σ H → H T = none → g (.ref T) σ (upd H T (.tup [.int (i : Nat), x])) fun σ2 H2 => tb { D with nx := Pv (i + 1), ct := Pv (i + 1), bk := D.nx } σ2 H2) (hd : ∀ σ H, Pv xs.length σ H → D.nx σ H) :
    ∃ W : Nat → Nat → L2.St → Hp → Prop, (∃ m, W 0 m σ H) ∧ ∀ i m σ H, W i m σ H →
      ((IteT K a).stop i H ∧ D.nx σ H) ∨ ((IteT K a).go i H ∧ ∃ N : L2.St → Hp → Prop, (∀ σ' H', N σ' H' → ∃ m', m' < m ∧ W (i + 1) m' σ' H') ∧ ∀ x H', (IteT K a).yld i H x H' → g x σ H' fun σ2 H2 => tb { D with nx := N, ct := N, bk := D.nx } σ2 H2) := by
  refine ⟨fun i m σ H => m = xs.length - i ∧ i ≤ xs.length ∧ Pv i σ H, ⟨xs.length, by simp, Nat.zero_le _, h0⟩, ?_⟩
  rintro i m σ H ⟨rfl, hi, p⟩
  have q := hl i σ H hi p
  by_cases lt : i < xs.length
  · refine Or.inr ⟨⟨xs, xs[i], q, by simp [lt]⟩, Pv (i + 1), fun σ' H' p' => ⟨xs.length - (i + 1), by omega, rfl, lt, p'⟩, ?_⟩
    rintro v H' ⟨T, x, rfl, hT, rfl, y⟩
    exact hs i x T σ H (y xs q) p hT
  · have e : i = xs.length := by omega
    subst e
    exact Or.inl ⟨⟨xs, q, Nat.le_refl _⟩, hd σ H p⟩
end Lw

namespace Lw
open PySem PySem.Spec PyProof.Rows L2

/-! ### anything beside a text -/
theorem rc_dict_str {A : Around} {s : Shared} {l : Addr} {o : Obj} {es : Array DictEntry} {ep : Nat} (b : Str) (u : Tok) (ho : s.heap.get? l = some o) (hc : o.cls = .type "dict") (hd : o.data = .dict es ep) (hu : A.units < cLine) : SeqAt.RcAt A s (.ref l) (.str b u) false := fun prog w E Q h => by
  obtain ⟨cls, dd, data, sl⟩ := o
  simp only at hc hd
  subst hc hd
  exact SeqAt.rc_eq_decline_or (k := false) ⟨_, ho, rfl⟩ (typeIs_str s b u) (by decide) F.sub_str_dict F.slot_dict_eq F.slot_str_eq_refl
    (fun _ hq => call_meets F.slot_dict_eq ⟨_, ho, rfl⟩ F.entry_dict_eq (F.args_dict_eq_2 _ _) (dict_eq_declines_str l es ep dd sl b u) ⟨ho, hq⟩)
    (fun _ hq => call_meets F.slot_str_eq_refl (typeIs_str s b u) F.entry_str_eq (F.args_str_eq_2 _ _) (str_eq_declines_dict b u l (.type "dict") es ep dd sl) ⟨ho, hq⟩)
    (fun _ hq => wpAny_of_eq (rfl : isSame (.ref l) (.str b u) = pure false) hq) (.inr hu) h
theorem beq_swap (x y : Str) : (x == y) = (y == x) := by
  by_cases h : x = y
  · subst h
    rfl
  · have h1 : (x == y) = false := by simpa using h
    have h2 : (y == x) = false := by simpa using fun z : y = x => h z.symm
    rw [h1, h2]
def rEqDS : R2 := fun x y H Q => ∃ (z : Str) (d : PyData) (f : Bool), D f H x d ∧ y = .str z ∧ Q (.bl (strIs z d)) H
theorem op_eqDS {X : Cx} {k : Nat} (room : Room k X.A) : OpR X (compareOp .Eq) rEqDS := by
  intro pins s σ H x y v u Q I rx ry h
  obtain ⟨z, d, f, hd, rfl, q⟩ := h
  obtain ⟨t, rfl⟩ := ry
  have fin : ∀ b : Bool, b = strIs z d → SeqAt.RcAt X.A s v (.str z t) b → wpAny (model X.prog X.w) X.A (compareOp .Eq v (.str z t)) (fun r s' => EP X pins σ Q r s') X.xe s := fun b e rc => by
    refine rc X.prog X.w X.xe _ ?_
    rw [e]
    exact ⟨.bl (strIs z d), H, I, rfl, q⟩
  cases hd with
  | non =>
    cases rx
    exact fin false rfl (SeqAt.RcAt.none_str z t)
  | bl b =>
    cases rx
    exact fin false rfl (SeqAt.RcAt.bool_str b z t)
  | int i =>
    obtain ⟨t2, rfl⟩ := rx
    exact fin false rfl (SeqAt.RcAt.int_str i t2 z t)
  | str y =>
    obtain ⟨t2, rfl⟩ := rx
    exact fin _ (beq_swap y z) (SeqAt.RcAt.str_str y t2 z t)
  | @lst a xs ds e n dt =>
    cases (show v = Value.ref a from rx)
    obtain ⟨_, its, k, rv, ho⟩ := (show ObjOk X.prog X.w H s.heap a (.lst xs) from I.hok a _ e)
    exact fin false rfl (SeqAt.RcAt.list_str z t ⟨_, ho, rfl, _, rfl⟩ room.units0)
  | @tup a xs ds e dt =>
    cases (show v = Value.ref a from rx)
    obtain ⟨_, its, rv, o, ho, hc, k, hd⟩ := (show ObjOk X.prog X.w H s.heap a (.tup xs) from I.hok a _ e)
    exact fin false rfl (SeqAt.RcAt.tuple_str z t ⟨_, ho, hc, _, hd⟩ room.units0)
  | @dct a kvs ds e dt =>
    cases (show v = Value.ref a from rx)
    obtain ⟨_, ns, vs, kv, o, es, ep, ho, ex, hd, _, pr, _⟩ := (show ObjOk X.prog X.w H s.heap a (.dK kvs) from I.hok a _ e)
    exact fin false rfl (rc_dict_str z t ho ex.1 hd room.units0)
/-! ### along a text -/
theorem lc_str {z : Str} {g : TG} {tt : TT} {te : TE} {vs : List Nat} {σ : L2.St} {H1 : Hp} {D : Addr} {Qd : Hp → Prop} (Pv : Nat → Hp → Prop) (h0 : Pv 0 (upd H1 D (.lst [])))
    (hs : ∀ i c H, z.cps.toList[i]? = some c → Pv i H → g (.str ⟨#[c]⟩) (wipe σ vs) H fun σ2 H2 => wipe σ2 vs = wipe σ vs ∧ tt σ2 H2 fun b H3 =>
      if b = true then te σ2 H3 fun y H4 => ∃ acc, H4 D = some (.lst acc) ∧ acc.length < sizeLine ∧ Pv (i + 1) (upd H4 D (.lst (acc ++ [y]))) else Pv (i + 1) H3) (hd : ∀ H, Pv z.cps.toList.length H → Qd H) :
    LcEnd (Its z) g tt te vs σ H1 D Qd := by
  have hz : z.cps.size = z.cps.toList.length := by rw [Array.length_toList]
  refine ⟨fun i m H => m = z.cps.toList.length - i ∧ i ≤ z.cps.toList.length ∧ Pv i H, ⟨z.cps.toList.length, by simp, Nat.zero_le _, h0⟩, ?_⟩
  rintro i m H ⟨rfl, hi, p⟩
  by_cases lt : i < z.cps.toList.length
  · refine Or.inr ⟨show i < z.cps.size by rw [hz]; exact lt, Pv (i + 1), fun H' p' => ⟨z.cps.toList.length - (i + 1), by omega, rfl, lt, p'⟩, ?_⟩
    rintro x H' ⟨rfl, c, hc, rfl⟩
    exact hs i c _ (by rw [Array.getElem?_toList]; exact hc) p
  · have e : i = z.cps.toList.length := by omega
    subst e
    exact Or.inl ⟨show z.cps.size ≤ z.cps.toList.length by rw [hz]; exact Nat.le_refl _, hd H p⟩
/-! ### two for in one list -/
theorem lc2_list {K : PySem.W.Frag} {a : Addr} {xs : List V} {g : TG} {tt : TT} {vs : List Nat} {σ : L2.St} {H1 : Hp} {D : Addr} {Qd : Hp → Prop} {inner : L2.St → Hp → (Hp → Prop) → Prop} (Pv : Nat → Hp → Prop) (h0 : Pv 0 (upd H1 D (.lst []))) (hl : ∀ i H, i ≤ xs.length → Pv i H → SqL K H a xs)
    (hs : ∀ i x H, xs[i]? = some x → Pv i H → g x (wipe σ vs) H fun σ2 H2 => wipe σ2 vs = wipe σ vs ∧ tt σ2 H2 fun b H3 => if b = true then inner σ2 H3 (Pv (i + 1)) else Pv (i + 1) H3) (hd : ∀ H, Pv xs.length H → Qd H) :
    ∃ W : Nat → Nat → Hp → Prop, (∃ m, W 0 m (upd H1 D (.lst []))) ∧ ∀ i m H, W i m H →
      ((Itl K a).stop i H ∧ Qd H) ∨ ((Itl K a).go i H ∧ ∃ Nx : Hp → Prop, (∀ H', Nx H' → ∃ m', m' < m ∧ W (i + 1) m' H') ∧ ∀ x H', (Itl K a).yld i H x H' → g x (wipe σ vs) H' fun σ2 H2 => wipe σ2 vs = wipe σ vs ∧ tt σ2 H2 fun b H3 => if b = true then inner σ2 H3 Nx else Nx H3) := by
  refine ⟨fun i m H => m = xs.length - i ∧ i ≤ xs.length ∧ Pv i H, ⟨xs.length, by simp, Nat.zero_le _, h0⟩, ?_⟩
  rintro i m H ⟨rfl, hi, p⟩
  have q := hl i H hi p
  by_cases lt : i < xs.length
  · refine Or.inr ⟨⟨xs, xs[i], q, by simp [lt]⟩, Pv (i + 1), fun H' p' => ⟨xs.length - (i + 1), by omega, rfl, lt, p'⟩, ?_⟩
    rintro x H' ⟨e, y⟩
    subst e
    exact hs i x _ (y xs q) p
  · have e : i = xs.length := by omega
    subst e
    exact Or.inl ⟨⟨xs, q, Nat.le_refl _⟩, hd H p⟩
theorem lc2_tup {K : PySem.W.Frag} {a : Addr} {xs : List V} {g1 : TG} {tt1 : TT} {te : TE} {vs1 : List Nat} {σ2 : L2.St} {H4 : Hp} {D : Addr} {Nx : Hp → Prop} (Pw : Nat → Hp → Prop) (h0 : Pw 0 H4) (hl : ∀ j H, j ≤ xs.length → Pw j H → SqT K H a xs)
    (hs : ∀ j x H, xs[j]? = some x → Pw j H → g1 x (wipe σ2 vs1) H fun σ3 H5 => wipe σ3 vs1 = wipe σ2 vs1 ∧ tt1 σ3 H5 fun b H6 =>
      if b = true then te σ3 H6 fun y H7 => ∃ acc, H7 D = some (.lst acc) ∧ acc.length < sizeLine ∧ Pw (j + 1) (upd H7 D (.lst (acc ++ [y]))) else Pw (j + 1) H6) (hd : ∀ H, Pw xs.length H → Nx H) :
    ∃ W1 : Nat → Nat → Hp → Prop, (∃ m, W1 0 m H4) ∧ ∀ j k H, W1 j k H →
      ((Itt K a).stop j H ∧ Nx H) ∨ ((Itt K a).go j H ∧ ∃ Nx1 : Hp → Prop, (∀ H', Nx1 H' → ∃ k', k' < k ∧ W1 (j + 1) k' H') ∧ ∀ x H', (Itt K a).yld j H x H' → g1 x (wipe σ2 vs1) H' fun σ3 H5 => wipe σ3 vs1 = wipe σ2 vs1 ∧ tt1 σ3 H5 fun b H6 =>
        if b = true then te σ3 H6 fun y H7 => ∃ acc, H7 D = some (.lst acc) ∧ acc.length < sizeLine ∧ Nx1 (upd H7 D (.lst (acc ++ [y]))) else Nx1 H6) := by
  refine ⟨fun j k H => k = xs.length - j ∧ j ≤ xs.length ∧ Pw j H, ⟨xs.length, by simp, Nat.zero_le _, h0⟩, ?_⟩
  rintro j k H ⟨rfl, hj, p⟩
  have q := hl j H hj p
  by_cases lt : j < xs.length
  · refine Or.inr ⟨⟨xs, xs[j], q, by simp [lt]⟩, Pw (j + 1), fun H' p' => ⟨xs.length - (j + 1), by omega, rfl, lt, p'⟩, ?_⟩
    rintro x H' ⟨e, y⟩
    subst e
    exact hs j x _ (y xs q) p
  · have e : j = xs.length := by omega
    subst e
    exact Or.inl ⟨⟨xs, q, Nat.le_refl _⟩, hd H p⟩
end Lw

namespace Pu
open PySem PySem.Spec PyProof.Rows L2 Lw
open Classical

/-! ### plain values, and a memory of what may be changed -/
inductive U where
  | dat (d : PyData)
  | cell (i : Nat)
  | tupc (us : List U)
  | adr (a : Addr)
  | scr (ns : List Int)
  | kt (xs : List V)
  | ty (n : String)
inductive Cell where
  | lst (f : Bool) (us : List U)
  | fz (ds : List PyData)
  | dk (kvs : List (Key × U))
  | ins (C : Addr) (fs : List (Str × U))
abbrev Mem := List Cell
abbrev Env := List (Option U)
def Cell.live : Cell → Bool
  | .fz _ => false
  | _ => true
def Lv (α : List Addr) (M : Mem) (b : Addr) : Prop := ∃ (i : Nat) (c : Cell), α[i]? = some b ∧ M[i]? = some c ∧ c.live = true
noncomputable def fzH (α : List Addr) (M : Mem) (H : Hp) : Hp := fun b => if Lv α M b then none else H b
theorem fzH_some {α : List Addr} {M : Mem} {H : Hp} {b : Addr} {o : HO} (h : fzH α M H b = some o) : ¬ Lv α M b ∧ H b = some o := by
  unfold fzH at h
  split at h
  · cases h
  · exact ⟨by assumption, h⟩
theorem fzH_of {α : List Addr} {M : Mem} {H : Hp} {b : Addr} (h : ¬ Lv α M b) : fzH α M H b = H b := if_neg h
theorem fzH_le {α : List Addr} {M : Mem} {H : Hp} : Same (fzH α M H) H := fun b o h => (fzH_some h).2

mutual
inductive VR (K : PySem.W.Frag) (α : List Addr) (G : Hp) : V → U → Prop
  | dat {v : V} {d : PyData} : D true G v d → VR K α G v (.dat d)
  | cell {a : Addr} {i : Nat} : α[i]? = some a → VR K α G (.ref a) (.cell i)
  | tupc {a : Addr} {xs : List V} {us : List U} : G a = some (.tup xs) → VRs K α G xs us → VR K α G (.ref a) (.tupc us)
  | adr (a : Addr) : VR K α G (.ref a) (.adr a)
  | scr {a : Addr} {ns : List Int} : SqL K G a (ns.map V.int) → VR K α G (.ref a) (.scr ns)
  | kt {a : Addr} {xs : List V} : SqT K G a xs → VR K α G (.ref a) (.kt xs)
  | ty (n : String) : VR K α G (.ty n) (.ty n)
inductive VRs (K : PySem.W.Frag) (α : List Addr) (G : Hp) : List V → List U → Prop
  | nil : VRs K α G [] []
  | cons {v : V} {vs : List V} {u : U} {us : List U} : VR K α G v u → VRs K α G vs us → VRs K α G (v :: vs) (u :: us)
end
structure Ext (α : List Addr) (G : Hp) (α' : List Addr) (G' : Hp) : Prop where
  pre : ∀ (i : Nat) (a : Addr), α[i]? = some a → α'[i]? = some a
  same : Same G G'
theorem Ext.refl {α : List Addr} {G : Hp} : Ext α G α G := ⟨fun _ _ h => h, Same.refl G⟩
theorem Ext.trans {α α1 α2 : List Addr} {G G1 G2 : Hp} (x : Ext α G α1 G1) (y : Ext α1 G1 α2 G2) : Ext α G α2 G2 :=
  ⟨fun i a h => y.pre i a (x.pre i a h), x.same.trans y.same⟩
theorem Rd.ext {G G' : Hp} {a : Addr} {u : HO} (s : Same G G') (h : Rd G a u) : Rd G' a u := by
  rcases h with h | ⟨o, h⟩
  · exact .inl (s _ _ h)
  · exact .inr ⟨o, s _ _ h⟩
theorem SqL.ext {K : PySem.W.Frag} {G G' : Hp} {a : Addr} {xs : List V} (s : Same G G') (h : SqL K G a xs) : SqL K G' a xs := by
  rcases h with h | h
  · exact .inl (Rd.ext s h)
  · exact .inr h
theorem SqT.ext {K : PySem.W.Frag} {G G' : Hp} {a : Addr} {xs : List V} (s : Same G G') (h : SqT K G a xs) : SqT K G' a xs := by
  rcases h with h | h
  · exact .inl (Rd.ext s h)
  · exact .inr h
mutual
theorem VR.ext {K : PySem.W.Frag} {α α' : List Addr} {G G' : Hp} (x : Ext α G α' G') : ∀ {v : V} {u : U}, VR K α G v u → VR K α' G' v u
  | _, _, .dat h => .dat (h.same x.same)
  | _, _, .cell h => .cell (x.pre _ _ h)
  | _, _, .tupc h t => .tupc (x.same _ _ h) (VRs.ext x t)
  | _, _, .adr a => .adr a
  | _, _, .scr h => .scr (SqL.ext x.same h)
  | _, _, .kt h => .kt (SqT.ext x.same h)
  | _, _, .ty n => .ty n
theorem VRs.ext {K : PySem.W.Frag} {α α' : List Addr} {G G' : Hp} (x : Ext α G α' G') : ∀ {vs : List V} {us : List U}, VRs K α G vs us → VRs K α' G' vs us
  | _, _, .nil => .nil
  | _, _, .cons h t => .cons (VR.ext x h) (VRs.ext x t)
end
section
variable {K : PySem.W.Frag} {α : List Addr} {G : Hp}
theorem VRs.length : ∀ {vs : List V} {us : List U}, VRs K α G vs us → vs.length = us.length
  | _, _, .nil => rfl
  | _, _, .cons _ t => by rw [List.length_cons, List.length_cons, t.length]
theorem VRs.append : ∀ {vs ws : List V} {us ys : List U}, VRs K α G vs us → VRs K α G ws ys → VRs K α G (vs ++ ws) (us ++ ys)
  | _, _, _, _, .nil, h => h
  | _, _, _, _, .cons h t, g => .cons h (t.append g)
theorem VRs.get : ∀ {vs : List V} {us : List U} (i : Nat) {u : U}, VRs K α G vs us → us[i]? = some u → ∃ v, vs[i]? = some v ∧ VR K α G v u
  | _, _, _, _, .nil, e => by simp at e
  | _, _, 0, _, .cons h _, e => by
    simp at e
    subst e
    exact ⟨_, rfl, h⟩
  | _, _, i + 1, u, .cons _ t, e => by
    obtain ⟨v, e1, h⟩ := VRs.get i (u := u) t (by simpa using e)
    exact ⟨v, by simpa using e1, h⟩
theorem VRs.get' : ∀ {vs : List V} {us : List U} (i : Nat) {v : V}, VRs K α G vs us → vs[i]? = some v → ∃ u, us[i]? = some u ∧ VR K α G v u
  | _, _, _, _, .nil, e => by simp at e
  | _, _, 0, _, .cons h _, e => by
    simp at e
    subst e
    exact ⟨_, rfl, h⟩
  | _, _, i + 1, v, .cons _ t, e => by
    obtain ⟨u, e1, h⟩ := VRs.get' i (v := v) t (by simpa using e)
    exact ⟨u, by simpa using e1, h⟩
theorem VRs.take : ∀ {vs : List V} {us : List U} (n : Nat), VRs K α G vs us → VRs K α G (vs.take n) (us.take n)
  | _, _, 0, _ => .nil
  | _, _, _ + 1, .nil => .nil
  | _, _, n + 1, .cons h t => .cons h (t.take n)
theorem VRs.drop : ∀ {vs : List V} {us : List U} (n : Nat), VRs K α G vs us → VRs K α G (vs.drop n) (us.drop n)
  | _, _, 0, h => h
  | _, _, _ + 1, .nil => .nil
  | _, _, n + 1, .cons _ t => t.drop n
theorem VRs.rev : ∀ {vs : List V} {us : List U}, VRs K α G vs us → VRs K α G vs.reverse us.reverse
  | _, _, .nil => .nil
  | _, _, .cons h t => by
    rw [List.reverse_cons, List.reverse_cons]
    exact t.rev.append (.cons h .nil)
theorem VRs.set : ∀ {vs : List V} {us : List U} (i : Nat) {v : V} {u : U}, VRs K α G vs us → VR K α G v u → VRs K α G (vs.set i v) (us.set i u)
  | _, _, _, _, _, .nil, _ => .nil
  | _, _, 0, _, _, .cons _ t, h => .cons h t
  | _, _, i + 1, _, _, .cons g t, h => .cons g (t.set i h)
theorem VRs.flat : ∀ {xs : List V} {us : List U} (k : Nat), VRs K α G xs us → VRs K α G (List.replicate k xs).flatten (List.replicate k us).flatten
  | _, _, 0, _ => .nil
  | _, _, k + 1, h => by
    rw [List.replicate_succ, List.replicate_succ, List.flatten_cons, List.flatten_cons]
    exact h.append (VRs.flat k h)
theorem VRs.ofDA : ∀ {vs : List V} {ds : List PyData}, DA true G vs ds → VRs K α G vs (ds.map .dat)
  | _, _, .nil => .nil
  | _, _, .cons h t => .cons (.dat h) (VRs.ofDA t)
end
/-- all are data -/
def allDat : List U → Option (List PyData)
  | [] => some []
  | .dat d :: us => (allDat us).map (d :: ·)
  | _ :: _ => none
theorem allDat_map : ∀ ds : List PyData, allDat (ds.map .dat) = some ds
  | [] => rfl
  | d :: ds => by
    show (allDat (ds.map .dat)).map (d :: ·) = _
    rw [allDat_map ds]
    rfl
theorem allDat_some : ∀ {us : List U} {ds : List PyData}, allDat us = some ds → us = ds.map .dat
  | [], _, h => by cases h; rfl
  | .dat d :: us, ds, h => by
    have h' : (allDat us).map (d :: ·) = some ds := h
    obtain ⟨es, e1, e2⟩ := Option.map_eq_some_iff.mp h'
    subst e2
    rw [List.map_cons, ← allDat_some e1]
  | .cell _ :: _, _, h => by cases h
  | .tupc _ :: _, _, h => by cases h
  | .adr _ :: _, _, h => by cases h
  | .scr _ :: _, _, h => by cases h
  | .kt _ :: _, _, h => by cases h
  | .ty _ :: _, _, h => by cases h
theorem VRs.toDA {K : PySem.W.Frag} {α : List Addr} {G : Hp} : ∀ {vs : List V} {ds : List PyData}, VRs K α G vs (ds.map .dat) → DA true G vs ds
  | _, [], .nil => .nil
  | _, d :: ds, .cons (.dat h) t => .cons h (VRs.toDA t)
def CellR (K : PySem.W.Frag) (α : List Addr) (G H : Hp) (a : Addr) : Cell → Prop
  | .lst f us => (f = true → a ≠ sysModules) ∧ ∃ xs, H a = some (.lst xs) ∧ VRs K α G xs us
  | .fz ds => a ≠ sysModules ∧ ∃ xs, H a = some (.lst xs) ∧ DA true G xs ds
  | .dk kvs => ∃ xs : List (Key × V), H a = some (.dK xs) ∧ xs.map (·.1) = kvs.map (·.1) ∧ VRs K α G (xs.map (·.2)) (kvs.map (·.2))
  | .ins C fs => ∃ (dx : Addr) (xs : List (Str × V)), H a = some (.ins C dx xs) ∧ xs.map (·.1) = fs.map (·.1) ∧ VRs K α G (xs.map (·.2)) (fs.map (·.2))
theorem CellR.some {K : PySem.W.Frag} {α : List Addr} {G H : Hp} {a : Addr} {c : Cell} (h : CellR K α G H a c) : ∃ o, H a = some o := by
  cases c with
  | lst f us => obtain ⟨_, xs, e, _⟩ := h; exact ⟨_, e⟩
  | fz ds => obtain ⟨_, xs, e, _⟩ := h; exact ⟨_, e⟩
  | dk kvs => obtain ⟨xs, e, _⟩ := h; exact ⟨_, e⟩
  | ins C fs => obtain ⟨dx, xs, e, _⟩ := h; exact ⟨_, e⟩
theorem CellR.ext {K : PySem.W.Frag} {α α' : List Addr} {G G' H H' : Hp} {a : Addr} {c : Cell} (h : CellR K α G H a c) (x : Ext α G α' G') (e : H' a = H a) : CellR K α' G' H' a c := by
  cases c with
  | lst f us => obtain ⟨z, xs, q, r⟩ := h; exact ⟨z, xs, e.trans q, r.ext x⟩
  | fz ds => obtain ⟨z, xs, q, r⟩ := h; exact ⟨z, xs, e.trans q, r.same x.same⟩
  | dk kvs => obtain ⟨xs, q, k, r⟩ := h; exact ⟨xs, e.trans q, k, r.ext x⟩
  | ins C fs => obtain ⟨dx, xs, q, k, r⟩ := h; exact ⟨dx, xs, e.trans q, k, r.ext x⟩
/-- the memory is what stands in the heap -/
structure Rp (K : PySem.W.Frag) (α : List Addr) (M : Mem) (H : Hp) : Prop where
  len : α.length = M.length
  nd : α.Nodup
  ok : ∀ (i : Nat) (a : Addr) (c : Cell), α[i]? = some a → M[i]? = some c → CellR K α (fzH α M H) H a c
section
variable {K : PySem.W.Frag} {α : List Addr} {M : Mem} {H : Hp}
theorem Rp.addr (R : Rp K α M H) {i : Nat} {c : Cell} (h : M[i]? = some c) : ∃ a, α[i]? = some a := by
  have h1 := (List.getElem?_eq_some_iff.mp h).1
  exact ⟨α[i]'(by rw [R.len]; exact h1), List.getElem?_eq_getElem _⟩
theorem Rp.cellAt (R : Rp K α M H) {i : Nat} {a : Addr} (h : α[i]? = some a) : ∃ c, M[i]? = some c := by
  have h1 := (List.getElem?_eq_some_iff.mp h).1
  exact ⟨M[i]'(by rw [← R.len]; exact h1), List.getElem?_eq_getElem _⟩
theorem Rp.fresh (R : Rp K α M H) {p : Addr} (h : H p = none) : p ∉ α := fun z => by
  obtain ⟨i, hi⟩ := List.mem_iff_getElem?.mp z
  obtain ⟨c, hc⟩ := R.cellAt hi
  obtain ⟨o, e⟩ := (R.ok i p c hi hc).some
  rw [e] at h
  cases h
theorem Lv.mem {b : Addr} (h : Lv α M b) : b ∈ α := by
  obtain ⟨i, c, hi, _⟩ := h
  exact List.mem_of_getElem? hi
theorem nodup_at (R : Rp K α M H) {i j : Nat} {a : Addr} (h : α[i]? = some a) (g : α[j]? = some a) : i = j := by
  obtain ⟨h1, e1⟩ := List.getElem?_eq_some_iff.mp h
  obtain ⟨h2, e2⟩ := List.getElem?_eq_some_iff.mp g
  exact (List.getElem_inj R.nd).mp (e1.trans e2.symm)
/-- a new thing that is never changed -/
theorem Rp.newFix (R : Rp K α M H) {p : Addr} {o : HO} (h : H p = none) : Rp K α M (upd H p o) ∧ Ext α (fzH α M H) α (fzH α M (upd H p o)) ∧ fzH α M (upd H p o) p = some o := by
  have np := R.fresh h
  have nl : ¬ Lv α M p := fun z => np z.mem
  have x : Ext α (fzH α M H) α (fzH α M (upd H p o)) := ⟨fun _ _ z => z, fun b u e => by
    obtain ⟨n, e⟩ := fzH_some e
    rw [fzH_of n, upd_ne (ne_of_none e h)]
    exact e⟩
  refine ⟨⟨R.len, R.nd, fun i a c hi hc => (R.ok i a c hi hc).ext x ?_⟩, x, by rw [fzH_of nl, upd_same]⟩
  exact upd_ne fun z => np (z ▸ List.mem_of_getElem? hi)
theorem Rp.newMem (R : Rp K α M H) {p : Addr} {o : HO} {c : Cell} (h : H p = none) (lv : c.live = true) (hc : ∀ {α' : List Addr} {G' : Hp}, Ext α (fzH α M H) α' G' → CellR K α' G' (upd H p o) p c) :
    Rp K (α ++ [p]) (M ++ [c]) (upd H p o) ∧ Ext α (fzH α M H) (α ++ [p]) (fzH (α ++ [p]) (M ++ [c]) (upd H p o)) ∧ (α ++ [p])[M.length]? = some p := by
  have np := R.fresh h
  have lvI : ∀ b, Lv (α ++ [p]) (M ++ [c]) b ↔ Lv α M b ∨ b = p := by
    intro b
    constructor
    · rintro ⟨i, d, hi, hd, l⟩
      by_cases z : i < α.length
      · rw [List.getElem?_append_left z] at hi
        rw [List.getElem?_append_left (by rw [← R.len]; exact z)] at hd
        exact .inl ⟨i, d, hi, hd, l⟩
      · rw [List.getElem?_append_right (by omega)] at hi
        have := (List.getElem?_eq_some_iff.mp hi).1
        have e : i - α.length = 0 := by simp at this; omega
        rw [e] at hi
        simp at hi
        exact .inr hi.symm
    · rintro (⟨i, d, hi, hd, l⟩ | e)
      · exact ⟨i, d, by rw [List.getElem?_append_left (List.getElem?_eq_some_iff.mp hi).1]; exact hi, by rw [List.getElem?_append_left (List.getElem?_eq_some_iff.mp hd).1]; exact hd, l⟩
      · exact ⟨α.length, c, by simp [e], by rw [R.len]; simp, lv⟩
  have x : Ext α (fzH α M H) (α ++ [p]) (fzH (α ++ [p]) (M ++ [c]) (upd H p o)) := ⟨fun i a z => by
      rw [List.getElem?_append_left (List.getElem?_eq_some_iff.mp z).1]
      exact z, fun b u e => by
    obtain ⟨n, e⟩ := fzH_some e
    have nb : b ≠ p := ne_of_none e h
    rw [fzH_of (fun z => ((lvI b).mp z).elim n nb), upd_ne nb]
    exact e⟩
  refine ⟨⟨by rw [List.length_append, List.length_append, R.len]; rfl, ?_, fun i a d hi hd => ?_⟩, x, by rw [← R.len]; simp⟩
  · rw [List.nodup_append]
    refine ⟨R.nd, by simp, fun y hy z hz => ?_⟩
    rw [List.mem_singleton.mp hz]
    exact fun e => np (e ▸ hy)
  · by_cases z : i < α.length
    · rw [List.getElem?_append_left z] at hi
      rw [List.getElem?_append_left (by rw [← R.len]; exact z)] at hd
      exact (R.ok i a d hi hd).ext x (upd_ne fun e => np (e ▸ List.mem_of_getElem? hi))
    · have hl := (List.getElem?_eq_some_iff.mp hi).1
      rw [List.length_append] at hl
      simp at hl
      have e : i = α.length := by omega
      subst e
      have h1 : a = p := by simpa using hi.symm
      have h2 : d = c := by
        rw [R.len] at hd
        simpa using hd.symm
      subst h1 h2
      exact hc x
theorem lv_set {i : Nat} {c d : Cell} (hc : M[i]? = some c) (l : c.live = d.live) (b : Addr) : Lv α (M.set i d) b ↔ Lv α M b := by
  have hi := (List.getElem?_eq_some_iff.mp hc).1
  constructor
  · rintro ⟨j, e, h1, h2, h3⟩
    by_cases z : j = i
    · subst z
      rw [List.getElem?_set_self hi] at h2
      cases h2
      exact ⟨j, c, h1, hc, l.trans h3⟩
    · rw [List.getElem?_set_ne (Ne.symm z)] at h2
      exact ⟨j, e, h1, h2, h3⟩
  · rintro ⟨j, e, h1, h2, h3⟩
    by_cases z : j = i
    · subst z
      rw [hc] at h2
      cases h2
      exact ⟨j, d, h1, List.getElem?_set_self hi, l ▸ h3⟩
    · exact ⟨j, e, h1, by rw [List.getElem?_set_ne (Ne.symm z)]; exact h2, h3⟩
/-- a cell is changed -/
theorem Rp.write (R : Rp K α M H) {i : Nat} {a : Addr} {c d : Cell} {o : HO} (hi : α[i]? = some a) (hc : M[i]? = some c) (lc : c.live = true) (ld : d.live = true)
    (hd : CellR K α (fzH α M H) (upd H a o) a d) : Rp K α (M.set i d) (upd H a o) ∧ Ext α (fzH α M H) α (fzH α (M.set i d) (upd H a o)) := by
  have lvI := fun b => lv_set (α := α) (d := d) hc (lc.trans ld.symm) b
  have eG : fzH α (M.set i d) (upd H a o) = fzH α M H := by
    funext b
    by_cases z : Lv α M b
    · unfold fzH
      rw [if_pos z, if_pos ((lvI b).mpr z)]
    · rw [fzH_of z, fzH_of fun y => z ((lvI b).mp y)]
      exact upd_ne fun y => z ⟨i, c, y ▸ hi, hc, lc⟩
  refine ⟨⟨by rw [List.length_set]; exact R.len, R.nd, fun j b e hj he => ?_⟩, by rw [eG]; exact Ext.refl⟩
  rw [eG]
  by_cases z : j = i
  · subst z
    rw [List.getElem?_set_self (List.getElem?_eq_some_iff.mp hc).1] at he
    cases he
    rw [hi] at hj
    cases hj
    exact hd
  · rw [List.getElem?_set_ne (Ne.symm z)] at he
    exact (R.ok j b e hj he).ext Ext.refl (upd_ne fun y => z (nodup_at R hj (y ▸ hi)))
/-- a list is never changed again -/
theorem Rp.freeze (R : Rp K α M H) {i : Nat} {ds : List PyData} (hc : M[i]? = some (.lst true (ds.map .dat))) :
    Rp K α (M.set i (.fz ds)) H ∧ Ext α (fzH α M H) α (fzH α (M.set i (.fz ds)) H) ∧ ∀ a, α[i]? = some a → D true (fzH α (M.set i (.fz ds)) H) (.ref a) (.list ds) := by
  have hi := (List.getElem?_eq_some_iff.mp hc).1
  obtain ⟨a, ha⟩ := R.addr hc
  have x : Ext α (fzH α M H) α (fzH α (M.set i (.fz ds)) H) := ⟨fun _ _ z => z, fun b u e => by
    obtain ⟨n, e⟩ := fzH_some e
    rw [fzH_of]
    · exact e
    · rintro ⟨j, d, h1, h2, h3⟩
      by_cases z : j = i
      · subst z
        rw [List.getElem?_set_self hi] at h2
        cases h2
        cases h3
      · rw [List.getElem?_set_ne (Ne.symm z)] at h2
        exact n ⟨j, d, h1, h2, h3⟩⟩
  have na : ¬ Lv α (M.set i (.fz ds)) a := by
    rintro ⟨j, d, h1, h2, h3⟩
    have z := nodup_at R h1 ha
    subst z
    rw [List.getElem?_set_self hi] at h2
    cases h2
    cases h3
  obtain ⟨hs, xs, hx, hv⟩ := R.ok i a _ ha hc
  have da := (VRs.toDA hv).same x.same
  refine ⟨⟨by rw [List.length_set]; exact R.len, R.nd, fun j b e hj he => ?_⟩, x, fun b hb => ?_⟩
  · by_cases z : j = i
    · subst z
      rw [List.getElem?_set_self hi] at he
      cases he
      rw [ha] at hj
      cases hj
      exact ⟨hs rfl, xs, hx, da⟩
    · rw [List.getElem?_set_ne (Ne.symm z)] at he
      exact (R.ok j b e hj he).ext x rfl
  · rw [ha] at hb
    cases hb
    exact .lst (by rw [fzH_of na]; exact hx) (fun _ => hs rfl) da
end
end Pu

namespace Pu
open PySem PySem.Spec PyProof.Rows L2 Lw
open Classical

/-! ### judgements -/
abbrev ME := Env → Mem → Option (U × Mem)
abbrev MT := Env → Mem → Option (Bool × Mem)
abbrev MA := Env → Mem → Option (List U × Mem)
def ER (K : PySem.W.Frag) (α : List Addr) (G : Hp) (σ : L2.St) (ρ : Env) : Prop := σ.length = ρ.length ∧ ∀ (i : Nat) (u : U), ρ[i]? = some (some u) → ∃ v, σ[i]? = some (some v) ∧ VR K α G v u
theorem ER.ext {K : PySem.W.Frag} {α α' : List Addr} {G G' : Hp} {σ : L2.St} {ρ : Env} (h : ER K α G σ ρ) (x : Ext α G α' G') : ER K α' G' σ ρ :=
  ⟨h.1, fun i u e => let ⟨v, q, r⟩ := h.2 i u e; ⟨v, q, r.ext x⟩⟩
theorem ER.set {K : PySem.W.Frag} {α : List Addr} {G : Hp} {σ : L2.St} {ρ : Env} {i : Nat} {v : V} {u : U} (h : ER K α G σ ρ) (r : VR K α G v u) : ER K α G (σ.set i (some v)) (ρ.set i (some u)) := by
  refine ⟨by rw [List.length_set, List.length_set]; exact h.1, fun j w e => ?_⟩
  by_cases z : j = i
  · subst z
    have hj : j < ρ.length := by
      have := (List.getElem?_eq_some_iff.mp e).1
      rw [List.length_set] at this
      exact this
    rw [List.getElem?_set_self hj] at e
    cases e
    exact ⟨v, by rw [List.getElem?_set_self (by rw [h.1]; exact hj)], r⟩
  · rw [List.getElem?_set_ne (Ne.symm z)] at e
    obtain ⟨w', e1, r1⟩ := h.2 j w e
    exact ⟨w', by rw [List.getElem?_set_ne (Ne.symm z)]; exact e1, r1⟩
def Post (K : PySem.W.Frag) (α : List Addr) (G : Hp) (u : U) (M' : Mem) (Q : VK) : Prop :=
  ∀ (v : V) (α' : List Addr) (H' : Hp), Rp K α' M' H' → Ext α G α' (fzH α' M' H') → VR K α' (fzH α' M' H') v u → Q v H'
def PostB (K : PySem.W.Frag) (α : List Addr) (G : Hp) (b : Bool) (M' : Mem) (Q : Bool → Hp → Prop) : Prop :=
  ∀ (α' : List Addr) (H' : Hp), Rp K α' M' H' → Ext α G α' (fzH α' M' H') → Q b H'
def PostA (K : PySem.W.Frag) (α : List Addr) (G : Hp) (us : List U) (M' : Mem) (Q : List V → Hp → Prop) : Prop :=
  ∀ (vs : List V) (α' : List Addr) (H' : Hp), Rp K α' M' H' → Ext α G α' (fzH α' M' H') → VRs K α' (fzH α' M' H') vs us → Q vs H'
def SimE (K : PySem.W.Frag) (t : TE) (m : ME) : Prop :=
  ∀ (σ : L2.St) (H : Hp) (α : List Addr) (ρ : Env) (M : Mem) (u : U) (M' : Mem) (Q : VK), Rp K α M H → ER K α (fzH α M H) σ ρ → m ρ M = some (u, M') → Post K α (fzH α M H) u M' Q → t σ H Q
def SimT (K : PySem.W.Frag) (t : TT) (m : MT) : Prop :=
  ∀ (σ : L2.St) (H : Hp) (α : List Addr) (ρ : Env) (M : Mem) (u : Bool) (M' : Mem) (Q : Bool → Hp → Prop), Rp K α M H → ER K α (fzH α M H) σ ρ → m ρ M = some (u, M') → PostB K α (fzH α M H) u M' Q → t σ H Q
def SimA (K : PySem.W.Frag) (t : TA) (m : MA) : Prop :=
  ∀ (σ : L2.St) (H : Hp) (α : List Addr) (ρ : Env) (M : Mem) (us : List U) (M' : Mem) (Q : List V → Hp → Prop), Rp K α M H → ER K α (fzH α M H) σ ρ → m ρ M = some (us, M') → PostA K α (fzH α M H) us M' Q → t σ H Q
structure QE (X : Cx) (e : Expr) (m : ME) : Prop where
  ex : ∃ t, PE X e t ∧ SimE X.K t m
structure QT (X : Cx) (e : Expr) (m : MT) : Prop where
  ex : ∃ t, PT X e t ∧ SimT X.K t m
structure QW (X : Cx) (e : Expr) (m : MT) : Prop where
  ex : ∃ t, PW X e t ∧ SimT X.K t m
structure QA (X : Cx) (es : List Expr) (m : MA) : Prop where
  ex : ∃ t, PA X es t ∧ SimA X.K t m
section
variable {K : PySem.W.Frag} {α : List Addr} {M M' : Mem} {H : Hp} {u : U} {Q : VK}
theorem Post.here (P : Post K α (fzH α M H) u M Q) (R : Rp K α M H) {v : V} (r : VR K α (fzH α M H) v u) : Q v H := P v α H R Ext.refl r
theorem Post.after {G : Hp} {α1 : List Addr} {G1 : Hp} (P : Post K α G u M' Q) (x : Ext α G α1 G1) : Post K α1 G1 u M' Q := fun v α' H' R y r => P v α' H' R (x.trans y) r
theorem PostB.after {G : Hp} {α1 : List Addr} {G1 : Hp} {b : Bool} {Q : Bool → Hp → Prop} (P : PostB K α G b M' Q) (x : Ext α G α1 G1) : PostB K α1 G1 b M' Q := fun α' H' R y => P α' H' R (x.trans y)
theorem PostA.after {G : Hp} {α1 : List Addr} {G1 : Hp} {us : List U} {Q : List V → Hp → Prop} (P : PostA K α G us M' Q) (x : Ext α G α1 G1) : PostA K α1 G1 us M' Q := fun v α' H' R y r => P v α' H' R (x.trans y) r
end
def mkTup (us : List U) : U := match allDat us with
  | some ds => .dat (.tuple ds)
  | none => .tupc us
theorem VR.mkTup {K : PySem.W.Frag} {α : List Addr} {G : Hp} {a : Addr} {xs : List V} {us : List U} (h : G a = some (.tup xs)) (r : VRs K α G xs us) : VR K α G (.ref a) (mkTup us) := by
  unfold Pu.mkTup
  split
  · rename_i ds e
    have := allDat_some e
    subst this
    exact .dat (.tup h (VRs.toDA r))
  · exact .tupc h r
theorem mkTup_dat (ds : List PyData) : mkTup (ds.map .dat) = .dat (.tuple ds) := by
  unfold mkTup
  rw [allDat_map]
def tupOf : U → Option (List U)
  | .dat (.tuple ds) => some (ds.map .dat)
  | .tupc us => some us
  | _ => none
theorem tupOf_ok {K : PySem.W.Frag} {α : List Addr} {G : Hp} {v : V} {u : U} {us : List U} (r : VR K α G v u) (h : tupOf u = some us) : ∃ a xs, v = .ref a ∧ G a = some (.tup xs) ∧ VRs K α G xs us := by
  cases r with
  | dat d =>
    cases d with
    | tup e t =>
      cases h
      exact ⟨_, _, rfl, e, VRs.ofDA t⟩
    | _ => cases h
  | tupc e t =>
    cases h
    exact ⟨_, _, rfl, e, t⟩
  | _ => cases h
def lstOf (M : Mem) : U → Option (List U)
  | .dat (.list ds) => some (ds.map .dat)
  | .cell i => match M[i]? with
    | some (.lst _ us) => some us
    | some (.fz ds) => some (ds.map .dat)
    | _ => none
  | _ => none
theorem lstOf_ok {K : PySem.W.Frag} {α : List Addr} {M : Mem} {H : Hp} {v : V} {u : U} {us : List U} (R : Rp K α M H) (r : VR K α (fzH α M H) v u) (h : lstOf M u = some us) :
    ∃ a xs, v = .ref a ∧ H a = some (.lst xs) ∧ VRs K α (fzH α M H) xs us := by
  cases r with
  | dat d =>
    cases d with
    | lst e n t =>
      cases h
      exact ⟨_, _, rfl, fzH_le _ _ e, VRs.ofDA t⟩
    | _ => cases h
  | cell e =>
    rename_i a i
    obtain ⟨c, hc⟩ := R.cellAt e
    have ok := R.ok i a c e hc
    have h' : (match M[i]? with
      | some (.lst _ us) => some us
      | some (.fz ds) => some (ds.map .dat)
      | _ => none) = some us := h
    rw [hc] at h'
    cases c with
    | lst f ws =>
      cases h'
      obtain ⟨_, xs, q, r⟩ := ok
      exact ⟨a, xs, rfl, q, r⟩
    | fz ds =>
      cases h'
      obtain ⟨_, xs, q, r⟩ := ok
      exact ⟨a, xs, rfl, q, VRs.ofDA r⟩
    | dk _ => cases h'
    | ins _ _ => cases h'
  | _ => cases h
/-- what a flat value is -/
def vDat : V → Option PyData
  | .non => some .none
  | .bl b => some (.bool b)
  | .int i => some (.int i)
  | .str x => some (.str x)
  | _ => none
def allV : List V → Option (List U)
  | [] => some []
  | v :: vs => match vDat v, allV vs with
    | some d, some us => some (.dat d :: us)
    | _, _ => none
theorem vDat_ok {K : PySem.W.Frag} {α : List Addr} {G : Hp} {v : V} {d : PyData} (h : vDat v = some d) : VR K α G v (.dat d) := by
  cases v with
  | non => cases h; exact .dat .non
  | bl b => cases h; exact .dat (.bl b)
  | int i => cases h; exact .dat (.int i)
  | str x => cases h; exact .dat (.str x)
  | _ => cases h
theorem allV_ok {K : PySem.W.Frag} {α : List Addr} {G : Hp} : ∀ {vs : List V} {us : List U}, allV vs = some us → VRs K α G vs us
  | [], _, h => by cases h; exact .nil
  | v :: vs, us, h => by
    unfold allV at h
    split at h
    · rename_i d ws e1 e2
      cases h
      exact .cons (vDat_ok e1) (allV_ok e2)
    · cases h
/-- a row that is read: a list or a tuple, the script, a tuple of the module -/
def seqOf (M : Mem) (u : U) : Option (List U) := match u with
  | .scr ns => some (ns.map fun i => .dat (.int i))
  | .kt xs => allV xs
  | u => match tupOf u with
    | some us => some us
    | none => lstOf M u
theorem vrs_ints {K : PySem.W.Frag} {α : List Addr} {G : Hp} : ∀ ns : List Int, VRs K α G (ns.map V.int) (ns.map fun i => .dat (.int i))
  | [] => .nil
  | i :: ns => .cons (.dat (.int i)) (vrs_ints ns)
theorem seqOf_ok {K : PySem.W.Frag} {α : List Addr} {M : Mem} {H : Hp} {v : V} {u : U} {us : List U} (R : Rp K α M H) (r : VR K α (fzH α M H) v u) (h : seqOf M u = some us) :
    ∃ a xs, v = .ref a ∧ (SqL K H a xs ∨ SqT K H a xs) ∧ VRs K α (fzH α M H) xs us := by
  have gen : ∀ w : U, VR K α (fzH α M H) v w → (match tupOf w with
    | some us => some us
    | none => lstOf M w) = some us → ∃ a xs, v = .ref a ∧ (SqL K H a xs ∨ SqT K H a xs) ∧ VRs K α (fzH α M H) xs us := by
    intro w rw' h'
    split at h'
    · rename_i ws e
      cases h'
      obtain ⟨a, xs, e1, e2, e3⟩ := tupOf_ok rw' e
      exact ⟨a, xs, e1, .inr (SqT.of (fzH_le _ _ e2)), e3⟩
    · obtain ⟨a, xs, e1, e2, e3⟩ := lstOf_ok R rw' h'
      exact ⟨a, xs, e1, .inl (SqL.of e2), e3⟩
  cases u with
  | scr ns =>
    cases h
    cases r with
    | scr e => exact ⟨_, _, rfl, .inl (SqL.ext fzH_le e), vrs_ints ns⟩
  | kt xs =>
    cases r with
    | kt e => exact ⟨_, _, rfl, .inr (SqT.ext fzH_le e), allV_ok h⟩
  | dat d => exact gen _ r h
  | cell i => exact gen _ r h
  | tupc us => exact gen _ r h
  | adr a => exact gen _ r h
  | ty n => exact gen _ r h
/-- what a value is as data -/
def datOf (M : Mem) : U → Option PyData
  | .dat d => some d
  | .cell i => match M[i]? with
    | some (.lst _ us) => (allDat us).map .list
    | some (.fz ds) => some (.list ds)
    | _ => none
  | _ => none
theorem datOf_ok {K : PySem.W.Frag} {α : List Addr} {M : Mem} {H : Hp} {v : V} {u : U} {d : PyData} (R : Rp K α M H) (r : VR K α (fzH α M H) v u) (h : datOf M u = some d) : D false H v d := by
  cases r with
  | dat q =>
    cases h
    exact (q.same fzH_le).weak
  | cell e =>
    rename_i a i
    obtain ⟨c, hc⟩ := R.cellAt e
    have ok := R.ok i a c e hc
    have h' : (match M[i]? with
      | some (.lst _ us) => (allDat us).map PyData.list
      | some (.fz ds) => some (.list ds)
      | _ => none) = some d := h
    rw [hc] at h'
    cases c with
    | lst f ws =>
      obtain ⟨ds, e1, e2⟩ := Option.map_eq_some_iff.mp h'
      subst e2
      have := allDat_some e1
      subst this
      obtain ⟨_, xs, q, r⟩ := ok
      exact .lst q (fun z => nomatch z) ((VRs.toDA r).same fzH_le).weak
    | fz ds =>
      cases h'
      obtain ⟨_, xs, q, r⟩ := ok
      exact .lst q (fun z => nomatch z) (r.same fzH_le).weak
    | dk _ => cases h'
    | ins _ _ => cases h'
  | _ => cases h

/-! ### names and constants -/
section
variable {X : Cx} {a b : Expr} {ma mb : ME} {pos : Pos}
def eVar (i : Nat) : ME := fun ρ M => match ρ[i]? with
  | some (some u) => some (u, M)
  | _ => none
theorem sim_var {K : PySem.W.Frag} (i : Nat) : SimE K (tVar i) (eVar i) := by
  intro σ H α ρ M u M' Q R er h P
  unfold eVar at h
  split at h
  · rename_i w e
    cases h
    obtain ⟨v, e1, r⟩ := er.2 i _ e
    exact ⟨v, e1, P.here R r⟩
  · cases h
theorem qe_var {i : Nat} {x : Str} (hN : X.N[i]? = some x := by rfl) (hv : Vis X.env.scope x := by first | exact .inl rfl | exact .inr (.inl rfl) | exact .inr (.inr rfl)) (hd : (x == ("__debug__" : Str)) = false := by decide) (hcd : (x == ("__classdict__" : Str)) = false := by decide) :
    QE X (.Name x pos) (eVar i) := ⟨_, pe_var hN hv hd hcd, sim_var i⟩
def eC (d : PyData) : ME := fun _ M => some (.dat d, M)
theorem sim_c {K : PySem.W.Frag} {v : V} {d : PyData} (h : vDat v = some d) : SimE K (tC v) (eC d) := by
  intro σ H α ρ M u M' Q R er e P
  cases e
  exact P.here R (vDat_ok h)
theorem qe_int {i j pos} : QE X (.Constant (.int i) j pos) (eC (.int i)) := ⟨_, pe_int, sim_c rfl⟩
theorem qe_bl {i j pos} : QE X (.Constant (.bool i) j pos) (eC (.bool i)) := ⟨_, pe_bl, sim_c rfl⟩
theorem qe_non {j pos} : QE X (.Constant .none j pos) (eC .none) := ⟨_, pe_non, sim_c rfl⟩
theorem qe_str {x j pos} : QE X (.Constant (.str x) j pos) (eC (.str x)) := ⟨_, pe_str, sim_c rfl⟩
/-- a module's name -/
def eK (u : U) : ME := fun _ M => some (u, M)
theorem qe_glob {x : Str} {v : V} {u : Value} {d : PyData} {pos : Pos} (hg : Gl X x) (hm : X.mg x = some u) (r : RelV v u) (hv : vDat v = some d) (hd : (x == ("__debug__" : Str)) = false := by decide) : QE X (.Name x pos) (eC d) :=
  ⟨_, pe_glob hg hm r hd, sim_c hv⟩
theorem qe_globI {x : Str} {i : Int} {pos : Pos} (hg : Gl X x) (hm : ∃ u, X.mg x = some u ∧ L2.RelV (.int i) u) (hd : (x == ("__debug__" : Str)) = false := by decide) : QE X (.Name x pos) (eC (.int i)) := by
  obtain ⟨u, h1, h2⟩ := hm
  exact qe_glob hg h1 h2 rfl hd
theorem qe_globS {x : Str} {i : Str} {pos : Pos} (hg : Gl X x) (hm : ∃ u, X.mg x = some u ∧ L2.RelV (.str i) u) (hd : (x == ("__debug__" : Str)) = false := by decide) : QE X (.Name x pos) (eC (.str i)) := by
  obtain ⟨u, h1, h2⟩ := hm
  exact qe_glob hg h1 h2 rfl hd
/-- a tuple of the module -/
theorem qe_globT {x : Str} {a : Addr} {xs : List V} {pos : Pos} (hg : Gl X x) (hm : ∃ u, X.mg x = some u ∧ L2.RelV (.ref a) u) (hk : ∃ (o : Obj) (its : Array Value) (n : Nat), X.K.lookup a = some o ∧ o.cls = .type "tuple" ∧ o.data = .seq its n ∧ its.size ≤ sizeLine ∧ Vals xs its.toList) (hd : (x == ("__debug__" : Str)) = false := by decide) :
    QE X (.Name x pos) (eK (.kt xs)) := by
  obtain ⟨u, h1, h2⟩ := hm
  refine ⟨_, pe_glob hg h1 h2 hd, ?_⟩
  intro σ H α ρ M u M' Q R er e P
  cases e
  exact P.here R (.kt (.inr hk))
/-- a def or a class of the module, as a value -/
theorem qe_globA {x : Str} {a : Addr} {pos : Pos} (hg : Gl X x) (hm : X.mg x = some (.ref a)) (hd : (x == ("__debug__" : Str)) = false := by decide) : QE X (.Name x pos) (eK (.adr a)) := by
  refine ⟨_, pe_glob hg hm (v := .ref a) rfl hd, ?_⟩
  intro σ H α ρ M u M' Q R er e P
  cases e
  exact P.here R (.adr a)
theorem qe_ty {x : Str} {n : String} {pos : Pos} (hg : Gl X x) (hm : X.mg x = none) (hv : bootBuiltins x = some (.type n)) (hn : x ≠ "__name__" := by decide) (hd : (x == ("__debug__" : Str)) = false := by decide) : QE X (.Name x pos) (eK (.ty n)) := by
  refine ⟨_, pe_bltn (v := .ty n) hg hm hv rfl hn hd, ?_⟩
  intro σ H α ρ M u M' Q R er e P
  cases e
  exact P.here R (.ty n)

/-! ### operators -/
abbrev F2 := U → U → Mem → Option (U × Mem)
def SimOp (K : PySem.W.Frag) (r : R2) (f : F2) : Prop :=
  ∀ (H : Hp) (α : List Addr) (M : Mem) (x y : V) (a b u : U) (M' : Mem) (Q : VK), Rp K α M H → VR K α (fzH α M H) x a → VR K α (fzH α M H) y b → f a b M = some (u, M') → Post K α (fzH α M H) u M' Q → r x y H Q
def orF (f g : F2) : F2 := fun a b M => match f a b M with
  | some r => some r
  | none => g a b M
theorem OpR.or {f : Value → Value → Sem Value} {r r' : R2} (h : OpR X f r) (h' : OpR X f r') : OpR X f (fun x y H Q => r x y H Q ∨ r' x y H Q) := by
  intro pins s σ H x y v u Q I rx ry q
  rcases q with q | q
  · exact h pins s σ H x y v u Q I rx ry q
  · exact h' pins s σ H x y v u Q I rx ry q
theorem SimOp.or {K : PySem.W.Frag} {r r' : R2} {f g : F2} (h : SimOp K r f) (h' : SimOp K r' g) : SimOp K (fun x y H Q => r x y H Q ∨ r' x y H Q) (orF f g) := by
  intro H α M x y a b u M' Q R rx ry e P
  unfold orF at e
  split at e
  · rename_i q
    cases e
    exact .inl (h H α M x y a b u M' Q R rx ry q P)
  · exact .inr (h' H α M x y a b u M' Q R rx ry e P)
/-- a rule and what it does -/
structure QOp (X : Cx) (f : Value → Value → Sem Value) (g : F2) : Prop where
  ex : ∃ r, OpR X f r ∧ SimOp X.K r g
theorem QOp.or {f : Value → Value → Sem Value} {g g' : F2} (h : QOp X f g) (h' : QOp X f g') : QOp X f (orF g g') := by
  obtain ⟨r, h1, h2⟩ := h.ex
  obtain ⟨r', h3, h4⟩ := h'.ex
  exact ⟨_, OpR.or h1 h3, h2.or h4⟩
def eOp (f : F2) (ma mb : ME) : ME := fun ρ M => match ma ρ M with
  | some (x, M1) => match mb ρ M1 with
    | some (y, M2) => f x y M2
    | none => none
  | none => none
theorem sim_op2 {K : PySem.W.Frag} {r : R2} {f : F2} {ta tb : TE} (hs : SimOp K r f) (ha : SimE K ta ma) (hb : SimE K tb mb) : SimE K (tOp r ta tb) (eOp f ma mb) := by
  intro σ H α ρ M u M' Q R er h P
  unfold eOp at h
  split at h
  · rename_i x M1 e1
    split at h
    · rename_i y M2 e2
      refine ha σ H α ρ M x M1 _ R er e1 fun v1 α1 H1 R1 x1 r1 => ?_
      refine hb σ H1 α1 ρ M1 y M2 _ R1 (er.ext x1) e2 fun v2 α2 H2 R2 x2 r2 => ?_
      exact hs H2 α2 M2 v1 v2 x y u M' Q R2 (r1.ext x2) r2 h (P.after (x1.trans x2))
    · cases h
  · cases h
theorem qe_op {op : Operator} {f : F2} (ho : QOp X (binaryOp op) f) (ha : QE X a ma) (hb : QE X b mb) : QE X (.BinOp a op b pos) (eOp f ma mb) := by
  obtain ⟨r, h1, h2⟩ := ho.ex
  obtain ⟨ta, a1, a2⟩ := ha.ex
  obtain ⟨tb, b1, b2⟩ := hb.ex
  exact ⟨_, pe_op h1 a1 b1, sim_op2 h2 a2 b2⟩
/-- comparisons -/
theorem qe_cmp {op : CmpOp} {f : F2} (ho : QOp X (compareOp op) f) (ha : QE X a ma) (hb : QE X b mb) (hm : behindInMarks op b = false := by first | exact nobehind _ (by decide) (by decide) | rfl) : QE X (.Compare a [op] [b] pos) (eOp f ma mb) := by
  obtain ⟨r, h1, h2⟩ := ho.ex
  obtain ⟨ta, a1, a2⟩ := ha.ex
  obtain ⟨tb, b1, b2⟩ := hb.ex
  exact ⟨_, pe_cmpR h1 a1 b1 hm, sim_op2 h2 a2 b2⟩
end
/-- a truth -/
def asB : Option (U × Mem) → Option (Bool × Mem)
  | some (.dat (.bool b), M) => some (b, M)
  | _ => none
def tOf (m : ME) : MT := fun ρ M => asB (m ρ M)
theorem asB_some {r : Option (U × Mem)} {b : Bool} {M : Mem} (h : asB r = some (b, M)) : r = some (.dat (.bool b), M) := by
  unfold asB at h
  split at h
  · cases h; rfl
  · cases h
theorem vr_bool {K : PySem.W.Frag} {α : List Addr} {G : Hp} {v : V} {b : Bool} (r : VR K α G v (.dat (.bool b))) : v = .bl b := by
  cases r with
  | dat d => cases d; rfl
theorem vr_int {K : PySem.W.Frag} {α : List Addr} {G : Hp} {v : V} {b : Int} (r : VR K α G v (.dat (.int b))) : v = .int b := by
  cases r with
  | dat d => cases d; rfl
theorem vr_str {K : PySem.W.Frag} {α : List Addr} {G : Hp} {v : V} {b : Str} (r : VR K α G v (.dat (.str b))) : v = .str b := by
  cases r with
  | dat d => cases d; rfl
theorem vr_non {K : PySem.W.Frag} {α : List Addr} {G : Hp} {v : V} (r : VR K α G v (.dat .none)) : v = .non := by
  cases r with
  | dat d => cases d; rfl
theorem sim_tB {K : PySem.W.Frag} {t : TE} {m : ME} (h : SimE K t m) : SimT K (tB t) (tOf m) := by
  intro σ H α ρ M u M' Q R er e P
  refine h σ H α ρ M _ M' _ R er (asB_some e) fun v α' H' R' x r => ?_
  exact ⟨u, vr_bool r, P α' H' R' x⟩
section
variable {X : Cx} {a b : Expr} {ma mb : ME} {pos : Pos} {mt mu : MT}
theorem qt_cmp {op : CmpOp} {f : F2} (ho : QOp X (compareOp op) f) (ha : QE X a ma) (hb : QE X b mb) (hm : behindInMarks op b = false := by first | exact nobehind _ (by decide) (by decide) | rfl) : QT X (.Compare a [op] [b] pos) (tOf (eOp f ma mb)) := by
  obtain ⟨r, h1, h2⟩ := ho.ex
  obtain ⟨ta, a1, a2⟩ := ha.ex
  obtain ⟨tb, b1, b2⟩ := hb.ex
  exact ⟨_, pt_cmpR h1 a1 b1 hm, sim_tB (sim_op2 h2 a2 b2)⟩
/-- a value's truth -/
def truthU (M : Mem) : U → Option Bool
  | .dat .none => some false
  | .dat (.bool b) => some b
  | .dat (.int i) => some (decide (i ≠ 0))
  | .dat (.str z) => some (decide (z.length ≠ 0))
  | u => (seqOf M u).map fun us => !us.isEmpty
def eTruth : Option (U × Mem) → Option (Bool × Mem)
  | some (u, M) => (truthU M u).map fun b => (b, M)
  | none => none
def tTr (m : ME) : MT := fun ρ M => eTruth (m ρ M)
end
end Pu

namespace Pu
open PySem PySem.Spec PyProof.Rows L2 Lw
open Classical

/-! ### truth, and, or, not -/
theorem empty_vrs {K : PySem.W.Frag} {α : List Addr} {G : Hp} {xs : List V} {us : List U} (r : VRs K α G xs us) : us.isEmpty = xs.isEmpty := by
  cases r <;> rfl
theorem truthU_ok {K : PySem.W.Frag} {α : List Addr} {M : Mem} {H : Hp} {v : V} {u : U} {b : Bool} (R : Rp K α M H) (r : VR K α (fzH α M H) v u) (hz : ∀ z, v = .str z → z.length ≤ sizeLine) (h : truthU M u = some b) : TruV K v H b := by
  have gen : (seqOf M u).map (fun us => !us.isEmpty) = some b → TruV K v H b := by
    intro e
    obtain ⟨us, e1, e2⟩ := Option.map_eq_some_iff.mp e
    obtain ⟨a, xs, rfl, q, rs⟩ := seqOf_ok R r e1
    rw [empty_vrs rs] at e2
    rcases q with q | q
    · exact .inl ⟨xs, q, e2.symm⟩
    · exact .inr (.inl ⟨xs, q, e2.symm⟩)
  cases u with
  | dat d =>
    cases d with
    | none => cases vr_non r; cases h; rfl
    | bool b => cases vr_bool r; cases h; rfl
    | int i =>
      cases vr_int r
      cases h
      show decide (i ≠ 0) = (i != 0)
      by_cases z : i = 0 <;> simp [z]
    | str z =>
      cases vr_str r
      cases h
      refine ⟨hz z rfl, ?_⟩
      by_cases e : z.length = 0 <;> simp [e]
    | _ => exact gen h
  | _ => exact gen h
section
variable {X : Cx} {a b : Expr} {ma mb : ME} {pos : Pos} {mt mu : MT} {rest : List Expr}
/-- a test that is a truth -/
theorem qt_val (ha : QE X a ma) (he : ∀ whole, isTrue a X.env whole = (do let v ← whole; standAt a.pos; holding [v] (truthy v)) := by intro _; rfl) : QT X a (tOf ma) := by
  obtain ⟨t, h1, h2⟩ := ha.ex
  exact ⟨_, pt_val h1 he, sim_tB h2⟩
/-- a test by a value's truth (no text) -/
def truthN (M : Mem) : U → Option Bool
  | .dat (.str _) => none
  | u => truthU M u
def tTrN (m : ME) : MT := fun ρ M => match m ρ M with
  | some (u, M') => (truthN M' u).map fun b => (b, M')
  | none => none
theorem qt_truth (ha : QE X a ma) (he : ∀ whole, isTrue a X.env whole = (do let v ← whole; standAt a.pos; holding [v] (truthy v)) := by intro _; rfl) : QT X a (tTrN ma) := by
  obtain ⟨t, h1, h2⟩ := ha.ex
  refine ⟨_, pt_truth h1 he, ?_⟩
  intro σ H α ρ M u M' Q R er e P
  unfold tTrN at e
  split at e
  · rename_i w M1 e1
    obtain ⟨b, e2, e3⟩ := Option.map_eq_some_iff.mp e
    cases e3
    refine h2 σ H α ρ M w _ _ R er e1 fun v α' H' R' x r => ?_
    refine ⟨_, truthU_ok R' r (fun z ez => ?_) (u := w) (b := u) ?_, P α' H' R' x⟩
    · subst ez
      cases r with
      | dat d => cases d; cases e2
    · unfold truthN at e2
      split at e2
      · cases e2
      · exact e2
  · cases e
def tAndM (m n : MT) : MT := fun ρ M => match m ρ M with
  | some (true, M1) => n ρ M1
  | some (false, M1) => some (false, M1)
  | none => none
def tOrM (m n : MT) : MT := fun ρ M => match m ρ M with
  | some (true, M1) => some (true, M1)
  | some (false, M1) => n ρ M1
  | none => none
def tNotM (m : MT) : MT := fun ρ M => match m ρ M with
  | some (b, M1) => some (!b, M1)
  | none => none
theorem sim_and {K : PySem.W.Frag} {t u : TT} (ha : SimT K t mt) (hb : SimT K u mu) : SimT K (tAnd t u) (tAndM mt mu) := by
  intro σ H α ρ M b M' Q R er e P
  unfold tAndM at e
  split at e
  · rename_i M1 e1
    refine ha σ H α ρ M true M1 _ R er e1 fun α' H' R' x => ?_
    exact hb σ H' α' ρ M1 b M' Q R' (er.ext x) e (P.after x)
  · rename_i M1 e1
    cases e
    exact ha σ H α ρ M false _ _ R er e1 fun α' H' R' x => P α' H' R' x
  · cases e
theorem sim_or {K : PySem.W.Frag} {t u : TT} (ha : SimT K t mt) (hb : SimT K u mu) : SimT K (tOr t u) (tOrM mt mu) := by
  intro σ H α ρ M b M' Q R er e P
  unfold tOrM at e
  split at e
  · rename_i M1 e1
    cases e
    exact ha σ H α ρ M true _ _ R er e1 fun α' H' R' x => P α' H' R' x
  · rename_i M1 e1
    refine ha σ H α ρ M false M1 _ R er e1 fun α' H' R' x => ?_
    exact hb σ H' α' ρ M1 b M' Q R' (er.ext x) e (P.after x)
  · cases e
theorem qw_and1 (ha : QT X a mt) : QW X (.BoolOp .And [a] pos) mt := let ⟨t, h1, h2⟩ := ha.ex; ⟨t, pw_and1 h1, h2⟩
theorem qw_or1 (ha : QT X a mt) : QW X (.BoolOp .Or [a] pos) mt := let ⟨t, h1, h2⟩ := ha.ex; ⟨t, pw_or1 h1, h2⟩
theorem qw_and (ha : QT X a mt) (hb : QW X (.BoolOp .And (b :: rest) pos) mu) : QW X (.BoolOp .And (a :: b :: rest) pos) (tAndM mt mu) := by
  obtain ⟨t, h1, h2⟩ := ha.ex
  obtain ⟨u, h3, h4⟩ := hb.ex
  exact ⟨_, pw_and h1 h3, sim_and h2 h4⟩
theorem qw_or (ha : QT X a mt) (hb : QW X (.BoolOp .Or (b :: rest) pos) mu) : QW X (.BoolOp .Or (a :: b :: rest) pos) (tOrM mt mu) := by
  obtain ⟨t, h1, h2⟩ := ha.ex
  obtain ⟨u, h3, h4⟩ := hb.ex
  exact ⟨_, pw_or h1 h3, sim_or h2 h4⟩
theorem QW.pt {e : Expr} (h : QW X e mt) : QT X e mt := let ⟨t, h1, h2⟩ := h.ex; ⟨t, h1.pt, h2⟩
theorem qt_not (ha : QT X a mt) : QT X (.UnaryOp .Not a pos) (tNotM mt) := by
  obtain ⟨t, h1, h2⟩ := ha.ex
  refine ⟨_, pt_not h1, ?_⟩
  intro σ H α ρ M b M' Q R er e P
  unfold tNotM at e
  split at e
  · rename_i c M1 e1
    cases e
    exact h2 σ H α ρ M c _ _ R er e1 fun α' H' R' x => P α' H' R' x
  · cases e
/-- .. as values -/
def eAnd (m n : ME) : ME := fun ρ M => match m ρ M with
  | some (.dat (.bool true), M1) => n ρ M1
  | some (.dat (.bool false), M1) => some (.dat (.bool false), M1)
  | _ => none
def eOr (m n : ME) : ME := fun ρ M => match m ρ M with
  | some (.dat (.bool true), M1) => some (.dat (.bool true), M1)
  | some (.dat (.bool false), M1) => n ρ M1
  | _ => none
def eNot (m : ME) : ME := fun ρ M => match m ρ M with
  | some (.dat (.bool b), M1) => some (.dat (.bool (!b)), M1)
  | _ => none
theorem qe_one {op} (ha : QE X a ma) : QE X (.BoolOp op [a] pos) ma := let ⟨t, h1, h2⟩ := ha.ex; ⟨t, pe_one h1, h2⟩
theorem qe_and (ha : QE X a ma) (hb : QE X (.BoolOp .And (b :: rest) pos) mb) : QE X (.BoolOp .And (a :: b :: rest) pos) (eAnd ma mb) := by
  obtain ⟨t, h1, h2⟩ := ha.ex
  obtain ⟨u, h3, h4⟩ := hb.ex
  refine ⟨_, pe_and h1 h3, ?_⟩
  intro σ H α ρ M w M' Q R er e P
  unfold eAnd at e
  split at e
  · rename_i M1 e1
    refine h2 σ H α ρ M _ M1 _ R er e1 fun v α' H' R' x r => ⟨true, vr_bool r, ?_⟩
    rw [if_pos rfl]
    exact h4 σ H' α' ρ M1 w M' Q R' (er.ext x) e (P.after x)
  · rename_i M1 e1
    cases e
    refine h2 σ H α ρ M _ _ _ R er e1 fun v α' H' R' x r => ⟨false, vr_bool r, ?_⟩
    rw [if_neg (by decide)]
    exact P _ α' H' R' x (.dat (.bl false))
  · cases e
theorem qe_or (ha : QE X a ma) (hb : QE X (.BoolOp .Or (b :: rest) pos) mb) : QE X (.BoolOp .Or (a :: b :: rest) pos) (eOr ma mb) := by
  obtain ⟨t, h1, h2⟩ := ha.ex
  obtain ⟨u, h3, h4⟩ := hb.ex
  refine ⟨_, pe_or h1 h3, ?_⟩
  intro σ H α ρ M w M' Q R er e P
  unfold eOr at e
  split at e
  · rename_i M1 e1
    cases e
    refine h2 σ H α ρ M _ _ _ R er e1 fun v α' H' R' x r => ⟨true, vr_bool r, ?_⟩
    rw [if_pos rfl]
    exact P _ α' H' R' x (.dat (.bl true))
  · rename_i M1 e1
    refine h2 σ H α ρ M _ M1 _ R er e1 fun v α' H' R' x r => ⟨false, vr_bool r, ?_⟩
    rw [if_neg (by decide)]
    exact h4 σ H' α' ρ M1 w M' Q R' (er.ext x) e (P.after x)
  · cases e
theorem qe_not (ha : QE X a ma) : QE X (.UnaryOp .Not a pos) (eNot ma) := by
  obtain ⟨t, h1, h2⟩ := ha.ex
  refine ⟨_, pe_not h1, ?_⟩
  intro σ H α ρ M w M' Q R er e P
  unfold eNot at e
  split at e
  · rename_i c M1 e1
    cases e
    exact h2 σ H α ρ M _ _ _ R er e1 fun v α' H' R' x r => ⟨c, vr_bool r, P _ α' H' R' x (.dat (.bl _))⟩
  · cases e
def eIf (c : MT) (m n : ME) : ME := fun ρ M => match c ρ M with
  | some (true, M1) => m ρ M1
  | some (false, M1) => n ρ M1
  | none => none
theorem qe_ifExp {c : Expr} (hc : QT X c mt) (ha : QE X a ma) (hb : QE X b mb) : QE X (.IfExp c a b pos) (eIf mt ma mb) := by
  obtain ⟨t, h1, h2⟩ := hc.ex
  obtain ⟨u, h3, h4⟩ := ha.ex
  obtain ⟨v, h5, h6⟩ := hb.ex
  refine ⟨_, pe_ifExp h1 h3 h5, ?_⟩
  intro σ H α ρ M w M' Q R er e P
  unfold eIf at e
  split at e
  · rename_i M1 e1
    refine h2 σ H α ρ M _ M1 _ R er e1 fun α' H' R' x => ?_
    rw [if_pos rfl]
    exact h4 σ H' α' ρ M1 w M' Q R' (er.ext x) e (P.after x)
  · rename_i M1 e1
    refine h2 σ H α ρ M _ M1 _ R er e1 fun α' H' R' x => ?_
    rw [if_neg (by decide)]
    exact h6 σ H' α' ρ M1 w M' Q R' (er.ext x) e (P.after x)
  · cases e
end

/-! ### argument lists, displays -/
section
variable {X : Cx} {e : Expr} {es : List Expr} {me : ME} {m : MA} {pos : Pos}
def aNil : MA := fun _ M => some ([], M)
def aCons (me : ME) (m : MA) : MA := fun ρ M => match me ρ M with
  | some (u, M1) => match m ρ M1 with
    | some (us, M2) => some (u :: us, M2)
    | none => none
  | none => none
theorem qa_nil : QA X [] aNil := ⟨_, pa_nil, fun σ H α ρ M us M' Q R er e P => by cases e; exact P [] α H R Ext.refl .nil⟩
theorem sim_cons {K : PySem.W.Frag} {te : TE} {t : TA} (ha : SimE K te me) (hr : SimA K t m) : SimA K (tCons te t) (aCons me m) := by
  intro σ H α ρ M us M' Q R er h P
  unfold aCons at h
  split at h
  · rename_i u M1 e1
    split at h
    · rename_i ws M2 e2
      cases h
      refine ha σ H α ρ M u M1 _ R er e1 fun v α1 H1 R1 x1 r1 => ?_
      refine hr σ H1 α1 ρ M1 ws _ _ R1 (er.ext x1) e2 fun vs α2 H2 R2 x2 r2 => ?_
      exact P _ α2 H2 R2 (x1.trans x2) (.cons (r1.ext x2) r2)
    · cases h
  · cases h
theorem qa_cons (ha : QE X e me) (hr : QA X es m) (hs : starEach (e :: es) X.env = (false, eval e X.env) :: starEach es X.env := by rfl) : QA X (e :: es) (aCons me m) := by
  obtain ⟨t, h1, h2⟩ := ha.ex
  obtain ⟨u, h3, h4⟩ := hr.ex
  exact ⟨_, pa_cons h1 h3 hs, sim_cons h2 h4⟩
/-- lists that go into other things change no more -/
def frzU (u : U) (M : Mem) : U × Mem := match u with
  | .cell i => match M[i]? with
    | some (.lst true us) => match allDat us with
      | some ds => (.dat (.list ds), M.set i (.fz ds))
      | none => (.cell i, M)
    | some (.fz ds) => (.dat (.list ds), M)
    | _ => (.cell i, M)
  | u => (u, M)
def frzAll : List U → Mem → List U × Mem
  | [], M => ([], M)
  | u :: us, M => let (u', M1) := frzU u M
    let (us', M2) := frzAll us M1
    (u' :: us', M2)
theorem D.fzAt {K : PySem.W.Frag} {α : List Addr} {M : Mem} {H : Hp} (R : Rp K α M H) {i : Nat} {a : Addr} {ds : List PyData} (hi : α[i]? = some a) (hc : M[i]? = some (.fz ds)) : D true (fzH α M H) (.ref a) (.list ds) := by
  obtain ⟨n, xs, hx, da⟩ := R.ok i a _ hi hc
  refine .lst ?_ (fun _ => n) da
  rw [fzH_of]
  · exact hx
  · rintro ⟨j, c, h1, h2, h3⟩
    have := nodup_at R h1 hi
    subst this
    rw [hc] at h2
    cases h2
    cases h3
theorem frzU_ok {K : PySem.W.Frag} {α : List Addr} {M : Mem} {H : Hp} {v : V} {u : U} (R : Rp K α M H) (r : VR K α (fzH α M H) v u) :
    Rp K α (frzU u M).2 H ∧ Ext α (fzH α M H) α (fzH α (frzU u M).2 H) ∧ VR K α (fzH α (frzU u M).2 H) v (frzU u M).1 := by
  have triv : Rp K α M H ∧ Ext α (fzH α M H) α (fzH α M H) ∧ VR K α (fzH α M H) v u := ⟨R, Ext.refl, r⟩
  cases u with
  | cell i =>
    cases r with
    | cell hi =>
      rename_i a
      unfold frzU
      simp only
      split
      · rename_i us hc
        split
        · rename_i ds e
          have := allDat_some e
          subst this
          obtain ⟨R', x, d⟩ := R.freeze hc
          exact ⟨R', x, .dat (d a hi)⟩
        · exact triv
      · rename_i ds hc
        exact ⟨R, Ext.refl, .dat (D.fzAt R hi hc)⟩
      · exact triv
  | _ => exact triv
theorem frzAll_ok {K : PySem.W.Frag} {α : List Addr} {H : Hp} : ∀ {us : List U} {M : Mem} {vs : List V}, Rp K α M H → VRs K α (fzH α M H) vs us →
    Rp K α (frzAll us M).2 H ∧ Ext α (fzH α M H) α (fzH α (frzAll us M).2 H) ∧ VRs K α (fzH α (frzAll us M).2 H) vs (frzAll us M).1
  | [], M, _, R, .nil => ⟨R, Ext.refl, .nil⟩
  | u :: us, M, _, R, .cons r t => by
    obtain ⟨R1, x1, r1⟩ := frzU_ok R r
    obtain ⟨R2, x2, r2⟩ := frzAll_ok (us := us) R1 (t.ext x1)
    exact ⟨R2, x1.trans x2, .cons (r1.ext x2) r2⟩
theorem frzAll_len : ∀ (us : List U) (M : Mem), (frzAll us M).1.length = us.length
  | [], _ => rfl
  | u :: us, M => by
    show (frzAll us (frzU u M).2).1.length + 1 = _
    rw [frzAll_len us]
    rfl
theorem frzAll_dat : ∀ (ds : List PyData) (M : Mem), frzAll (ds.map .dat) M = (ds.map .dat, M)
  | [], _ => rfl
  | d :: ds, M => by
    show (let (us', M2) := frzAll (ds.map .dat) M; (U.dat d :: us', M2)) = _
    rw [frzAll_dat ds M]
    rfl
noncomputable def eTup (m : MA) : ME := fun ρ M => match m ρ M with
  | some (us, M1) => if us.length ≤ sizeLine then some (mkTup (frzAll us M1).1, (frzAll us M1).2) else none
  | none => none
noncomputable def eLst (m : MA) : ME := fun ρ M => match m ρ M with
  | some (us, M1) => if us.length ≤ sizeLine then some (.cell (frzAll us M1).2.length, (frzAll us M1).2 ++ [.lst true (frzAll us M1).1]) else none
  | none => none
theorem qe_tup {x1} (h : QA X es m) : QE X (.Tuple es x1 pos) (eTup m) := by
  obtain ⟨t, h1, h2⟩ := h.ex
  refine ⟨_, pe_tup h1, ?_⟩
  intro σ H α ρ M w M' Q R er e P
  unfold eTup at e
  split at e
  · rename_i us M1 e1
    split at e
    · rename_i hz
      cases e
      refine h2 σ H α ρ M _ M1 _ R er e1 fun vs α' H' R' x r => ⟨by rw [r.length]; exact hz, fun p np => ?_⟩
      obtain ⟨R2, x2, r2⟩ := frzAll_ok R' r
      obtain ⟨R3, x3, e3⟩ := R2.newFix (o := .tup vs) np
      exact P _ α' _ R3 (x.trans (x2.trans x3)) (VR.mkTup e3 (r2.ext x3))
    · cases e
  · cases e
theorem qe_lst (h : QA X es m) : QE X (.List es pos) (eLst m) := by
  obtain ⟨t, h1, h2⟩ := h.ex
  refine ⟨_, pe_lstN h1, ?_⟩
  intro σ H α ρ M w M' Q R er e P
  unfold eLst at e
  split at e
  · rename_i us M1 e1
    split at e
    · rename_i hz
      cases e
      refine h2 σ H α ρ M _ M1 _ R er e1 fun vs α' H' R' x r => ⟨by rw [r.length]; exact hz, fun p np ns => ?_⟩
      obtain ⟨R2, x2, r2⟩ := frzAll_ok R' r
      obtain ⟨R3, x3, e3⟩ := R2.newMem (o := .lst vs) (c := .lst true (frzAll us M1).1) np rfl fun y => ⟨fun _ => ns, vs, upd_same, r2.ext y⟩
      exact P _ _ _ R3 (x.trans (x2.trans x3)) (.cell e3)
    · cases e
  · cases e
end

/-! ### a rule's ends -/
section
variable {K : PySem.W.Frag} {α : List Addr} {M : Mem} {H : Hp} {Q : VK}
theorem Post.tup {us : List U} {xs : List V} (P : Post K α (fzH α M H) (mkTup us) M Q) (R : Rp K α M H) (r : VRs K α (fzH α M H) xs us) {p : Addr} (np : H p = none) : Q (.ref p) (upd H p (.tup xs)) := by
  obtain ⟨R3, x3, e3⟩ := R.newFix (o := .tup xs) np
  exact P _ α _ R3 x3 (VR.mkTup e3 (r.ext x3))
theorem Post.lst {us : List U} {xs : List V} (P : Post K α (fzH α M H) (.cell M.length) (M ++ [.lst false us]) Q) (R : Rp K α M H) (r : VRs K α (fzH α M H) xs us) {p : Addr} (np : H p = none) : Q (.ref p) (upd H p (.lst xs)) := by
  obtain ⟨R3, x3, e3⟩ := R.newMem (o := .lst xs) (c := .lst false us) np rfl fun y => ⟨fun z => (by cases z), xs, upd_same, r.ext y⟩
  exact P _ _ _ R3 x3 (.cell e3)
theorem Post.lstN {us : List U} {xs : List V} (P : Post K α (fzH α M H) (.cell M.length) (M ++ [.lst true us]) Q) (R : Rp K α M H) (r : VRs K α (fzH α M H) xs us) {p : Addr} (np : H p = none) (ns : p ≠ sysModules) : Q (.ref p) (upd H p (.lst xs)) := by
  obtain ⟨R3, x3, e3⟩ := R.newMem (o := .lst xs) (c := .lst true us) np rfl fun y => ⟨fun _ => ns, xs, upd_same, r.ext y⟩
  exact P _ _ _ R3 x3 (.cell e3)
/-- the list at a cell is changed -/
theorem Post.write {i : Nat} {a : Addr} {f : Bool} {vs us : List U} {xs ys : List V} {w : U} {v : V} (P : Post K α (fzH α M H) w (M.set i (.lst f us)) Q) (R : Rp K α M H) (hi : α[i]? = some a) (hc : M[i]? = some (.lst f vs))
    (r : VRs K α (fzH α M H) ys us) (rv : VR K α (fzH α M H) v w) : Q v (upd H a (.lst ys)) := by
  obtain ⟨n, _⟩ := R.ok i a _ hi hc
  obtain ⟨R3, x3⟩ := R.write (d := .lst f us) (o := .lst ys) hi hc rfl rfl ⟨n, ys, upd_same, r⟩
  exact P _ _ _ R3 x3 (rv.ext x3)
end

/-! ### arithmetic -/
section
variable {X : Cx} {K : PySem.W.Frag}
def numD : PyData → Option Int
  | .int i => some i
  | .bool b => some (if b = true then 1 else 0)
  | _ => none
theorem numD_ok {α : List Addr} {G : Hp} {v : V} {d : PyData} {i : Int} (r : VR K α G v (.dat d)) (h : numD d = some i) : isN v i := by
  cases d with
  | int j => cases h; exact .inl (vr_int r)
  | bool b => cases h; exact .inr ⟨b, vr_bool r, rfl⟩
  | _ => cases h
/-- ints -/
noncomputable def fI (C : Int → Int → Prop) (g : Int → Int → PyData) : F2 := fun a b M => match a, b with
  | .dat (.int i), .dat (.int j) => if C i j then some (.dat (g i j), M) else none
  | _, _ => none
theorem sim_rI {C : Int → Int → Prop} {g : Int → Int → V} {g' : Int → Int → PyData} (hg : ∀ i j, vDat (g i j) = some (g' i j)) : SimOp K (rI C g) (fI C g') := by
  intro H α M x y a b u M' Q R rx ry e P
  unfold fI at e
  split at e
  · rename_i i j
    split at e
    · rename_i hc
      cases e
      exact ⟨i, j, vr_int rx, vr_int ry, hc, P.here R (vDat_ok (hg i j))⟩
    · cases e
  · cases e
def fNI (g : Int → Int → PyData) : F2 := fun a b M => match a, b with
  | .dat d, .dat (.int j) => (numD d).map fun i => (.dat (g i j), M)
  | _, _ => none
def fIN (g : Int → Int → PyData) : F2 := fun a b M => match a, b with
  | .dat (.int i), .dat d => (numD d).map fun j => (.dat (g i j), M)
  | _, _ => none
def fSS (g : Str → Str → Option PyData) : F2 := fun a b M => match a, b with
  | .dat (.str x), .dat (.str y) => (g x y).map fun d => (.dat d, M)
  | _, _ => none
def addS (x y : Str) : Option PyData := if x.length + y.length ≤ sizeLine then some (.str (x ++ y)) else none
theorem q_addNI : QOp X (binaryOp .Add) (fNI fun i j => .int (i + j)) := by
  refine ⟨_, Lw.op_addN, ?_⟩
  intro H α M x y a b u M' Q R rx ry e P
  unfold fNI at e
  split at e
  · obtain ⟨i, e1, e2⟩ := Option.map_eq_some_iff.mp e
    cases e2
    exact ⟨i, _, numD_ok rx e1, vr_int ry, P.here R (.dat (.int _))⟩
  · cases e
theorem q_addS : QOp X (binaryOp .Add) (fSS addS) := by
  refine ⟨_, op_add_str, ?_⟩
  intro H α M x y a b u M' Q R rx ry e P
  unfold fSS at e
  split at e
  · obtain ⟨i, e1, e2⟩ := Option.map_eq_some_iff.mp e
    cases e2
    unfold addS at e1
    split at e1
    · rename_i hz
      cases e1
      exact ⟨_, _, vr_str rx, vr_str ry, hz, P.here R (.dat (.str _))⟩
    · cases e1
  · cases e
def catT : F2 := fun a b M => match tupOf a, tupOf b with
  | some us, some ws => if us.length + ws.length ≤ sizeLine then some (mkTup (us ++ ws), M) else none
  | _, _ => none
theorem q_catT : QOp X (binaryOp .Add) catT := by
  refine ⟨_, op_catA, ?_⟩
  intro H α M x y a b u M' Q R rx ry e P
  unfold catT at e
  split at e
  · rename_i us ws e1 e2
    split at e
    · rename_i hz
      cases e
      obtain ⟨p, xs, rfl, g1, r1⟩ := tupOf_ok rx e1
      obtain ⟨q, ys, rfl, g2, r2⟩ := tupOf_ok ry e2
      refine ⟨p, q, xs, ys, rfl, rfl, SqT.of (fzH_le _ _ g1), SqT.of (fzH_le _ _ g2), by rw [r1.length, r2.length]; exact hz, fun z => ?_, fun _ z => ?_, fun _ _ c nc => ?_⟩
      · subst z
        cases r1
        exact P.here R (VR.mkTup g2 r2)
      · subst z
        cases r2
        rw [List.append_nil] at P
        exact P.here R (VR.mkTup g1 r1)
      · exact P.tup R (r1.append r2) nc
    · cases e
  · cases e
def catL : F2 := fun a b M => match lstOf M a, lstOf M b with
  | some us, some ws => if us.length + ws.length ≤ sizeLine then some (.cell M.length, M ++ [.lst false (us ++ ws)]) else none
  | _, _ => none
theorem q_catL : QOp X (binaryOp .Add) catL := by
  refine ⟨_, op_cat, ?_⟩
  intro H α M x y a b u M' Q R rx ry e P
  unfold catL at e
  split at e
  · rename_i us ws e1 e2
    split at e
    · rename_i hz
      cases e
      obtain ⟨p, xs, rfl, g1, r1⟩ := lstOf_ok R rx e1
      obtain ⟨q, ys, rfl, g2, r2⟩ := lstOf_ok R ry e2
      exact ⟨p, q, xs, ys, rfl, rfl, g1, g2, by rw [r1.length, r2.length]; exact hz, fun c nc => P.lst R (r1.append r2) nc⟩
    · cases e
  · cases e
def addU : F2 := orF (fNI fun i j => .int (i + j)) (orF (fSS addS) (orF catT catL))
theorem q_add : QOp X (binaryOp .Add) addU := q_addNI.or (q_addS.or (q_catT.or q_catL))
theorem q_subNI : QOp X (binaryOp .Sub) (fNI fun i j => .int (i - j)) := by
  refine ⟨_, Lw.op_subN, ?_⟩
  intro H α M x y a b u M' Q R rx ry e P
  unfold fNI at e
  split at e
  · obtain ⟨i, e1, e2⟩ := Option.map_eq_some_iff.mp e
    cases e2
    exact ⟨i, _, numD_ok rx e1, vr_int ry, P.here R (.dat (.int _))⟩
  · cases e
theorem q_subIN : QOp X (binaryOp .Sub) (fIN fun i j => .int (i - j)) := by
  refine ⟨_, Lw.op_subM, ?_⟩
  intro H α M x y a b u M' Q R rx ry e P
  unfold fIN at e
  split at e
  · obtain ⟨i, e1, e2⟩ := Option.map_eq_some_iff.mp e
    cases e2
    exact ⟨_, i, vr_int rx, numD_ok ry e1, P.here R (.dat (.int _))⟩
  · cases e
def subU : F2 := orF (fNI fun i j => .int (i - j)) (fIN fun i j => .int (i - j))
theorem q_sub : QOp X (binaryOp .Sub) subU := q_subNI.or q_subIN
theorem q_mulI : QOp X (binaryOp .Mult) (fI CMulW fun i j => .int (i * j)) := ⟨_, op_mulW, sim_rI fun _ _ => rfl⟩
/-- a text, once or not at all -/
def mulS : F2 := fun a b M => match a, b with
  | .dat (.str z), .dat (.int j) => if j = 1 then some (.dat (.str z), M) else if j = 0 then some (.dat (.str Str.empty), M) else none
  | _, _ => none
theorem q_mulS : QOp X (binaryOp .Mult) mulS := by
  refine ⟨_, op_mulS, ?_⟩
  intro H α M x y a b u M' Q R rx ry e P
  unfold mulS at e
  split at e
  · rename_i z j
    split at e
    · rename_i hz
      cases e
      subst hz
      exact ⟨z, true, vr_str rx, vr_int ry, P.here R (.dat (.str _))⟩
    · split at e
      · rename_i hz
        cases e
        subst hz
        exact ⟨z, false, vr_str rx, vr_int ry, P.here R (.dat (.str _))⟩
      · cases e
  · cases e
def repL : F2 := fun a b M => match lstOf M a, b with
  | some us, .dat (.int k) => if -(2 ^ 63) ≤ k ∧ k < 2 ^ 63 ∧ us.length * k.toNat ≤ sizeLine then some (.cell M.length, M ++ [.lst false (List.replicate k.toNat us).flatten]) else none
  | _, _ => none
theorem q_repL : QOp X (binaryOp .Mult) repL := by
  refine ⟨_, op_rep, ?_⟩
  intro H α M x y a b u M' Q R rx ry e P
  unfold repL at e
  split at e
  · rename_i us k e1
    split at e
    · rename_i hz
      cases e
      obtain ⟨p, xs, rfl, g1, r1⟩ := lstOf_ok R rx e1
      exact ⟨p, k, xs, rfl, vr_int ry, g1, hz.1, hz.2.1, by rw [r1.length]; exact hz.2.2, fun c nc => P.lst R (r1.flat _) nc⟩
    · cases e
  · cases e
theorem tuple_mul0 (l : Addr) (items : Array Value) (n : Nat) (dd : Option Addr) (sl : Array (Option Value)) (u : Tok) (c1 : items.isEmpty = false) :
    Meets (Builtin.«tuple.__mul__» ⟨[.ref l, .int 0 u], []⟩) (fun _ R s => s.heap.get? l = some { cls := .type "tuple", dict := dd, data := .seq items n, slots := sl } ∧
      R (.ok (.ret (Value.ref s.heap.objs.size))) { s with heap := s.heap.push { cls := Value.type "tuple", data := Data.seq #[] }, toks := s.toks }) :=
  .of_wp fun prog w A R s h => by
    obtain ⟨hp, g, d, tk, os⟩ := s
    obtain ⟨hl, h⟩ := h
    have f1 := AutoSeq1.idx_int
    have c1' : (items.isEmpty || (0 : Int) == 1) = false := by rw [c1]; rfl
    wp_walk using wpAny_loadPart' hl
    exact ⟨_, rfl, h⟩
def rRepV (K : PySem.W.Frag) : R2 := fun x y H Q => ∃ l k xs, x = .ref l ∧ y = .int k ∧ SqT K H l xs ∧ xs ≠ [] ∧ 0 ≤ k ∧ k ≤ 1000 ∧ xs.length ≤ 1000 ∧
  (k = 1 → Q (.ref l) H) ∧ (k ≠ 1 → ∀ p, H p = none → Q (.ref p) (upd H p (.tup (List.replicate k.toNat xs).flatten)))
theorem op_repV : OpR X (binaryOp .Mult) (rRepV X.K) := by
  intro pins s σ H x y v u Q I rx ry h
  obtain ⟨l, k, xs, rfl, rfl, hT, hne, h0, h2, hz, q1, q⟩ := h
  by_cases hk : k = 1
  · subst hk
    cases rx
    obtain ⟨t, rfl⟩ := ry
    obtain ⟨its, r, ⟨⟨cls, dd, data, sl⟩, ho, hc, n, hd⟩, hs⟩ := I.tuple hT
    simp only at hc hd
    subst hc hd
    refine wpAny_binaryOp_repeat_ref (T := "tuple") (U := "int") (by decide) ⟨_, ho, rfl⟩ (fun s' => typeIs_int s' 1 t) noFill_tuple_mul F.fills_int_mul F.slot_int_rmul repeat_tuple F.slot_int_index.lookup
      (call_meets F.slot_int_rmul (typeIs_int s 1 t) F.entry_int_rmul (F.args_int_rmul_2 _ _) (int_rmul_tuple 1 t l its.toArray n dd sl)
        ⟨ho, rfl, ⟨_, ho, rfl⟩, call_meets F.slot_tuple_mul ⟨_, ho, rfl⟩ F.entry_tuple_mul (F.args_tuple_mul_2 _ _) (tuple_mul1 l its.toArray n dd sl t) ⟨ho, ?_⟩⟩)
    exact ⟨.ref l, H, I, rfl, q1 rfl⟩
  · by_cases hk0 : k = 0
    · subst hk0
      cases rx
      obtain ⟨t, rfl⟩ := ry
      obtain ⟨its, r, ⟨⟨cls, dd, data, sl⟩, ho, hc, n, hd⟩, hs⟩ := I.tuple hT
      simp only at hc hd
      subst hc hd
      have hi : its.toArray.isEmpty = false := by
        cases r with
        | nil => exact absurd rfl hne
        | cons _ _ => rfl
      refine wpAny_binaryOp_repeat_ref (T := "tuple") (U := "int") (by decide) ⟨_, ho, rfl⟩ (fun s' => typeIs_int s' 0 t) noFill_tuple_mul F.fills_int_mul F.slot_int_rmul repeat_tuple F.slot_int_index.lookup
        (call_meets F.slot_int_rmul (typeIs_int s 0 t) F.entry_int_rmul (F.args_int_rmul_2 _ _) (int_rmul_tuple 0 t l its.toArray n dd sl)
          ⟨ho, rfl, ⟨_, ho, rfl⟩, call_meets F.slot_tuple_mul ⟨_, ho, rfl⟩ F.entry_tuple_mul (F.args_tuple_mul_2 _ _) (tuple_mul0 l its.toArray n dd sl t hi) ⟨ho, ?_⟩⟩)
      refine ⟨.ref s.heap.objs.size, _, I.laid (t' := s.toks) (o := .tup []) (fun b ob q => Heap.get?_push_of_some _ q) (Nat.le_refl _) ?_, rfl, q hk _ (I.hok.fresh (Nat.le_refl _))⟩
      exact ⟨Nat.zero_le _, _, .nil, IsTup.new _ _⟩
    · exact op_repT pins s σ H _ _ v u Q I rx ry ⟨l, k, xs, rfl, rfl, hT, hne, by omega, h2, hz, fun p np => q hk p np⟩
def repT : F2 := fun a b M => match tupOf a, b with
  | some us, .dat (.int k) => if us ≠ [] ∧ 0 ≤ k ∧ k ≤ 1000 ∧ us.length ≤ 1000 then some (mkTup (List.replicate k.toNat us).flatten, M) else none
  | _, _ => none
theorem q_repT : QOp X (binaryOp .Mult) repT := by
  refine ⟨_, op_repV, ?_⟩
  intro H α M x y a b u M' Q R rx ry e P
  unfold repT at e
  split at e
  · rename_i us k e1
    split at e
    · rename_i hz
      cases e
      obtain ⟨p, xs, rfl, g1, r1⟩ := tupOf_ok rx e1
      have ne : xs ≠ [] := fun z => hz.1 (by subst z; cases r1; rfl)
      refine ⟨p, k, xs, rfl, vr_int ry, SqT.of (fzH_le _ _ g1), ne, hz.2.1, hz.2.2.1, by rw [r1.length]; exact hz.2.2.2, fun z => ?_, fun z c nc => P.tup R (r1.flat _) nc⟩
      subst z
      have e0 : (List.replicate (1 : Int).toNat us).flatten = us := by
        show (List.replicate 1 us).flatten = us
        simp
      rw [e0] at P
      exact P.here R (VR.mkTup g1 r1)
    · cases e
  · cases e
noncomputable def mulU : F2 := orF (fI CMulW fun i j => .int (i * j)) (orF mulS (orF repT repL))
theorem q_mul : QOp X (binaryOp .Mult) mulU := q_mulI.or (q_mulS.or (q_repT.or q_repL))
noncomputable def fdivU : F2 := fI CDivW fun i j => .int (i / j)
theorem q_fdiv : QOp X (binaryOp .FloorDiv) fdivU := ⟨_, op_fdivW, sim_rI fun _ _ => rfl⟩
noncomputable def modU : F2 := fI (fun _ j => 0 < j) fun i j => .int (i % j)
theorem q_mod : QOp X (binaryOp .Mod) modU := ⟨_, op_mod, sim_rI fun _ _ => rfl⟩
noncomputable def powU : F2 := fI CPowW fun i j => .int (i ^ j.toNat)
theorem q_pow : QOp X (binaryOp .Pow) powU := ⟨_, op_powW, sim_rI fun _ _ => rfl⟩
end

/-! ### == and the like -/
mutual
theorem Dp.of {K : PySem.W.Frag} {f : Bool} {H : Hp} : ∀ {v : V} {d : PyData}, D f H v d → d.canLay0 = true → Dp K H v d
  | _, _, .non, _ => .non
  | _, _, .bl b, _ => .bl b
  | _, _, .int i, _ => .int i
  | _, _, .str x, _ => .str x
  | _, _, .lst e _ t, h => .lst (SqL.of e) (DpAll.of t (by simpa only [PyData.canLay0] using h))
  | _, _, .tup e t, h => .tup (SqT.of e) (DpAll.of t (by simpa only [PyData.canLay0] using h))
  | _, _, .dct e t, h => by simp only [PyData.canLay0] at h; cases h
theorem DpAll.of {K : PySem.W.Frag} {f : Bool} {H : Hp} : ∀ {vs : List V} {ds : List PyData}, DA f H vs ds → PyData.canLayAll0 ds = true → DpAll K H vs ds
  | _, _, .nil, _ => .nil
  | _, _, .cons a b, h => by
    simp only [PyData.canLayAll0, Bool.and_eq_true] at h
    exact .cons (Dp.of a h.1) (DpAll.of b h.2)
end
section
variable {X : Cx} {K : PySem.W.Frag}
def eqD : F2 := fun a b M => match datOf M a, datOf M b with
  | some d, some e => if SeqAt.shaped d = true ∧ SeqAt.shaped e = true then some (.dat (.bool (PyData.eqv d e)), M) else none
  | _, _ => none
def neD : F2 := fun a b M => match datOf M a, datOf M b with
  | some d, some e => if SeqAt.shaped d = true ∧ SeqAt.shaped e = true then some (.dat (.bool (!PyData.eqv d e)), M) else none
  | _, _ => none
theorem q_eqD {k : Nat} (room : Room k X.A) : QOp X (compareOp .Eq) eqD := by
  refine ⟨_, op_eqD (by have := room.un; omega), ?_⟩
  intro H α M x y a b u M' Q R rx ry e P
  unfold eqD at e
  split at e
  · rename_i d d' e1 e2
    split at e
    · rename_i hz
      cases e
      exact ⟨d, d', Dp.of (datOf_ok R rx e1) (SeqAt.canLay_of_shaped hz.1), Dp.of (datOf_ok R ry e2) (SeqAt.canLay_of_shaped hz.2), hz.1, hz.2, P.here R (.dat (.bl _))⟩
    · cases e
  · cases e
theorem q_neD {k : Nat} (room : Room k X.A) : QOp X (compareOp .NotEq) neD := by
  refine ⟨_, op_neD (by have := room.un; omega), ?_⟩
  intro H α M x y a b u M' Q R rx ry e P
  unfold neD at e
  split at e
  · rename_i d d' e1 e2
    split at e
    · rename_i hz
      cases e
      exact ⟨d, d', Dp.of (datOf_ok R rx e1) (SeqAt.canLay_of_shaped hz.1), Dp.of (datOf_ok R ry e2) (SeqAt.canLay_of_shaped hz.2), hz.1, hz.2, P.here R (.dat (.bl _))⟩
    · cases e
  · cases e
/-- anything and a text -/
def eqDS : F2 := fun a b M => match datOf M a, b with
  | some d, .dat (.str z) => some (.dat (.bool (strIs z d)), M)
  | _, _ => none
def eqSD : F2 := fun a b M => match a, datOf M b with
  | .dat (.str z), some d => some (.dat (.bool (strIs z d)), M)
  | _, _ => none
theorem q_eqDS {k : Nat} (room : Room k X.A) : QOp X (compareOp .Eq) eqDS := by
  refine ⟨_, op_eqDS room, ?_⟩
  intro H α M x y a b u M' Q R rx ry e P
  unfold eqDS at e
  split at e
  · rename_i d z e1
    cases e
    exact ⟨z, d, false, datOf_ok R rx e1, vr_str ry, P.here R (.dat (.bl _))⟩
  · cases e
theorem q_eqSD {k : Nat} (room : Room k X.A) : QOp X (compareOp .Eq) eqSD := by
  refine ⟨_, op_eqSD room, ?_⟩
  intro H α M x y a b u M' Q R rx ry e P
  unfold eqSD at e
  split at e
  · rename_i z d e1
    cases e
    exact ⟨z, d, false, vr_str rx, datOf_ok R ry e1, P.here R (.dat (.bl _))⟩
  · cases e
/-- a tuple and () -/
def eqT0 (neg : Bool) : F2 := fun a b M => match tupOf a, tupOf b with
  | some us, some [] => some (.dat (.bool (if neg = true then !decide (us.length = 0) else decide (us.length = 0))), M)
  | _, _ => none
theorem q_eqT0 {k : Nat} (room : Room k X.A) : QOp X (compareOp .Eq) (eqT0 false) := by
  refine ⟨_, op_eq0 room, ?_⟩
  intro H α M x y a b u M' Q R rx ry e P
  unfold eqT0 at e
  split at e
  · rename_i us e1 e2
    cases e
    obtain ⟨p, xs, rfl, g1, r1⟩ := tupOf_ok rx e1
    obtain ⟨q, ys, rfl, g2, r2⟩ := tupOf_ok ry e2
    cases r2
    refine ⟨p, q, xs, rfl, rfl, fzH_le _ _ g1, fzH_le _ _ g2, ?_⟩
    rw [r1.length]
    exact P.here R (.dat (.bl _))
  · cases e
theorem q_neT0 {k : Nat} (room : Room k X.A) : QOp X (compareOp .NotEq) (eqT0 true) := by
  refine ⟨_, op_ne0 room, ?_⟩
  intro H α M x y a b u M' Q R rx ry e P
  unfold eqT0 at e
  split at e
  · rename_i us e1 e2
    cases e
    obtain ⟨p, xs, rfl, g1, r1⟩ := tupOf_ok rx e1
    obtain ⟨q, ys, rfl, g2, r2⟩ := tupOf_ok ry e2
    cases r2
    refine ⟨p, q, xs, rfl, rfl, fzH_le _ _ g1, fzH_le _ _ g2, ?_⟩
    rw [r1.length]
    exact P.here R (.dat (.bl _))
  · cases e
def eqU : F2 := orF eqDS (orF eqSD (orF (eqT0 false) eqD))
theorem q_eq {k : Nat} (room : Room k X.A) : QOp X (compareOp .Eq) eqU := (q_eqDS room).or ((q_eqSD room).or ((q_eqT0 room).or (q_eqD room)))
def neSS : F2 := fun a b M => match a, b with
  | .dat (.str x), .dat (.str y) => some (.dat (.bool (!decide (x = y))), M)
  | _, _ => none
theorem q_neSS : QOp X (compareOp .NotEq) neSS := by
  refine ⟨_, op_ne, ?_⟩
  intro H α M x y a b u M' Q R rx ry e P
  unfold neSS at e
  split at e
  · rename_i z w
    cases e
    rw [vr_str rx, vr_str ry]
    refine ⟨rfl, ?_⟩
    have ed : decide (V.str z = V.str w) = decide (z = w) := by
      rw [decide_eq_decide]
      exact ⟨fun h => V.str.inj h, fun h => by rw [h]⟩
    rw [ed]
    exact P.here R (.dat (.bl _))
  · cases e
def neU : F2 := orF neSS (orF (eqT0 true) neD)
theorem q_ne {k : Nat} (room : Room k X.A) : QOp X (compareOp .NotEq) neU := q_neSS.or ((q_neT0 room).or (q_neD room))
/-- order -/
def cmpI (g : Int → Int → Bool) : F2 := fun a b M => match a, b with
  | .dat (.int i), .dat (.int j) => some (.dat (.bool (g i j)), M)
  | _, _ => none
theorem sim_cmpI {g : Int → Int → Bool} : SimOp K (rI0 fun i j => .bl (g i j)) (cmpI g) := by
  intro H α M x y a b u M' Q R rx ry e P
  unfold cmpI at e
  split at e
  · cases e
    exact ⟨_, _, vr_int rx, vr_int ry, P.here R (.dat (.bl _))⟩
  · cases e
def CmpOk (d e : PyData) : Prop := PySem.W.alike d e = true ∧ d ≠ .none ∧ d.depth ≤ 64
noncomputable def cmpD (g : PyData → PyData → Bool) : F2 := fun a b M => match datOf M a, datOf M b with
  | some d, some e => if CmpOk d e then some (.dat (.bool (g d e)), M) else none
  | _, _ => none
def rCmpD (g : PyData → PyData → Bool) : R2 := fun x y H Q => ∃ d e, D false H x d ∧ D false H y e ∧ CmpOk d e ∧ Q (.bl (g d e)) H
theorem sim_cmpD {g : PyData → PyData → Bool} : SimOp K (rCmpD g) (cmpD g) := by
  intro H α M x y a b u M' Q R rx ry e P
  unfold cmpD at e
  split at e
  · rename_i d d' e1 e2
    split at e
    · rename_i hz
      cases e
      exact ⟨d, d', datOf_ok R rx e1, datOf_ok R ry e2, hz, P.here R (.dat (.bl _))⟩
    · cases e
  · cases e
theorem opCmpD {op : CmpOp} {g : PyData → PyData → Bool} {k : Nat} (room : Room k X.A)
    (rule : ∀ (s : Shared) (a b : Value) (da db : PyData) (as bs : List Addr) (Q : Value → Shared → Prop) (E : Value → Shared → Prop), Reads s.heap a da as → Reads s.heap b db bs → PySem.W.alike da db = true → da ≠ .none → X.A.units + min da.depth db.depth < cLine → Q (.bool (g da db)) s → wpAny (model X.prog X.w) X.A (compareOp op a b) Q E s) :
    OpR X (compareOp op) (rCmpD g) := by
  intro pins s σ H x y v u Q I rx ry h
  obtain ⟨d, e, hd, he, hc, q⟩ := h
  obtain ⟨as, r1, _⟩ := D.reads I hd v rx
  obtain ⟨bs, r2, _⟩ := D.reads I he u ry
  exact rule s v u d e as bs _ _ r1 r2 hc.1 hc.2.1 (by have := room.un; have := hc.2.2; omega) ⟨.bl _, H, I, rfl, q⟩
theorem q_ltD {k : Nat} (room : Room k X.A) : QOp X (compareOp .Lt) (cmpD PySem.W.dataLt) := ⟨_, opCmpD room fun _ _ _ _ _ _ _ _ _ r1 r2 h hn hu q => PySem.W.lt_data r1 r2 h hn hu q, sim_cmpD⟩
theorem q_gtD {k : Nat} (room : Room k X.A) : QOp X (compareOp .Gt) (cmpD fun d e => PySem.W.dataLt e d) := ⟨_, opCmpD room fun _ _ _ _ _ _ _ _ _ r1 r2 h hn hu q => PySem.W.gt_data r1 r2 h hn hu q, sim_cmpD⟩
theorem q_leD {k : Nat} (room : Room k X.A) : QOp X (compareOp .LtE) (cmpD fun d e => !PySem.W.dataLt e d) := ⟨_, opCmpD room fun _ _ _ _ _ _ _ _ _ r1 r2 h hn hu q => PySem.W.le_data r1 r2 h hn hu q, sim_cmpD⟩
theorem q_geD {k : Nat} (room : Room k X.A) : QOp X (compareOp .GtE) (cmpD fun d e => !PySem.W.dataLt d e) := ⟨_, opCmpD room fun _ _ _ _ _ _ _ _ _ r1 r2 h hn hu q => PySem.W.ge_data r1 r2 h hn hu q, sim_cmpD⟩
noncomputable def ltU : F2 := orF (cmpI fun i j => decide (i < j)) (cmpD PySem.W.dataLt)
noncomputable def leU : F2 := orF (cmpI fun i j => decide (i ≤ j)) (cmpD fun d e => !PySem.W.dataLt e d)
noncomputable def gtU : F2 := orF (cmpI fun i j => decide (j < i)) (cmpD fun d e => PySem.W.dataLt e d)
noncomputable def geU : F2 := orF (cmpI fun i j => decide (j ≤ i)) (cmpD fun d e => !PySem.W.dataLt d e)
theorem q_lt {k : Nat} (room : Room k X.A) : QOp X (compareOp .Lt) ltU := QOp.or ⟨_, op_lt, sim_cmpI⟩ (q_ltD room)
theorem q_le {k : Nat} (room : Room k X.A) : QOp X (compareOp .LtE) leU := QOp.or ⟨_, op_le, sim_cmpI⟩ (q_leD room)
theorem q_gt {k : Nat} (room : Room k X.A) : QOp X (compareOp .Gt) gtU := QOp.or ⟨_, op_gt, sim_cmpI⟩ (q_gtD room)
theorem q_ge {k : Nat} (room : Room k X.A) : QOp X (compareOp .GtE) geU := QOp.or ⟨_, op_ge, sim_cmpI⟩ (q_geD room)
/-- is None -/
def isNonU : U → Bool
  | .dat .none => true
  | _ => false
theorem isNon_ok {α : List Addr} {G : Hp} {v : V} {u : U} (r : VR K α G v u) : decide (v = .non) = isNonU u := by
  cases r with
  | dat d => cases d <;> rfl
  | _ => rfl
def isF (neg : Bool) : F2 := fun a b M => match b with
  | .dat .none => some (.dat (.bool (if neg = true then !isNonU a else isNonU a)), M)
  | _ => none
theorem q_is : QOp X (compareOp .Is) (isF false) := by
  refine ⟨_, op_isN, ?_⟩
  intro H α M x y a b u M' Q R rx ry e P
  unfold isF at e
  split at e
  · cases e
    rw [← isNon_ok rx] at P
    exact ⟨vr_non ry, P.here R (.dat (.bl _))⟩
  · cases e
theorem q_isnot : QOp X (compareOp .IsNot) (isF true) := by
  refine ⟨_, op_notN, ?_⟩
  intro H α M x y a b u M' Q R rx ry e P
  unfold isF at e
  split at e
  · cases e
    rw [← isNon_ok rx] at P
    exact ⟨vr_non ry, P.here R (.dat (.bl _))⟩
  · cases e
/-- in -/
def rInR (neg : Bool) : R2 := fun x y H Q => ∃ (d : PyData) (ds : List PyData), D false H x d ∧ (D false H y (.list ds) ∨ D false H y (.tuple ds)) ∧ SeqAt.shaped d = true ∧ PyData.canLayAll0 ds = true ∧
  Q (.bl (if neg = true then !(ds.any fun z => PyData.eqv z d) else ds.any fun z => PyData.eqv z d)) H
theorem op_inR {k : Nat} (room : Room k X.A) : OpR X (compareOp .In) (rInR false) := by
  intro pins s σ H x y v u Q I rx ry h
  obtain ⟨d, ds, hd, he, sd, sl, q⟩ := h
  obtain ⟨as, r1, _⟩ := D.reads I hd v rx
  have hu : X.A.units + 1 + min (PyData.depthAll ds) d.depth < cLine := by
    have := room.un
    have := SeqAt.depth_of_shaped sd
    omega
  rcases he with he | he
  · obtain ⟨bs, r2, _⟩ := D.reads I he u ry
    exact SeqAt.in_list_reads r2 r1 sl (SeqAt.canLay_of_shaped sd) hu ⟨.bl _, H, I, rfl, q⟩
  · obtain ⟨bs, r2, _⟩ := D.reads I he u ry
    exact SeqAt.in_tuple_reads r2 r1 sl (SeqAt.canLay_of_shaped sd) hu ⟨.bl _, H, I, rfl, q⟩
theorem op_notInR {k : Nat} (room : Room k X.A) : OpR X (compareOp .NotIn) (rInR true) := by
  intro pins s σ H x y v u Q I rx ry h
  obtain ⟨d, ds, hd, he, sd, sl, q⟩ := h
  obtain ⟨as, r1, _⟩ := D.reads I hd v rx
  have hu : X.A.units + 1 + min (PyData.depthAll ds) d.depth < cLine := by
    have := room.un
    have := SeqAt.depth_of_shaped sd
    omega
  rcases he with he | he
  · obtain ⟨bs, r2, _⟩ := D.reads I he u ry
    exact SeqAt.notIn_list_reads r2 r1 sl (SeqAt.canLay_of_shaped sd) hu ⟨.bl _, H, I, rfl, q⟩
  · obtain ⟨bs, r2, _⟩ := D.reads I he u ry
    exact SeqAt.notIn_tuple_reads r2 r1 sl (SeqAt.canLay_of_shaped sd) hu ⟨.bl _, H, I, rfl, q⟩
def seqD : PyData → Option (List PyData)
  | .list ds => some ds
  | .tuple ds => some ds
  | _ => none
def inD (neg : Bool) : F2 := fun a b M => match datOf M a, (datOf M b).bind seqD with
  | some d, some ds => if SeqAt.shaped d = true ∧ PyData.canLayAll0 ds = true then some (.dat (.bool (if neg = true then !(ds.any fun z => PyData.eqv z d) else ds.any fun z => PyData.eqv z d)), M) else none
  | _, _ => none
theorem sim_inD {neg : Bool} : SimOp K (rInR neg) (inD neg) := by
  intro H α M x y a b u M' Q R rx ry e P
  unfold inD at e
  split at e
  · rename_i d ds e1 e2
    split at e
    · rename_i hz
      cases e
      obtain ⟨d2, e3, e4⟩ := Option.bind_eq_some_iff.mp e2
      have D2 := datOf_ok R ry e3
      refine ⟨d, ds, datOf_ok R rx e1, ?_, hz.1, hz.2, P.here R (.dat (.bl _))⟩
      cases d2 with
      | list l => cases e4; exact .inl D2
      | tuple l => cases e4; exact .inr D2
      | _ => cases e4
    · cases e
  · cases e
/-- .. a tuple of the module -/
def inK (neg : Bool) : F2 := fun a b M => match a, b with
  | .dat d, .kt xs => match D2V d with
    | some x => if xs.all flatV = true then some (.dat (.bool (if neg = true then !inV x xs else inV x xs)), M) else none
    | none => none
  | _, _ => none
where D2V : PyData → Option V
  | .none => some .non
  | .bool b => some (.bl b)
  | .int i => some (.int i)
  | .str z => some (.str z)
  | _ => none
theorem D2V_ok {α : List Addr} {G : Hp} {v x : V} {d : PyData} (r : VR K α G v (.dat d)) (h : inK.D2V d = some x) : v = x ∧ flatV v = true := by
  cases d with
  | none => cases h; exact ⟨vr_non r, by rw [vr_non r]; rfl⟩
  | bool b => cases h; exact ⟨vr_bool r, by rw [vr_bool r]; rfl⟩
  | int i => cases h; exact ⟨vr_int r, by rw [vr_int r]; rfl⟩
  | str z => cases h; exact ⟨vr_str r, by rw [vr_str r]; rfl⟩
  | _ => cases h
theorem sim_inK {neg : Bool} : SimOp K (rIn K neg) (inK neg) := by
  intro H α M x y a b u M' Q R rx ry e P
  unfold inK at e
  split at e
  · rename_i d xs
    split at e
    · rename_i z e1
      split at e
      · rename_i hz
        cases e
        obtain ⟨e2, e3⟩ := D2V_ok rx e1
        subst e2
        cases ry with
        | kt q => exact ⟨_, xs, rfl, .inr (SqT.ext fzH_le q), e3, hz, P.here R (by cases neg <;> exact .dat (.bl _))⟩
      · cases e
    · cases e
  · cases e
/-- .. a row of flat things -/
def allFl : List U → Option (List V)
  | [] => some []
  | .dat d :: us => match inK.D2V d, allFl us with
    | some v, some vs => some (v :: vs)
    | _, _ => none
  | _ => none
theorem allFl_ok {α : List Addr} {G : Hp} : ∀ {us : List U} {xs vs : List V}, VRs K α G xs us → allFl us = some vs → xs = vs ∧ vs.all flatV = true
  | [], _, _, .nil, h => by cases h; exact ⟨rfl, rfl⟩
  | u :: us, _, vs, .cons r t, h => by
    unfold allFl at h
    split at h
    · rename_i heq
      cases heq
    · rename_i d _ heq
      cases heq
      split at h
      · rename_i v ws e1 e2
        cases h
        obtain ⟨rfl, f1⟩ := D2V_ok r e1
        obtain ⟨rfl, f2⟩ := allFl_ok t e2
        refine ⟨rfl, ?_⟩
        rw [List.all_cons, f1, f2]
        rfl
      · cases h
    · cases h
def inFl (neg : Bool) : F2 := fun a b M => match a with
  | .dat d => match inK.D2V d, (seqOf M b).bind allFl with
    | some x, some xs => some (.dat (.bool (if neg = true then !inV x xs else inV x xs)), M)
    | _, _ => none
  | _ => none
theorem sim_inFl {neg : Bool} : SimOp K (rIn K neg) (inFl neg) := by
  intro H α M x y a b u M' Q R rx ry e P
  unfold inFl at e
  split at e
  · rename_i d
    split at e
    · rename_i z zs e1 e2
      cases e
      obtain ⟨us, e3, e4⟩ := Option.bind_eq_some_iff.mp e2
      obtain ⟨rfl, f1⟩ := D2V_ok rx e1
      obtain ⟨p, xs, rfl, hq, rs⟩ := seqOf_ok R ry e3
      obtain ⟨rfl, f2⟩ := allFl_ok rs e4
      exact ⟨p, xs, rfl, hq, f1, f2, P.here R (by cases neg <;> exact .dat (.bl _))⟩
    · cases e
  · cases e
/-- a sign in a text -/
def inS (neg : Bool) : F2 := fun a b M => match a, b with
  | .dat (.str x), .dat (.str z) => some (.dat (.bool (if neg = true then !(!(Builtin.Str.occurrences z x 0 z.length 1).isEmpty) else !(Builtin.Str.occurrences z x 0 z.length 1).isEmpty)), M)
  | _, _ => none
theorem q_inS : QOp X (compareOp .In) (inS false) := by
  refine ⟨_, op_in_str, ?_⟩
  intro H α M x y a b u M' Q R rx ry e P
  unfold inS at e
  split at e
  · cases e
    exact ⟨_, _, vr_str rx, vr_str ry, P.here R (.dat (.bl _))⟩
  · cases e
theorem q_notInS : QOp X (compareOp .NotIn) (inS true) := by
  refine ⟨_, op_notIn_str, ?_⟩
  intro H α M x y a b u M' Q R rx ry e P
  unfold inS at e
  split at e
  · cases e
    exact ⟨_, _, vr_str rx, vr_str ry, P.here R (.dat (.bl _))⟩
  · cases e
def inU (neg : Bool) : F2 := orF (inK neg) (orF (inFl neg) (orF (inD neg) (inS neg)))
theorem q_in {k : Nat} (room : Room k X.A) : QOp X (compareOp .In) (inU false) := QOp.or ⟨_, op_in_seq, sim_inK⟩ (QOp.or ⟨_, op_in_seq, sim_inFl⟩ (QOp.or ⟨_, op_inR room, sim_inD⟩ q_inS))
theorem q_notIn {k : Nat} (room : Room k X.A) : QOp X (compareOp .NotIn) (inU true) := QOp.or ⟨_, op_notIn_seq, sim_inK⟩ (QOp.or ⟨_, op_notIn_seq, sim_inFl⟩ (QOp.or ⟨_, op_notInR room, sim_inD⟩ q_notInS))
/-- -x -/
def eNeg (m : ME) : ME := fun ρ M => match m ρ M with
  | some (.dat (.int i), M1) => some (.dat (.int (-i)), M1)
  | _ => none
theorem qe_neg {a : Expr} {ma : ME} {pos : Pos} (ha : QE X a ma) : QE X (.UnaryOp .USub a pos) (eNeg ma) := by
  obtain ⟨t, h1, h2⟩ := ha.ex
  refine ⟨_, pe_un un_neg h1, ?_⟩
  intro σ H α ρ M w M' Q R er e P
  unfold eNeg at e
  split at e
  · rename_i c M1 e1
    cases e
    exact h2 σ H α ρ M _ _ _ R er e1 fun v α' H' R' x r => ⟨c, vr_int r, P _ α' H' R' x (.dat (.int _))⟩
  · cases e
/-- a op b op' c -/
def eChain (f g : F2) (ma mb mc : ME) : ME := fun ρ M => match ma ρ M with
  | some (x, M1) => match mb ρ M1 with
    | some (y, M2) => match f x y M2 with
      | some (.dat (.bool true), M3) => match mc ρ M3 with
        | some (z, M4) => g y z M4
        | none => none
      | some (.dat (.bool false), M3) => some (.dat (.bool false), M3)
      | _ => none
    | none => none
  | none => none
theorem sim_chain {r r' : R2} {f g : F2} {ta tb tc : TE} {ma mb mc : ME} (hf : SimOp K r f) (hg : SimOp K r' g) (ha : SimE K ta ma) (hb : SimE K tb mb) (hc : SimE K tc mc) : SimE K (tChain r r' ta tb tc) (eChain f g ma mb mc) := by
  intro σ H α ρ M u M' Q R er h P
  unfold eChain at h
  split at h
  · rename_i x M1 e1
    split at h
    · rename_i y M2 e2
      refine ha σ H α ρ M x M1 _ R er e1 fun v1 α1 H1 R1 x1 r1 => ?_
      refine hb σ H1 α1 ρ M1 y M2 _ R1 (er.ext x1) e2 fun v2 α2 H2 R2 x2 r2 => ?_
      split at h
      · rename_i M3 e3
        split at h
        · rename_i z M4 e4
          refine hf H2 α2 M2 v1 v2 x y _ M3 _ R2 (r1.ext x2) r2 e3 fun v3 α3 H3 R3 x3 r3 => ⟨true, vr_bool r3, ?_⟩
          rw [if_pos rfl]
          refine hc σ H3 α3 ρ M3 z M4 _ R3 (er.ext (x1.trans (x2.trans x3))) e4 fun v4 α4 H4 R4 x4 r4 => ?_
          exact hg H4 α4 M4 v2 v4 y z u M' Q R4 (r2.ext (x3.trans x4)) r4 h (P.after (x1.trans (x2.trans (x3.trans x4))))
        · cases h
      · rename_i M3 e3
        cases h
        refine hf H2 α2 M2 v1 v2 x y _ _ _ R2 (r1.ext x2) r2 e3 fun v3 α3 H3 R3 x3 r3 => ⟨false, vr_bool r3, ?_⟩
        rw [if_neg (by decide)]
        exact P _ α3 H3 R3 (x1.trans (x2.trans x3)) (.dat (.bl false))
      · cases h
    · cases h
  · cases h
theorem qe_chain {op op' : CmpOp} {f g : F2} {a b c : Expr} {ma mb mc : ME} {pos : Pos} (ho : QOp X (compareOp op) f) (ho' : QOp X (compareOp op') g) (ha : QE X a ma) (hb : QE X b mb) (hc : QE X c mc)
    (hm : lastMarks [op, op'] [b, c] = false := by with_unfolding_all rfl) : QE X (.Compare a [op, op'] [b, c] pos) (eChain f g ma mb mc) := by
  obtain ⟨r, h1, h2⟩ := ho.ex
  obtain ⟨r', h3, h4⟩ := ho'.ex
  obtain ⟨ta, a1, a2⟩ := ha.ex
  obtain ⟨tb, b1, b2⟩ := hb.ex
  obtain ⟨tc, c1, c2⟩ := hc.ex
  exact ⟨_, pe_chain h1 h3 a1 b1 c1 hm, sim_chain h2 h4 a2 b2 c2⟩
theorem qt_chain {op op' : CmpOp} {f g : F2} {a b c : Expr} {ma mb mc : ME} {pos : Pos} (ho : QOp X (compareOp op) f) (ho' : QOp X (compareOp op') g) (ha : QE X a ma) (hb : QE X b mb) (hc : QE X c mc)
    (hm : lastMarks [op, op'] [b, c] = false := by with_unfolding_all rfl) : QT X (.Compare a [op, op'] [b, c] pos) (tOf (eChain f g ma mb mc)) := by
  obtain ⟨r, h1, h2⟩ := ho.ex
  obtain ⟨r', h3, h4⟩ := ho'.ex
  obtain ⟨ta, a1, a2⟩ := ha.ex
  obtain ⟨tb, b1, b2⟩ := hb.ex
  obtain ⟨tc, c1, c2⟩ := hc.ex
  exact ⟨_, pt_chain h1 h3 a1 b1 c1 hm, sim_tB (sim_chain h2 h4 a2 b2 c2)⟩
end
end Pu

namespace Pu
open PySem PySem.Spec PyProof.Rows L2 Lw
open Classical

/-! ### items and slices -/
section
variable {X : Cx} {K : PySem.W.Frag} {a b : Expr} {ma mb : ME} {pos : Pos}
theorem atI_vrs {α : List Addr} {G : Hp} {xs : List V} {us : List U} {i : Int} {u : U} (r : VRs K α G xs us) (h : atI us i = some u) : ∃ v, atI xs i = some v ∧ VR K α G v u := by
  unfold atI at h ⊢
  rw [r.length]
  obtain ⟨j, h1, h2⟩ := Option.bind_eq_some_iff.mp h
  obtain ⟨v, h3, h4⟩ := r.get j h2
  exact ⟨v, by rw [h1]; exact h3, h4⟩
def ixU : F2 := fun a b M => match b with
  | .dat (.int i) => match seqOf M a with
    | some us => (atI us i).map fun u => (u, M)
    | none => match a with
      | .dat (.str z) => if z.length ≤ sizeLine then (atI z.cps.toList i).map fun c => (.dat (.str ⟨#[c]⟩), M) else none
      | _ => none
  | _ => none
theorem q_ix : ∃ r, IxR X r ∧ SimOp X.K r ixU := by
  refine ⟨_, ix_seq, ?_⟩
  intro H α M x y a b u M' Q R rx ry e P
  unfold ixU at e
  split at e
  · rename_i i
    split at e
    · rename_i us e1
      obtain ⟨w, e2, e3⟩ := Option.map_eq_some_iff.mp e
      cases e3
      obtain ⟨p, xs, rfl, hq, r⟩ := seqOf_ok R rx e1
      obtain ⟨v, e4, r4⟩ := atI_vrs r e2
      rcases hq with hq | hq
      · exact .inl ⟨p, xs, i, v, rfl, vr_int ry, hq, e4, P.here R r4⟩
      · exact .inr (.inl ⟨p, xs, i, v, rfl, vr_int ry, hq, e4, P.here R r4⟩)
    · split at e
      · split at e
        · rename_i z _ hz
          obtain ⟨c, e2, e3⟩ := Option.map_eq_some_iff.mp e
          cases e3
          exact .inr (.inr ⟨_, i, c, vr_str rx, vr_int ry, hz, e2, P.here R (.dat (.str _))⟩)
        · cases e
      · cases e
  · cases e
theorem qe_ix (ha : QE X a ma) (hb : QE X b mb) (hs : PlainIx b := by intro _ _; rfl) : QE X (.Subscript a b pos) (eOp ixU ma mb) := by
  obtain ⟨r, h1, h2⟩ := q_ix (X := X)
  obtain ⟨ta, a1, a2⟩ := ha.ex
  obtain ⟨tb, b1, b2⟩ := hb.ex
  exact ⟨_, pe_ix h1 a1 b1 hs, sim_op2 h2 a2 b2⟩
/-- parts of a slice -/
abbrev MO := Env → Mem → Option (Option Int × Mem)
def PostO (K : PySem.W.Frag) (α : List Addr) (G : Hp) (b : Option Int) (M' : Mem) (Q : Option Int → Hp → Prop) : Prop :=
  ∀ (α' : List Addr) (H' : Hp), Rp K α' M' H' → Ext α G α' (fzH α' M' H') → Q b H'
def SimO (K : PySem.W.Frag) (t : TO) (m : MO) : Prop :=
  ∀ (σ : L2.St) (H : Hp) (α : List Addr) (ρ : Env) (M : Mem) (u : Option Int) (M' : Mem) (Q : Option Int → Hp → Prop), Rp K α M H → ER K α (fzH α M H) σ ρ → m ρ M = some (u, M') → PostO K α (fzH α M H) u M' Q → t σ H Q
structure QO (X : Cx) (e : Option Expr) (m : MO) : Prop where
  ex : ∃ t, PO X e t ∧ SimO X.K t m
def oNone : MO := fun _ M => some (none, M)
def oSome (m : ME) : MO := fun ρ M => match m ρ M with
  | some (.dat (.int i), M1) => some (some i, M1)
  | _ => none
theorem qo_none : QO X none oNone := ⟨_, po_none, fun σ H α ρ M u M' Q R er e P => by cases e; exact P α H R Ext.refl⟩
theorem qo_some (ha : QE X a ma) : QO X (some a) (oSome ma) := by
  obtain ⟨t, h1, h2⟩ := ha.ex
  refine ⟨_, po_some h1, ?_⟩
  intro σ H α ρ M u M' Q R er e P
  unfold oSome at e
  split at e
  · rename_i i M1 e1
    cases e
    exact h2 σ H α ρ M _ _ _ R er e1 fun v α' H' R' x r => ⟨i, vr_int r, P α' H' R' x⟩
  · cases e
def cutU (us : List U) (lo hi : Option Int) : List U := (us.drop (HT.sIx us.length 0 lo)).take (HT.sIx us.length us.length hi - HT.sIx us.length 0 lo)
theorem VRs.cut {α : List Addr} {G : Hp} {xs : List V} {us : List U} (r : VRs K α G xs us) (lo hi : Option Int) : VRs K α G (cutV xs lo hi) (cutU us lo hi) := by
  unfold cutV cutU
  rw [r.length]
  exact (r.drop _).take _
def slU (u : U) (lo hi : Option Int) (M : Mem) : Option (U × Mem) := match tupOf u with
  | some us => some (mkTup (cutU us lo hi), M)
  | none => match lstOf M u with
    | some us => some (.cell M.length, M ++ [.lst false (cutU us lo hi)])
    | none => match u with
      | .dat (.str z) => if z.length ≤ sizeLine then some (.dat (.str (cutS z lo hi)), M) else none
      | _ => none
def SimSl (K : PySem.W.Frag) (r : V → Option Int → Option Int → Hp → VK → Prop) (f : U → Option Int → Option Int → Mem → Option (U × Mem)) : Prop :=
  ∀ (H : Hp) (α : List Addr) (M : Mem) (x : V) (a u : U) (lo hi : Option Int) (M' : Mem) (Q : VK), Rp K α M H → VR K α (fzH α M H) x a → f a lo hi M = some (u, M') → Post K α (fzH α M H) u M' Q → r x lo hi H Q
theorem q_sl : ∃ r, SlR X r ∧ SimSl X.K r slU := by
  refine ⟨_, SlR.or sl_tupA (SlR.or sl_list sl_str), ?_⟩
  intro H α M x a u lo hi M' Q R rx e P
  unfold slU at e
  split at e
  · rename_i us e1
    cases e
    obtain ⟨p, xs, rfl, hq, r⟩ := tupOf_ok rx e1
    refine .inl ⟨p, xs, rfl, SqT.of (fzH_le _ _ hq), fun hw => ?_, fun _ q nq => P.tup R (r.cut lo hi) nq⟩
    have e2 : cutU us lo hi = us := by
      have hw' := hw
      rw [r.length] at hw'
      unfold cutU
      rw [hw'.1, hw'.2]
      simp
    rw [e2] at P
    exact P.here R (VR.mkTup hq r)
  · split at e
    · rename_i us e1
      cases e
      obtain ⟨p, xs, rfl, hq, r⟩ := lstOf_ok R rx e1
      exact .inr (.inl ⟨p, xs, rfl, SqL.of hq, fun q nq => P.lst R (r.cut lo hi) nq⟩)
    · split at e
      · split at e
        · rename_i hz
          cases e
          exact .inr (.inr ⟨_, vr_str rx, hz, P.here R (.dat (.str _))⟩)
        · cases e
      · cases e
def eSl (ma : ME) (ml mh : MO) : ME := fun ρ M => match ma ρ M with
  | some (x, M1) => match ml ρ M1 with
    | some (l, M2) => match mh ρ M2 with
      | some (h, M3) => slU x l h M3
      | none => none
    | none => none
  | none => none
theorem qe_slice {lo hi : Option Expr} {ml mh : MO} {p2 : Pos} (ha : QE X a ma) (hl : QO X lo ml) (hh : QO X hi mh) : QE X (.Subscript a (.Slice lo hi none p2) pos) (eSl ma ml mh) := by
  obtain ⟨r, h1, h2⟩ := q_sl (X := X)
  obtain ⟨ta, a1, a2⟩ := ha.ex
  obtain ⟨tl, l1, l2⟩ := hl.ex
  obtain ⟨th, u1, u2⟩ := hh.ex
  refine ⟨_, pe_slice h1 a1 l1 u1, ?_⟩
  intro σ H α ρ M u M' Q R er e P
  unfold eSl at e
  split at e
  · rename_i x M1 e1
    split at e
    · rename_i l M2 e2
      split at e
      · rename_i h M3 e3
        refine a2 σ H α ρ M x M1 _ R er e1 fun v1 α1 H1 R1 x1 r1 => ?_
        refine l2 σ H1 α1 ρ M1 l M2 _ R1 (er.ext x1) e2 fun α2 H2 R2 x2 => ?_
        refine u2 σ H2 α2 ρ M2 h M3 _ R2 (er.ext (x1.trans x2)) e3 fun α3 H3 R3 x3 => ?_
        exact h2 H3 α3 M3 v1 x u l h M' Q R3 (r1.ext (x2.trans x3)) e (P.after (x1.trans (x2.trans x3)))
      · cases e
    · cases e
  · cases e
/-- t[::-1] -/
def eRev (ma : ME) : ME := fun ρ M => match ma ρ M with
  | some (x, M1) => (tupOf x).map fun us => (mkTup us.reverse, M1)
  | none => none
theorem qe_revT {k : Nat} {p1 p2 p3 : Pos} (ha : QE X a ma) : QE X (.Subscript a (.Slice none none (some (.UnaryOp .USub (.Constant (.int 1) k p1) p2)) p3) pos) (eRev ma) := by
  obtain ⟨t, h1, h2⟩ := ha.ex
  refine ⟨_, pe_revT h1, ?_⟩
  intro σ H α ρ M u M' Q R er e P
  unfold eRev at e
  split at e
  · rename_i x M1 e1
    obtain ⟨us, e2, e3⟩ := Option.map_eq_some_iff.mp e
    cases e3
    refine h2 σ H α ρ M _ _ _ R er e1 fun v α' H' R' y r => ?_
    obtain ⟨p, xs, rfl, hq, r⟩ := tupOf_ok r e2
    exact ⟨p, xs, rfl, SqT.of (fzH_le _ _ hq), fun q nq => (P.after y).tup R' r.rev nq⟩
  · cases e
end

/-! ### calls of built-ins -/
abbrev FA := List U → Mem → Option (U × Mem)
def SimC (K : PySem.W.Frag) (r : List V → Hp → VK → Prop) (f : FA) : Prop :=
  ∀ (H : Hp) (α : List Addr) (M : Mem) (xs : List V) (us : List U) (u : U) (M' : Mem) (Q : VK), Rp K α M H → VRs K α (fzH α M H) xs us → f us M = some (u, M') → Post K α (fzH α M H) u M' Q → r xs H Q
structure QC (X : Cx) (f : Value) (g : FA) : Prop where
  ex : ∃ r, CallR X f r ∧ SimC X.K r g
def orC (f g : FA) : FA := fun us M => match f us M with
  | some r => some r
  | none => g us M
theorem QC.or {X : Cx} {f : Value} {g g' : FA} (h : QC X f g) (h' : QC X f g') : QC X f (orC g g') := by
  obtain ⟨r, h1, h2⟩ := h.ex
  obtain ⟨r', h3, h4⟩ := h'.ex
  refine ⟨fun xs H Q => r xs H Q ∨ r' xs H Q, fun pins s σ H xs us Q I rs q => ?_, fun H α M xs us u M' Q R rx e P => ?_⟩
  · rcases q with q | q
    · exact h1 pins s σ H xs us Q I rs q
    · exact h3 pins s σ H xs us Q I rs q
  · unfold orC at e
    split at e
    · rename_i q
      cases e
      exact .inl (h2 H α M xs us u M' Q R rx q P)
    · exact .inr (h4 H α M xs us u M' Q R rx e P)
def eCB (f : FA) (m : MA) : ME := fun ρ M => match m ρ M with
  | some (us, M1) => f us M1
  | none => none
theorem sim_cb {K : PySem.W.Frag} {r : List V → Hp → VK → Prop} {f : FA} {t : TA} {m : MA} (hs : SimC K r f) (ha : SimA K t m) : SimE K (tCB r t) (eCB f m) := by
  intro σ H α ρ M u M' Q R er e P
  unfold eCB at e
  split at e
  · rename_i us M1 e1
    refine ha σ H α ρ M us M1 _ R er e1 fun vs α' H' R' x r => ?_
    exact hs H' α' M1 vs us u M' Q R' r e (P.after x)
  · cases e
section
variable {X : Cx} {x : Str} {p pos : Pos} {e : Expr} {es : List Expr} {m : MA} {id T : String} {f : FA}
theorem qe_callB (hc : QC X (.builtin id) f) (hg : Gl X x) (hm : X.mg x = none) (hv : bootBuiltins x = some (.builtin id)) (ha : QA X (e :: es) m) (hn : x ≠ "__name__" := by decide) (hdb : (x == ("__debug__" : Str)) = false := by decide)
    (he : starEach (e :: es) X.env = (false, eval e X.env) :: starEach es X.env := by rfl) (hpl : (backTo pos (starEach es X.env)).any (·.1) = false := by rfl) : QE X (.Call (.Name x p) (e :: es) [] pos) (eCB f m) := by
  obtain ⟨r, h1, h2⟩ := hc.ex
  obtain ⟨t, h3, h4⟩ := ha.ex
  exact ⟨_, pe_callB h1 hg hm hv h3 hn hdb he hpl, sim_cb h2 h4⟩
theorem qe_callTy (hc : QC X (.type T) f) (hg : Gl X x) (hm : X.mg x = none) (hv : bootBuiltins x = some (.type T)) (ha : QA X (e :: es) m) (hn : x ≠ "__name__" := by decide) (hdb : (x == ("__debug__" : Str)) = false := by decide)
    (he : starEach (e :: es) X.env = (false, eval e X.env) :: starEach es X.env := by rfl) (hpl : (backTo pos (starEach es X.env)).any (·.1) = false := by rfl) : QE X (.Call (.Name x p) (e :: es) [] pos) (eCB f m) := by
  obtain ⟨r, h1, h2⟩ := hc.ex
  obtain ⟨t, h3, h4⟩ := ha.ex
  exact ⟨_, pe_callTy h1 hg hm hv h3 hn hdb he hpl, sim_cb h2 h4⟩
end
theorem vrs1 {K : PySem.W.Frag} {α : List Addr} {G : Hp} {xs : List V} {a : U} (r : VRs K α G xs [a]) : ∃ v, xs = [v] ∧ VR K α G v a := by
  cases r with
  | cons h t => cases t; exact ⟨_, rfl, h⟩
theorem vrs2 {K : PySem.W.Frag} {α : List Addr} {G : Hp} {xs : List V} {a b : U} (r : VRs K α G xs [a, b]) : ∃ v w, xs = [v, w] ∧ VR K α G v a ∧ VR K α G w b := by
  cases r with
  | cons h t =>
    cases t with
    | cons h2 t2 => cases t2; exact ⟨_, _, rfl, h, h2⟩
section
variable {X : Cx}
def lenF : FA := fun us M => match us with
  | [u] => match seqOf M u with
    | some ws => some (.dat (.int ws.length), M)
    | none => match u with
      | .dat (.str z) => if z.length ≤ sizeLine then some (.dat (.int z.length), M) else none
      | _ => none
  | _ => none
theorem q_len : QC X (.builtin "len") lenF := by
  refine ⟨fun xs H Q => (∃ p ys, xs = [.ref p] ∧ (SqL X.K H p ys ∨ SqT X.K H p ys) ∧ Q (.int ys.length) H) ∨ (∃ z, xs = [.str z] ∧ z.length ≤ sizeLine ∧ Q (.int z.length) H), fun pins s σ H xs us Q I rs q => ?_, fun H α M xs us u M' Q R rx e P => ?_⟩
  · rcases q with q | q
    · exact call_len_seq pins s σ H xs us Q I rs q
    · exact call_len_str pins s σ H xs us Q I rs q
  · unfold lenF at e
    split at e
    · rename_i w
      obtain ⟨v, rfl, rv⟩ := vrs1 rx
      split at e
      · rename_i ws e1
        cases e
        obtain ⟨p, ys, rfl, hq, r⟩ := seqOf_ok R rv e1
        refine .inl ⟨p, ys, rfl, hq, ?_⟩
        rw [r.length]
        exact P.here R (.dat (.int _))
      · split at e
        · split at e
          · rename_i hz
            cases e
            exact .inr ⟨_, by rw [vr_str rv], hz, P.here R (.dat (.int _))⟩
          · cases e
        · cases e
    · cases e
def absF : FA := fun us M => match us with
  | [.dat (.int i)] => some (.dat (.int (if i < 0 then -i else i)), M)
  | _ => none
theorem q_abs : QC X (.builtin "abs") absF := by
  refine ⟨_, call_abs, fun H α M xs us u M' Q R rx e P => ?_⟩
  unfold absF at e
  split at e
  · cases e
    obtain ⟨v, rfl, rv⟩ := vrs1 rx
    exact ⟨_, by rw [vr_int rv], P.here R (.dat (.int _))⟩
  · cases e
def min2F : FA := fun us M => match us with
  | [.dat (.int i), .dat (.int j)] => some (.dat (.int (if j < i then j else i)), M)
  | _ => none
def max2F : FA := fun us M => match us with
  | [.dat (.int i), .dat (.int j)] => some (.dat (.int (if j > i then j else i)), M)
  | _ => none
theorem q_min2 (hc : X.calm = true) : QC X (.builtin "min") min2F := by
  refine ⟨_, call_min2 hc, fun H α M xs us u M' Q R rx e P => ?_⟩
  unfold min2F at e
  split at e
  · cases e
    obtain ⟨v, w, rfl, rv, rw'⟩ := vrs2 rx
    exact ⟨_, _, by rw [vr_int rv, vr_int rw'], P.here R (.dat (.int _))⟩
  · cases e
theorem q_max2 (hc : X.calm = true) : QC X (.builtin "max") max2F := by
  refine ⟨_, call_max2 hc, fun H α M xs us u M' Q R rx e P => ?_⟩
  unfold max2F at e
  split at e
  · cases e
    obtain ⟨v, w, rfl, rv, rw'⟩ := vrs2 rx
    exact ⟨_, _, by rw [vr_int rv, vr_int rw'], P.here R (.dat (.int _))⟩
  · cases e
def intF : FA := fun us M => match us with
  | [.dat (.int i)] => some (.dat (.int i), M)
  | [.dat (.bool k)] => some (.dat (.int (if k = true then 1 else 0)), M)
  | _ => none
theorem q_int : QC X (.type "int") intF := by
  refine ⟨_, call_int1, fun H α M xs us u M' Q R rx e P => ?_⟩
  unfold intF at e
  split at e
  · cases e
    obtain ⟨v, rfl, rv⟩ := vrs1 rx
    exact .inl ⟨_, by rw [vr_int rv], P.here R (.dat (.int _))⟩
  · cases e
    obtain ⟨v, rfl, rv⟩ := vrs1 rx
    exact .inr ⟨_, by rw [vr_bool rv], P.here R (.dat (.int _))⟩
  · cases e
def boolF : FA := fun us M => match us with
  | [.dat (.int i)] => some (.dat (.bool (i != 0)), M)
  | [.dat (.bool k)] => some (.dat (.bool k), M)
  | _ => none
theorem q_bool : QC X (.type "bool") boolF := by
  refine ⟨_, call_bool1, fun H α M xs us u M' Q R rx e P => ?_⟩
  unfold boolF at e
  split at e
  · cases e
    obtain ⟨v, rfl, rv⟩ := vrs1 rx
    exact .inl ⟨_, by rw [vr_int rv], P.here R (.dat (.bl _))⟩
  · cases e
    obtain ⟨v, rfl, rv⟩ := vrs1 rx
    exact .inr ⟨_, by rw [vr_bool rv], P.here R (.dat (.bl _))⟩
  · cases e
def strD : PyData → Str
  | .int i => strN (.int i)
  | .bool b => strN (.bl b)
  | _ => Str.empty
def strF : FA := fun us M => match us with
  | [.dat d] => match numD d with
    | some i => if i.natAbs.log2 < 1920 then some (.dat (.str (strD d)), M) else none
    | none => none
  | _ => none
theorem q_str : QC X (.type "str") strF := by
  refine ⟨_, call_strN, fun H α M xs us u M' Q R rx e P => ?_⟩
  unfold strF at e
  split at e
  · rename_i d
    split at e
    · rename_i i e1
      split at e
      · rename_i hz
        cases e
        obtain ⟨v, rfl, rv⟩ := vrs1 rx
        refine ⟨v, i, rfl, numD_ok rv e1, hz, ?_⟩
        have es : strN v = strD d := by
          cases d with
          | int j => rw [vr_int rv]; rfl
          | bool b => rw [vr_bool rv]; rfl
          | _ => cases e1
        rw [es]
        exact P.here R (.dat (.str _))
      · cases e
    · cases e
  · cases e
/-- list(..) -/
def listF : FA := fun us M => match us with
  | [u] => match tupOf u with
    | some ws => some (.cell M.length, M ++ [.lst true ws])
    | none => match seqOf M u with
      | some ws => some (.cell M.length, M ++ [.lst false ws])
      | none => none
  | _ => none
theorem q_list : QC X (.type "list") listF := by
  refine ⟨fun vs H Q => (∃ b ys, vs = [.ref b] ∧ H b = some (.tup ys) ∧ ∀ l, H l = none → l ≠ sysModules → Q (.ref l) (upd H l (.lst ys))) ∨ (∃ p ys, vs = [.ref p] ∧ (SqL X.K H p ys ∨ SqT X.K H p ys) ∧ ∀ l, H l = none → Q (.ref l) (upd H l (.lst ys))), fun pins s σ H xs us Q I rs q => ?_, fun H α M xs us u M' Q R rx e P => ?_⟩
  · rcases q with q | q
    · exact call_listN pins s σ H xs us Q I rs q
    · exact call_list_of pins s σ H xs us Q I rs q
  · unfold listF at e
    split at e
    · rename_i w
      obtain ⟨v, rfl, rv⟩ := vrs1 rx
      split at e
      · rename_i ws e1
        cases e
        obtain ⟨p, ys, rfl, hq, r⟩ := tupOf_ok rv e1
        exact .inl ⟨p, ys, rfl, fzH_le _ _ hq, fun l nl ns => P.lstN R r nl ns⟩
      · split at e
        · rename_i ws e1
          cases e
          obtain ⟨p, ys, rfl, hq, r⟩ := seqOf_ok R rv e1
          exact .inr ⟨p, ys, rfl, hq, fun l nl => P.lst R r nl⟩
        · cases e
    · cases e
/-- tuple(..) -/
def tupleF : FA := fun us M => match us with
  | [u] => match tupOf u with
    | some ws => some (mkTup ws, M)
    | none => match lstOf M u with
      | some ws => some (mkTup (frzAll ws M).1, (frzAll ws M).2)
      | none => none
  | _ => none
theorem q_tuple : QC X (.type "tuple") tupleF := by
  refine ⟨_, call_tuple_of, fun H α M xs us u M' Q R rx e P => ?_⟩
  unfold tupleF at e
  split at e
  · rename_i w
    obtain ⟨v, rfl, rv⟩ := vrs1 rx
    split at e
    · rename_i ws e1
      cases e
      obtain ⟨p, ys, rfl, hq, r⟩ := tupOf_ok rv e1
      exact ⟨p, ys, rfl, .inr ⟨SqT.of (fzH_le _ _ hq), P.here R (VR.mkTup hq r)⟩⟩
    · split at e
      · rename_i ws e1
        cases e
        obtain ⟨p, ys, rfl, hq, r⟩ := lstOf_ok R rv e1
        obtain ⟨R2, x2, r2⟩ := frzAll_ok R r
        exact ⟨p, ys, rfl, .inl ⟨SqL.of hq, fun l nl => (P.after x2).tup R2 r2 nl⟩⟩
      · cases e
  · cases e
/-- all, any, sum -/
def boolsOf : List U → Option (List Bool)
  | [] => some []
  | .dat (.bool b) :: us => (boolsOf us).map (b :: ·)
  | _ => none
def intsOf : List U → Option (List Int)
  | [] => some []
  | .dat (.int b) :: us => (intsOf us).map (b :: ·)
  | _ => none
def strsOf : List U → Option (List Str)
  | [] => some []
  | .dat (.str b) :: us => (strsOf us).map (b :: ·)
  | _ => none
theorem boolsOf_ok {K : PySem.W.Frag} {α : List Addr} {G : Hp} : ∀ {us : List U} {bs : List Bool} {xs : List V}, VRs K α G xs us → boolsOf us = some bs → xs = bs.map V.bl
  | [], _, _, .nil, h => by cases h; rfl
  | u :: us, bs, _, .cons h t, e => by
    unfold boolsOf at e
    split at e
    · rename_i heq
      cases heq
    · rename_i heq
      cases heq
      obtain ⟨cs, e1, e2⟩ := Option.map_eq_some_iff.mp e
      subst e2
      rw [List.map_cons, vr_bool h, boolsOf_ok t e1]
    · cases e
theorem intsOf_ok {K : PySem.W.Frag} {α : List Addr} {G : Hp} : ∀ {us : List U} {bs : List Int} {xs : List V}, VRs K α G xs us → intsOf us = some bs → xs = bs.map V.int
  | [], _, _, .nil, h => by cases h; rfl
  | u :: us, bs, _, .cons h t, e => by
    unfold intsOf at e
    split at e
    · rename_i heq
      cases heq
    · rename_i heq
      cases heq
      obtain ⟨cs, e1, e2⟩ := Option.map_eq_some_iff.mp e
      subst e2
      rw [List.map_cons, vr_int h, intsOf_ok t e1]
    · cases e
theorem strsOf_ok {K : PySem.W.Frag} {α : List Addr} {G : Hp} : ∀ {us : List U} {bs : List Str} {xs : List V}, VRs K α G xs us → strsOf us = some bs → xs = bs.map V.str
  | [], _, _, .nil, h => by cases h; rfl
  | u :: us, bs, _, .cons h t, e => by
    unfold strsOf at e
    split at e
    · rename_i heq
      cases heq
    · rename_i heq
      cases heq
      obtain ⟨cs, e1, e2⟩ := Option.map_eq_some_iff.mp e
      subst e2
      rw [List.map_cons, vr_str h, strsOf_ok t e1]
    · cases e
theorem boolsOf_map : ∀ bs : List Bool, boolsOf (bs.map fun b => .dat (.bool b)) = some bs
  | [] => rfl
  | b :: bs => by show (boolsOf (bs.map fun b => .dat (.bool b))).map (b :: ·) = _; rw [boolsOf_map bs]; rfl
theorem intsOf_map : ∀ bs : List Int, intsOf (bs.map fun b => .dat (.int b)) = some bs
  | [] => rfl
  | b :: bs => by show (intsOf (bs.map fun b => .dat (.int b))).map (b :: ·) = _; rw [intsOf_map bs]; rfl
theorem strsOf_map : ∀ bs : List Str, strsOf (bs.map fun b => .dat (.str b)) = some bs
  | [] => rfl
  | b :: bs => by show (strsOf (bs.map fun b => .dat (.str b))).map (b :: ·) = _; rw [strsOf_map bs]; rfl
def bsF (g : List Bool → Bool) : FA := fun us M => match us with
  | [u] => match (lstOf M u).bind boolsOf with
    | some bs => some (.dat (.bool (g bs)), M)
    | none => none
  | _ => none
def allF : FA := bsF fun bs => bs.all id
def anyF : FA := bsF fun bs => bs.any id
theorem q_all (hc : X.calm = true) : QC X (.builtin "all") allF := by
  refine ⟨_, cr_all hc, fun H α M xs us u M' Q R rx e P => ?_⟩
  unfold allF bsF at e
  split at e
  · obtain ⟨v, rfl, rv⟩ := vrs1 rx
    split at e
    · rename_i bs e1
      cases e
      obtain ⟨ws, e2, e3⟩ := Option.bind_eq_some_iff.mp e1
      obtain ⟨p, ys, rfl, hq, r⟩ := lstOf_ok R rv e2
      have := boolsOf_ok r e3
      subst this
      exact ⟨p, bs, rfl, SqL.of hq, P.here R (.dat (.bl _))⟩
    · cases e
  · cases e
theorem q_any (hc : X.calm = true) : QC X (.builtin "any") anyF := by
  refine ⟨_, cr_any hc, fun H α M xs us u M' Q R rx e P => ?_⟩
  unfold anyF bsF at e
  split at e
  · obtain ⟨v, rfl, rv⟩ := vrs1 rx
    split at e
    · rename_i bs e1
      cases e
      obtain ⟨ws, e2, e3⟩ := Option.bind_eq_some_iff.mp e1
      obtain ⟨p, ys, rfl, hq, r⟩ := lstOf_ok R rv e2
      have := boolsOf_ok r e3
      subst this
      exact ⟨p, bs, rfl, SqL.of hq, P.here R (.dat (.bl _))⟩
    · cases e
  · cases e
def sumF : FA := fun us M => match us with
  | [u] => match (lstOf M u).bind intsOf with
    | some bs => some (.dat (.int bs.sum), M)
    | none => none
  | _ => none
theorem q_sum (hc : X.calm = true) : QC X (.builtin "sum") sumF := by
  refine ⟨_, cr_sum hc, fun H α M xs us u M' Q R rx e P => ?_⟩
  unfold sumF at e
  split at e
  · obtain ⟨v, rfl, rv⟩ := vrs1 rx
    split at e
    · rename_i bs e1
      cases e
      obtain ⟨ws, e2, e3⟩ := Option.bind_eq_some_iff.mp e1
      obtain ⟨p, ys, rfl, hq, r⟩ := lstOf_ok R rv e2
      have := intsOf_ok r e3
      subst this
      exact ⟨p, bs, rfl, SqL.of hq, P.here R (.dat (.int _))⟩
    · cases e
  · cases e
/-- repr -/
noncomputable def reprF : FA := fun us M => match us with
  | [.dat d] => if Ok d then some (.dat (.str d.shown), M) else none
  | [u] => match datOf M u with
    | some d => if Ok d ∧ d.hasDict = false then some (.dat (.str d.shown), M) else none
    | none => none
  | _ => none
theorem q_repr {k : Nat} (hgd : X.A.guards = some []) (room : Room k X.A) : QC X (.builtin "repr") reprF := by
  refine ⟨_, call_repr hgd room, fun H α M xs us u M' Q R rx e P => ?_⟩
  unfold reprF at e
  split at e
  · rename_i d
    obtain ⟨v, rfl, rv⟩ := vrs1 rx
    split at e
    · rename_i hz
      cases e
      cases rv with
      | dat q => exact ⟨v, d, true, rfl, q.same fzH_le, fun _ => rfl, hz, P.here R (.dat (.str _))⟩
    · cases e
  · obtain ⟨v, rfl, rv⟩ := vrs1 rx
    split at e
    · rename_i d e1
      split at e
      · rename_i hz
        cases e
        exact ⟨v, d, false, rfl, datOf_ok R rv e1, (fun z => by rw [hz.2] at z; cases z), hz.1, P.here R (.dat (.str _))⟩
      · cases e
    · cases e
  · cases e
/-- isinstance -/
def tyOf (M : Mem) : U → Option String
  | .dat d => some (tyD d)
  | .tupc _ => some "tuple"
  | .cell i => match M[i]? with
    | some (.lst _ _) => some "list"
    | some (.fz _) => some "list"
    | _ => none
  | _ => none
theorem tyOf_ok {K : PySem.W.Frag} {α : List Addr} {M : Mem} {H : Hp} {v : V} {u : U} {n : String} (R : Rp K α M H) (r : VR K α (fzH α M H) v u) (h : tyOf M u = some n) : TyX K H v (.type n) := by
  cases r with
  | dat d =>
    cases h
    exact (d.same fzH_le).ty
  | tupc e t =>
    cases h
    exact .base (.tup (fzH_le _ _ e))
  | cell e =>
    rename_i a i
    obtain ⟨c, hc⟩ := R.cellAt e
    have ok := R.ok i a c e hc
    have h' : (match M[i]? with
      | some (.lst _ _) => some "list"
      | some (.fz _) => some "list"
      | _ => none) = some n := h
    rw [hc] at h'
    cases c with
    | lst f ws =>
      cases h'
      obtain ⟨_, xs, q, _⟩ := ok
      exact .base (.lst q)
    | fz ds =>
      cases h'
      obtain ⟨_, xs, q, _⟩ := ok
      exact .base (.lst q)
    | dk _ => cases h'
    | ins _ _ => cases h'
  | _ => cases h
def isT (n m : String) : Option Bool := if (n = "NoneType" ∨ n = "bool" ∨ n = "int" ∨ n = "str" ∨ n = "list" ∨ n = "tuple" ∨ n = "dict") ∧ (m = "int" ∨ m = "bool" ∨ m = "str" ∨ m = "tuple" ∨ m = "list" ∨ m = "dict") then some (decide (n = m) || (decide (n = "bool") && decide (m = "int"))) else none
theorem isT_ok {K : PySem.W.Frag} {n m : String} {b : Bool} (h : isT n m = some b) : PySem.W.kitOne K (.type n) (.type m) = some b := by
  unfold isT at h
  split at h
  · rename_i hz
    cases h
    obtain ⟨h1, h2⟩ := hz
    rcases h1 with rfl | rfl | rfl | rfl | rfl | rfl | rfl <;> rcases h2 with rfl | rfl | rfl | rfl | rfl | rfl <;> exact kit_ty (by decide +kernel)
  · cases h
def isiF : FA := fun us M => match us with
  | [u, .ty m] => match tyOf M u with
    | some n => (isT n m).map fun b => (.dat (.bool b), M)
    | none => none
  | _ => none
theorem q_isi : QC X (.builtin "isinstance") isiF := by
  refine ⟨_, call_isi, fun H α M xs us u M' Q R rx e P => ?_⟩
  unfold isiF at e
  split at e
  · rename_i w m
    split at e
    · rename_i n e1
      obtain ⟨b, e2, e3⟩ := Option.map_eq_some_iff.mp e
      cases e3
      obtain ⟨v, c, rfl, rv, rc⟩ := vrs2 rx
      cases rc
      exact ⟨v, .ty m, .type n, .type m, b, rfl, .ty m, tyOf_ok R rv e1, isT_ok e2, P.here R (.dat (.bl _))⟩
    · cases e
  · cases e
end
end Pu

namespace Pu
open PySem PySem.Spec PyProof.Rows L2 Lw
open Classical

/-! ### methods -/
abbrev FM := U → List U → Mem → Option (U × Mem)
def SimM (K : PySem.W.Frag) (r : V → List V → Hp → VK → Prop) (f : FM) : Prop :=
  ∀ (H : Hp) (α : List Addr) (M : Mem) (x : V) (xs : List V) (a : U) (us : List U) (u : U) (M' : Mem) (Q : VK), Rp K α M H → VR K α (fzH α M H) x a → VRs K α (fzH α M H) xs us → f a us M = some (u, M') → Post K α (fzH α M H) u M' Q → r x xs H Q
structure QM (X : Cx) (id : String) (f : FM) : Prop where
  ex : ∃ r, MtR X id r ∧ SimM X.K r f
def isTyM (T : String) (M : Mem) (u : U) : Bool :=
  if T = "list" then (lstOf M u).isSome else if T = "str" then (match u with
    | .dat (.str _) => true
    | _ => false) else false
theorem isTyM_ok {K : PySem.W.Frag} {α : List Addr} {M : Mem} {H : Hp} {v : V} {u : U} {T : String} (R : Rp K α M H) (r : VR K α (fzH α M H) v u) (h : isTyM T M u = true) : tyV K T v H := by
  unfold isTyM at h
  split at h
  · rename_i e
    subst e
    cases e : lstOf M u with
    | none => rw [e] at h; cases h
    | some us =>
      obtain ⟨a, xs, rfl, hq, _⟩ := lstOf_ok R r e
      exact .inl ⟨rfl, xs, SqL.of hq⟩
  · split at h
    · rename_i e
      subst e
      split at h
      · rw [vr_str r]
        exact rfl
      · cases h
    · cases h
noncomputable def eMt (T : String) (f : FM) (mo : ME) (m : MA) : ME := fun ρ M => match mo ρ M with
  | some (x, M1) => if isTyM T M1 x = true then (match m ρ M1 with
    | some (us, M2) => f x us M2
    | none => none) else none
  | none => none
section
variable {X : Cx} {o e : Expr} {es : List Expr} {mo : ME} {m : MA} {name : Str} {apos cpos : Pos} {T id : String} {f : FM}
theorem sim_bm {K : PySem.W.Frag} {r : V → List V → Hp → VK → Prop} {to : TE} {t : TA} (hs : SimM K r f) (ho : SimE K to mo) (ha : SimA K t m) : SimE K (tBM K T r to t) (eMt T f mo m) := by
  intro σ H α ρ M u M' Q R er h P
  unfold eMt at h
  split at h
  · rename_i x M1 e1
    split at h
    · rename_i hty
      split at h
      · rename_i us M2 e2
        refine ho σ H α ρ M x M1 _ R er e1 fun v1 α1 H1 R1 x1 r1 => ⟨isTyM_ok R1 r1 hty, ?_⟩
        refine ha σ H1 α1 ρ M1 us M2 _ R1 (er.ext x1) e2 fun vs α2 H2 R2 x2 r2 => ?_
        exact hs H2 α2 M2 v1 vs x us u M' Q R2 (r1.ext x2) r2 h (P.after (x1.trans x2))
      · cases h
    · cases h
  · cases h
theorem qe_bm (pa : PlainAttrs T) (slot : Slot T name id) (hty : typeOf (.builtin id) = pure (.type "method_descriptor")) (hm : QM X id f) (ho : QE X o mo) (ha : QA X (e :: es) m)
    (hbase : attributeBase o name X.env (eval o X.env) = eval o X.env := by rfl)
    (hfew : ((backTo cpos (starEach (e :: es) X.env)).all (fun x => !x.1) && (backToKw cpos (keywordEach [] X.env)).all (fun x => x.1.isSome)
      && decide ((e :: es).length + ([] : List Keyword).length + (if ([] : List Keyword).isEmpty then 0 else 1) < 30)) = true := by rfl)
    (hline : (apos.endLine == cpos.line) = true := by rfl) (hs : starEach (e :: es) X.env = (false, eval e X.env) :: starEach es X.env := by rfl) (hplain : (backTo cpos (starEach es X.env)).any (·.1) = false := by rfl) :
    QE X (.Call (.Attribute o name apos) (e :: es) [] cpos) (eMt T f mo m) := by
  obtain ⟨r, h1, h2⟩ := hm.ex
  obtain ⟨to, o1, o2⟩ := ho.ex
  obtain ⟨t, a1, a2⟩ := ha.ex
  exact ⟨_, pe_bm pa slot hty h1 o1 a1 hbase hfew hline hs hplain, sim_bm h2 o2 a2⟩
theorem qe_bm0 (pa : PlainAttrs T) (slot : Slot T name id) (hty : typeOf (.builtin id) = pure (.type "method_descriptor")) (hm : QM X id f) (ho : QE X o mo)
    (hbase : attributeBase o name X.env (eval o X.env) = eval o X.env := by rfl) (hline : (apos.endLine == cpos.line) = true := by rfl) :
    QE X (.Call (.Attribute o name apos) [] [] cpos) (eMt T f mo aNil) := by
  obtain ⟨r, h1, h2⟩ := hm.ex
  obtain ⟨to, o1, o2⟩ := ho.ex
  refine ⟨_, pe_bm0 pa slot hty h1 o1 hbase hline, ?_⟩
  intro σ H α ρ M u M' Q R er h P
  unfold eMt aNil at h
  split at h
  · rename_i x M1 e1
    split at h
    · rename_i hty
      refine o2 σ H α ρ M x M1 _ R er e1 fun v1 α1 H1 R1 x1 r1 => ⟨isTyM_ok R1 r1 hty, ?_⟩
      exact h2 H1 α1 M1 v1 [] x [] u M' Q R1 r1 .nil h (P.after x1)
    · cases h
  · cases h
def appendF : FM := fun a us M => match a, us with
  | .cell i, [y] => match (frzU y M).2[i]? with
    | some (.lst f ws) => if ws.length < sizeLine then some (.dat .none, (frzU y M).2.set i (.lst f (ws ++ [(frzU y M).1]))) else none
    | _ => none
  | _, _ => none
theorem q_append : QM X "list.append" appendF := by
  refine ⟨_, mt_append, fun H α M x xs a us u M' Q R rx rs e P => ?_⟩
  unfold appendF at e
  split at e
  · rename_i i y
    split at e
    · rename_i f ws hc
      split at e
      · rename_i hz
        cases e
        obtain ⟨v, rfl, rv⟩ := vrs1 rs
        obtain ⟨R1, x1, r1⟩ := frzU_ok R rv
        cases rx with
        | cell hi =>
          rename_i p
          obtain ⟨_, ys, hy, ry⟩ := R1.ok i p _ hi hc
          refine ⟨p, ys, v, rfl, rfl, hy, by rw [ry.length]; exact hz, ?_⟩
          exact Post.write (xs := ys) (P.after x1) R1 hi hc (ry.append (.cons r1 .nil)) (.dat .non)
      · cases e
    · cases e
  · cases e
def extendF : FM := fun a us M => match a, us with
  | .cell i, [y] => match M[i]?, lstOf M y with
    | some (.lst f ws), some zs => if ws.length + zs.length ≤ sizeLine then some (.dat .none, M.set i (.lst f (ws ++ zs))) else none
    | _, _ => none
  | _, _ => none
theorem q_extend : QM X "list.extend" extendF := by
  refine ⟨_, mt_extend, fun H α M x xs a us u M' Q R rx rs e P => ?_⟩
  unfold extendF at e
  split at e
  · rename_i i y
    split at e
    · rename_i f ws zs hc hl
      split at e
      · rename_i hz
        cases e
        obtain ⟨v, rfl, rv⟩ := vrs1 rs
        obtain ⟨b, ks, rfl, hb, rb⟩ := lstOf_ok R rv hl
        cases rx with
        | cell hi =>
          rename_i p
          obtain ⟨_, ys, hy, ry⟩ := R.ok i p _ hi hc
          refine ⟨p, b, ys, ks, rfl, rfl, hy, hb, by rw [ry.length, rb.length]; exact hz, ?_⟩
          exact Post.write (xs := ys) P R hi hc (ry.append rb) (.dat .non)
      · cases e
    · cases e
  · cases e
theorem VRs.dropLast {K : PySem.W.Frag} {α : List Addr} {G : Hp} {xs : List V} {us : List U} (r : VRs K α G xs us) : VRs K α G xs.dropLast us.dropLast := by
  rw [List.dropLast_eq_take, List.dropLast_eq_take, r.length]
  exact r.take _
theorem VRs.eraseIdx {K : PySem.W.Frag} {α : List Addr} {G : Hp} : ∀ {xs : List V} {us : List U} (i : Nat), VRs K α G xs us → VRs K α G (xs.eraseIdx i) (us.eraseIdx i)
  | _, _, _, .nil => .nil
  | _, _, 0, .cons _ t => t
  | _, _, i + 1, .cons r t => .cons r (VRs.eraseIdx i t)
def popF : FM := fun a us M => match a, us with
  | .cell i, [] => match M[i]? with
    | some (.lst f ws) => (ws[ws.length - 1]?).map fun y => (y, M.set i (.lst f ws.dropLast))
    | _ => none
  | .cell i, [.dat (.int j)] => match M[i]? with
    | some (.lst f ws) => if -(2 ^ 63) ≤ j ∧ j < 2 ^ 63 then (seqIndex? j ws.length).bind fun k => (ws[k]?).map fun y => (y, M.set i (.lst f (ws.eraseIdx k))) else none
    | _ => none
  | _, _ => none
theorem q_pop : QM X "list.pop" popF := by
  refine ⟨fun x xs H Q => rPop x xs H Q ∨ rPopAt x xs H Q, fun pins s σ H x xs v us Q I rx rs q => ?_, fun H α M x xs a us u M' Q R rx rs e P => ?_⟩
  · rcases q with q | q
    · exact mt_pop pins s σ H x xs v us Q I rx rs q
    · exact mt_popAt pins s σ H x xs v us Q I rx rs q
  · unfold popF at e
    split at e
    · rename_i i
      split at e
      · rename_i f ws hc
        obtain ⟨y, e1, e2⟩ := Option.map_eq_some_iff.mp e
        cases e2
        cases rs
        cases rx with
        | cell hi =>
          rename_i p
          obtain ⟨_, ys, hy, ry⟩ := R.ok i p _ hi hc
          obtain ⟨v, e3, rv⟩ := ry.get _ e1
          refine .inl ⟨p, ys, v, rfl, rfl, hy, by rw [ry.length]; exact e3, ?_⟩
          exact Post.write (xs := ys) P R hi hc ry.dropLast rv
      · cases e
    · rename_i i j
      split at e
      · rename_i f ws hc
        split at e
        · rename_i hz
          obtain ⟨k, e1, e2⟩ := Option.bind_eq_some_iff.mp e
          obtain ⟨y, e3, e4⟩ := Option.map_eq_some_iff.mp e2
          cases e4
          obtain ⟨w, rfl, rw'⟩ := vrs1 rs
          cases rx with
          | cell hi =>
            rename_i p
            obtain ⟨_, ys, hy, ry⟩ := R.ok i p _ hi hc
            obtain ⟨v, e5, rv⟩ := ry.get _ e3
            refine .inr ⟨p, ys, j, k, v, rfl, by rw [vr_int rw'], hy, hz.1, hz.2, by rw [ry.length]; exact e1, e5, ?_⟩
            exact Post.write (xs := ys) P R hi hc (ry.eraseIdx k) rv
        · cases e
      · cases e
    · cases e
def joinF : FM := fun a us M => match a, us with
  | .dat (.str z), [y] => match (seqOf M y).bind strsOf with
    | some ss => if (ss.map (·.length)).sum + ss.length * z.length ≤ 16777216 then some (.dat (.str (Txt.join z ss)), M) else none
    | none => none
  | _, _ => none
theorem q_join : QM X "str.join" joinF := by
  refine ⟨_, mt_join, fun H α M x xs a us u M' Q R rx rs e P => ?_⟩
  unfold joinF at e
  split at e
  · rename_i z y
    split at e
    · rename_i ss e1
      split at e
      · rename_i hz
        cases e
        obtain ⟨ws, e2, e3⟩ := Option.bind_eq_some_iff.mp e1
        obtain ⟨v, rfl, rv⟩ := vrs1 rs
        obtain ⟨p, ys, rfl, hq, r⟩ := seqOf_ok R rv e2
        have := strsOf_ok r e3
        subst this
        exact ⟨z, p, ss, vr_str rx, rfl, hq, hz, P.here R (.dat (.str _))⟩
      · cases e
    · cases e
  · cases e
def upperF : FM := fun a us M => match a, us with
  | .dat (.str z), [] => if z.length ≤ 5592405 then some (.dat (.str (Txt.upper z)), M) else none
  | _, _ => none
theorem q_upper : QM X "str.upper" upperF := by
  refine ⟨_, mt_upper, fun H α M x xs a us u M' Q R rx rs e P => ?_⟩
  unfold upperF at e
  split at e
  · split at e
    · rename_i hz
      cases e
      cases rs
      exact ⟨_, vr_str rx, rfl, hz, P.here R (.dat (.str _))⟩
    · cases e
  · cases e
/-- xs.index(x) -/
def indexF : FM := fun a us M => match datOf M a, us with
  | some (.list ds), [y] => match datOf M y with
    | some d => if SeqAt.shaped (.list ds) = true ∧ SeqAt.shaped d = true then (ds.findIdx? fun z => PyData.eqv z d).map fun j => (.dat (.int (j : Nat)), M) else none
    | none => none
  | _, _ => none
theorem D.isRef {f : Bool} {H : Hp} {v : V} {ds : List PyData} (h : D f H v (.list ds)) : ∃ a, v = .ref a := by
  cases h
  exact ⟨_, rfl⟩
theorem q_index {k : Nat} (room : Room k X.A) : QM X "list.index" indexF := by
  refine ⟨_, mt_indexD (by have := room.un; omega), fun H α M x xs a us u M' Q R rx rs e P => ?_⟩
  unfold indexF at e
  split at e
  · rename_i ds y e0
    split at e
    · rename_i d e1
      split at e
      · rename_i hz
        obtain ⟨j, e2, e3⟩ := Option.map_eq_some_iff.mp e
        cases e3
        obtain ⟨v, rfl, rv⟩ := vrs1 rs
        have Dx := datOf_ok R rx e0
        obtain ⟨p, rfl⟩ := D.isRef Dx
        obtain ⟨hj, hp, hn⟩ := List.findIdx?_eq_some_iff_getElem.mp e2
        refine ⟨p, v, d, ds, j, ds[j], rfl, rfl, Dp.of Dx (SeqAt.canLay_of_shaped hz.1), Dp.of (datOf_ok R rv e1) (SeqAt.canLay_of_shaped hz.2), hz.1, hz.2, List.getElem?_eq_getElem hj, hp, fun m z' hm hz' => ?_, P.here R (.dat (.int _))⟩
        obtain ⟨hm', em⟩ := List.getElem?_eq_some_iff.mp hz'
        have := hn m hm
        rw [em] at this
        simpa using this
      · cases e
    · cases e
  · cases e
end

/-! ### calls of the text's own defs -/
def spOf (K : PySem.W.Frag) (f : FA) : Sp := fun vs H Q _ => ∃ (α : List Addr) (M : Mem) (us : List U) (u : U) (M' : Mem), Rp K α M H ∧ VRs K α (fzH α M H) vs us ∧ f us M = some (u, M') ∧ Post K α (fzH α M H) u M' Q
theorem sim_call {K : PySem.W.Frag} {f : FA} {t : TA} {m : MA} (ha : SimA K t m) : SimE K (tCall (spOf K f) [] E0 t) (eCB f m) := by
  intro σ H α ρ M u M' Q R er e P
  unfold eCB at e
  split at e
  · rename_i us M1 e1
    refine ha σ H α ρ M us M1 _ R er e1 fun vs α' H' R' x r => ?_
    refine ⟨α', M1, us, u, M', R', ?_, e, P.after x⟩
    rw [List.append_nil]
    exact r
  · cases e
section
variable {X : Cx} {k : Nat} {g : Addr} {fd : FuncData} {ps : List Str} {f : FA} {x : Str} {p pos : Pos} {e : Expr} {es : List Expr} {m : MA}
theorem qe_call (F : FnOk X.prog X.w X.K X.mg X.base CX0 k g fd ps (spOf X.K f)) (hr : Room k X.A) (hg : Gl X x) (hm : X.mg x = some (.ref g)) (hk : PySem.W.keepIn X.K (.ref g) = true) (hb : Binds X.K fd ps [])
    (ha : QA X (e :: es) m) (hdb : (x == ("__debug__" : Str)) = false := by decide) (he : starEach (e :: es) X.env = (false, eval e X.env) :: starEach es X.env := by rfl) (hpl : (backTo pos (starEach es X.env)).any (·.1) = false := by rfl) :
    QE X (.Call (.Name x p) (e :: es) [] pos) (eCB f m) := by
  obtain ⟨t, h3, h4⟩ := ha.ex
  exact ⟨_, pe_call (E := E0) F hr hg hm hk hb .nil pass0 h3 hdb he hpl, sim_call h4⟩
theorem qe_callG (F : FnG X.prog X.w X.K X.mg X.base k g fd ps (spOf X.K f)) (hgd : X.A.guards = some []) (hr : Room k X.A) (hg : Gl X x) (hm : X.mg x = some (.ref g)) (hk : PySem.W.keepIn X.K (.ref g) = true) (hb : Binds X.K fd ps [])
    (ha : QA X (e :: es) m) (hdb : (x == ("__debug__" : Str)) = false := by decide) (he : starEach (e :: es) X.env = (false, eval e X.env) :: starEach es X.env := by rfl) (hpl : (backTo pos (starEach es X.env)).any (·.1) = false := by rfl) :
    QE X (.Call (.Name x p) (e :: es) [] pos) (eCB f m) := by
  obtain ⟨t, h3, h4⟩ := ha.ex
  exact ⟨_, pe_callG F hgd hr hg hm hk hb h3 hdb he hpl, sim_call h4⟩
/-- keywords -/
structure QK (X : Cx) (kws : List Keyword) (m : MA) : Prop where
  ex : ∃ t, PK X kws t ∧ SimA X.K t m
theorem qk_nil : QK X [] aNil := ⟨_, pk_nil, fun σ H α ρ M us M' Q R er e P => by cases e; exact P [] α H R Ext.refl .nil⟩
theorem qk_cons {nm : Option Str} {kpos : Pos} {kws : List Keyword} {me : ME} (ha : QE X e me) (hr : QK X kws m) : QK X (⟨nm, e, kpos⟩ :: kws) (aCons me m) := by
  obtain ⟨t, h1, h2⟩ := ha.ex
  obtain ⟨u, h3, h4⟩ := hr.ex
  exact ⟨_, pk_cons h1 h3, sim_cons h2 h4⟩
def eCK (f : FA) (gU : List U → List U → List U) (m mk : MA) : ME := fun ρ M => match m ρ M with
  | some (us, M1) => match mk ρ M1 with
    | some (ws, M2) => f (gU us ws) M2
    | none => none
  | none => none
theorem sim_callK {K : PySem.W.Frag} {t tk : TA} {m mk : MA} {gV : List V → List V → List V} {gU : List U → List U → List U}
    (hgg : ∀ {α : List Addr} {G : Hp} {vs zs : List V} {us ws : List U}, VRs K α G vs us → VRs K α G zs ws → VRs K α G (gV vs zs) (gU us ws)) (ha : SimA K t m) (hk : SimA K tk mk) :
    SimE K (tCallK (spOf K f) gV E0 t tk) (eCK f gU m mk) := by
  intro σ H α ρ M u M' Q R er e P
  unfold eCK at e
  split at e
  · rename_i us M1 e1
    split at e
    · rename_i ws M2 e2
      refine ha σ H α ρ M us M1 _ R er e1 fun vs α1 H1 R1 x1 r1 => ?_
      refine hk σ H1 α1 ρ M1 ws M2 _ R1 (er.ext x1) e2 fun zs α2 H2 R2 x2 r2 => ?_
      exact ⟨α2, M2, _, u, M', R2, hgg (r1.ext x2) r2, e, P.after (x1.trans x2)⟩
    · cases e
  · cases e
theorem qe_kw0 {kws : List Keyword} {ks : List Str} {mk : MA} {gg : List Value → List Value → List Value} {gV : List V → List V → List V} {gU : List U → List U → List U}
    (F : FnOk X.prog X.w X.K X.mg X.base CX0 k g fd ps (spOf X.K f)) (room : Room k X.A) (hg : Gl X x) (hm : X.mg x = some (.ref g)) (hk : PySem.W.keepIn X.K (.ref g) = true)
    (hb : KBinds X.K fd ps ks gg gV) (hgg : ∀ {α : List Addr} {G : Hp} {vs zs : List V} {us ws : List U}, VRs X.K α G vs us → VRs X.K α G zs ws → VRs X.K α G (gV vs zs) (gU us ws)) (hkw : QK X kws mk) (hall : (backToKw pos (keywordEach kws X.env)).all (·.1.isSome) = true := by rfl)
    (hks : (backToKw pos (keywordEach kws X.env)).filterMap (·.1) = ks := by rfl) (hdb : (x == ("__debug__" : Str)) = false := by decide)
    (hpl : ((backTo pos (starEach [] X.env)).any (·.1) || (backToKw pos (keywordEach kws X.env)).any (·.1.isNone)) = false := by rfl) :
    QE X (.Call (.Name x p) [] kws pos) (eCK f gU aNil mk) := by
  obtain ⟨t, h1, h2⟩ := hkw.ex
  refine ⟨_, pe_kw0 F room hg hm hk hb h1 hall hks hdb hpl, sim_callK hgg ?_ h2⟩
  intro σ H α ρ M us M' Q R er e P
  cases e
  exact P [] α H R Ext.refl .nil
theorem qe_callK {kws : List Keyword} {ks : List Str} {mk : MA} {gg : List Value → List Value → List Value} {gV : List V → List V → List V} {gU : List U → List U → List U}
    (F : FnOk X.prog X.w X.K X.mg X.base CX0 k g fd ps (spOf X.K f)) (room : Room k X.A) (hg : Gl X x) (hm : X.mg x = some (.ref g)) (hk : PySem.W.keepIn X.K (.ref g) = true)
    (hb : KBinds X.K fd ps ks gg gV) (hgg : ∀ {α : List Addr} {G : Hp} {vs zs : List V} {us ws : List U}, VRs X.K α G vs us → VRs X.K α G zs ws → VRs X.K α G (gV vs zs) (gU us ws)) (ha : QA X (e :: es) m) (hkw : QK X kws mk) (hall : (backToKw pos (keywordEach kws X.env)).all (·.1.isSome) = true := by rfl)
    (hks : (backToKw pos (keywordEach kws X.env)).filterMap (·.1) = ks := by rfl) (hdb : (x == ("__debug__" : Str)) = false := by decide) (he : starEach (e :: es) X.env = (false, eval e X.env) :: starEach es X.env := by rfl)
    (hpl : ((backTo pos (starEach (e :: es) X.env)).any (·.1) || (backToKw pos (keywordEach kws X.env)).any (·.1.isNone)) = false := by rfl) :
    QE X (.Call (.Name x p) (e :: es) kws pos) (eCK f gU m mk) := by
  obtain ⟨t, h1, h2⟩ := hkw.ex
  obtain ⟨u, h3, h4⟩ := ha.ex
  exact ⟨_, pe_callK (E := E0) F room hg hm hk hb pass0 h3 h1 hall hks hdb he hpl, sim_callK hgg h4 h2⟩
end
end Pu

namespace Pu
open PySem PySem.Spec PyProof.Rows L2 Lw
open Classical

/-! ### the readings that the plain functions give -/
def tmE (K : PySem.W.Frag) (m : ME) : TE := fun σ H Q => ∃ (α : List Addr) (ρ : Env) (M : Mem) (u : U) (M' : Mem), Rp K α M H ∧ ER K α (fzH α M H) σ ρ ∧ m ρ M = some (u, M') ∧ Post K α (fzH α M H) u M' Q
def tmT (K : PySem.W.Frag) (m : MT) : TT := fun σ H Q => ∃ (α : List Addr) (ρ : Env) (M : Mem) (u : Bool) (M' : Mem), Rp K α M H ∧ ER K α (fzH α M H) σ ρ ∧ m ρ M = some (u, M') ∧ PostB K α (fzH α M H) u M' Q
theorem QE.can {X : Cx} {e : Expr} {m : ME} (h : QE X e m) : PE X e (tmE X.K m) := by
  obtain ⟨t, h1, h2⟩ := h.ex
  exact ⟨fun pins s σ H Q I ⟨α, ρ, M, u, M', R, er, e, P⟩ => h1.run pins s σ H Q I (h2 σ H α ρ M u M' Q R er e P)⟩
theorem sim_tmE {K : PySem.W.Frag} (m : ME) : SimE K (tmE K m) m := fun σ H α ρ M u M' Q R er e P => ⟨α, ρ, M, u, M', R, er, e, P⟩
theorem QT.can {X : Cx} {e : Expr} {m : MT} (h : QT X e m) : PT X e (tmT X.K m) := by
  obtain ⟨t, h1, h2⟩ := h.ex
  exact ⟨fun pins s σ H Q I ⟨α, ρ, M, u, M', R, er, e, P⟩ => h1.run pins s σ H Q I (h2 σ H α ρ M u M' Q R er e P)⟩
theorem sim_tmT {K : PySem.W.Frag} (m : MT) : SimT K (tmT K m) m := fun σ H α ρ M u M' Q R er e P => ⟨α, ρ, M, u, M', R, er, e, P⟩

/-! ### targets -/
abbrev MG := U → Env → Mem → Option (Env × Mem)
def PostG (K : PySem.W.Frag) (α : List Addr) (G : Hp) (σ : L2.St) (sl : List Nat) (ρ' : Env) (M' : Mem) (Q : L2.St → Hp → Prop) : Prop :=
  ∀ (σ' : L2.St) (α' : List Addr) (H' : Hp), Rp K α' M' H' → Ext α G α' (fzH α' M' H') → ER K α' (fzH α' M' H') σ' ρ' → (∀ i, i ∉ sl → σ'[i]? = σ[i]?) → Q σ' H'
def SimG (K : PySem.W.Frag) (t : TG) (sl : List Nat) (m : MG) : Prop :=
  ∀ (σ : L2.St) (H : Hp) (α : List Addr) (ρ : Env) (M : Mem) (v : V) (u : U) (ρ' : Env) (M' : Mem) (Q : L2.St → Hp → Prop), Rp K α M H → ER K α (fzH α M H) σ ρ → VR K α (fzH α M H) v u → m u ρ M = some (ρ', M') → PostG K α (fzH α M H) σ sl ρ' M' Q → t v σ H Q
structure QG (X : Cx) (tg : Expr) (sl : List Nat) (m : MG) : Prop where
  ex : ∃ t, PG X tg t ∧ SimG X.K t sl m
def tmG (K : PySem.W.Frag) (sl : List Nat) (m : MG) : TG := fun v σ H Q => ∃ (α : List Addr) (ρ : Env) (M : Mem) (u : U) (ρ' : Env) (M' : Mem), Rp K α M H ∧ ER K α (fzH α M H) σ ρ ∧ VR K α (fzH α M H) v u ∧ m u ρ M = some (ρ', M') ∧ PostG K α (fzH α M H) σ sl ρ' M' Q
theorem QG.can {X : Cx} {e : Expr} {sl : List Nat} {m : MG} (h : QG X e sl m) : PG X e (tmG X.K sl m) := by
  obtain ⟨t, h1, h2⟩ := h.ex
  exact ⟨fun pins s σ H v u Q I rv ⟨α, ρ, M, u', ρ', M', R, er, r, e, P⟩ => h1.run pins s σ H v u Q I rv (h2 σ H α ρ M v u' ρ' M' Q R er r e P)⟩
theorem sim_tmG {K : PySem.W.Frag} (sl : List Nat) (m : MG) : SimG K (tmG K sl m) sl m := fun σ H α ρ M v u ρ' M' Q R er r e P => ⟨α, ρ, M, u, ρ', M', R, er, r, e, P⟩
abbrev MGs := List U → Env → Mem → Option (Env × Mem)
def SimGs (K : PySem.W.Frag) (t : TGs) (sl : List Nat) (m : MGs) : Prop :=
  ∀ (σ : L2.St) (H : Hp) (α : List Addr) (ρ : Env) (M : Mem) (vs : List V) (us : List U) (ρ' : Env) (M' : Mem) (Q : L2.St → Hp → Prop), Rp K α M H → ER K α (fzH α M H) σ ρ → VRs K α (fzH α M H) vs us → m us ρ M = some (ρ', M') → PostG K α (fzH α M H) σ sl ρ' M' Q → t vs σ H Q
structure QGs (X : Cx) (tgs : List Expr) (sl : List Nat) (m : MGs) : Prop where
  ex : ∃ t, PGs X tgs t ∧ SimGs X.K t sl m
section
variable {X : Cx} {K : PySem.W.Frag} {pos : Pos}
def gNm (i : Nat) : MG := fun u ρ M => some (ρ.set i (some u), M)
theorem sim_gname {i : Nat} : SimG K (gName i) [i] (gNm i) := by
  intro σ H α ρ M v u ρ' M' Q R er r e P
  cases e
  refine P _ α H R Ext.refl (er.set r) fun j hj => ?_
  rw [List.getElem?_set_ne]
  simpa using fun z : i = j => hj (by simp [z])
theorem qg_name {i : Nat} {x : Str} (hN : X.N.Nodup) (hi : X.N[i]? = some x) (hx : Loc X.env.scope x) (hf : X.fn x = true ∨ X.env.scope.names.lookup x = some .local := by first | exact .inl rfl | exact .inr rfl | assumption) : QG X (.Name x pos) [i] (gNm i) :=
  ⟨_, pg_name hN hi hx hf, sim_gname⟩
def gN0 : MGs := fun us ρ M => match us with
  | [] => some (ρ, M)
  | _ => none
def gCn (m : MG) (n : MGs) : MGs := fun us ρ M => match us with
  | u :: us => match m u ρ M with
    | some (ρ1, M1) => n us ρ1 M1
    | none => none
  | [] => none
theorem qgs_nil : QGs X [] [] gN0 := ⟨_, pgs_nil, fun σ H α ρ M vs us ρ' M' Q R er r e P => by
  unfold gN0 at e
  split at e
  · cases e
    cases r
    exact ⟨rfl, P _ α H R Ext.refl er fun _ _ => rfl⟩
  · cases e⟩
theorem qgs_cons {e : Expr} {es : List Expr} {sl sl' : List Nat} {m : MG} {n : MGs} (h1 : QG X e sl m) (h2 : QGs X es sl' n)
    (hs : (assignEach (e :: es) X.env).map (·.2) = assign e X.env :: (assignEach es X.env).map (·.2) := by rfl) : QGs X (e :: es) (sl ++ sl') (gCn m n) := by
  obtain ⟨t, a1, a2⟩ := h1.ex
  obtain ⟨u, b1, b2⟩ := h2.ex
  refine ⟨_, pgs_cons a1 b1 hs, ?_⟩
  intro σ H α ρ M vs us ρ' M' Q R er r e P
  unfold gCn at e
  split at e
  · rename_i w ws
    split at e
    · rename_i ρ1 M1 e1
      cases r with
      | cons r1 r2 =>
        refine ⟨_, _, rfl, ?_⟩
        refine a2 σ H α ρ M _ w ρ1 M1 _ R er r1 e1 fun σ1 α1 H1 R1 x1 er1 k1 => ?_
        refine b2 σ1 H1 α1 ρ1 M1 _ ws ρ' M' Q R1 er1 (r2.ext x1) e fun σ2 α2 H2 R2 x2 er2 k2 => ?_
        refine P σ2 α2 H2 R2 (x1.trans x2) er2 fun i hi => ?_
        rw [k2 i fun z => hi (List.mem_append_right _ z), k1 i fun z => hi (List.mem_append_left _ z)]
    · cases e
  · cases e
def tupK : U → Option (List U)
  | .kt xs => allV xs
  | u => tupOf u
def gTp (n : Nat) (m : MGs) : MG := fun u ρ M => match tupK u with
  | some us => if us.length = n then m us ρ M else none
  | none => none
theorem tupK_ok {α : List Addr} {M : Mem} {H : Hp} {v : V} {u : U} {us : List U} (r : VR K α (fzH α M H) v u) (h : tupK u = some us) : ∃ a xs, v = .ref a ∧ SqT K H a xs ∧ VRs K α (fzH α M H) xs us := by
  unfold tupK at h
  split at h
  · cases r with
    | kt e => exact ⟨_, _, rfl, SqT.ext fzH_le e, allV_ok h⟩
  · obtain ⟨a, xs, e1, e2, e3⟩ := tupOf_ok r h
    exact ⟨a, xs, e1, SqT.of (fzH_le _ _ e2), e3⟩
theorem qg_tup {es : List Expr} {k : Nat} {sl : List Nat} {m : MGs} {n : Nat} (hc : X.calm = true) (h : QGs X es sl m)
    (hn : (assignEach es X.env).length = n := by rfl) (hst : (assignEach es X.env).findIdx? (·.1) = none := by rfl) : QG X (.Tuple es k pos) sl (gTp n m) := by
  obtain ⟨t, a1, a2⟩ := h.ex
  refine ⟨_, pg_tup hc a1 hn hst, ?_⟩
  intro σ H α ρ M v u ρ' M' Q R er r e P
  unfold gTp at e
  split at e
  · rename_i us e1
    split at e
    · rename_i hl
      obtain ⟨a, xs, rfl, hq, rs⟩ := tupK_ok r e1
      exact ⟨a, xs, rfl, hq, by rw [rs.length]; exact hl, a2 σ H α ρ M xs us ρ' M' Q R er rs e P⟩
    · cases e
  · cases e
/-- o[i] = .. -/
def gSb (mo mi : ME) : MG := fun u ρ M => match mo ρ M with
  | some (o, M1) => match mi ρ M1 with
    | some (.dat (.int k), M2) => match o with
      | .cell c => match (frzU u M2).2[c]? with
        | some (.lst f ws) => match ixN ws.length k with
          | some j => some (ρ, (frzU u M2).2.set c (.lst f (ws.set j (frzU u M2).1)))
          | none => none
        | _ => none
      | _ => none
    | _ => none
  | none => none
theorem qg_sub {o i : Expr} {mo mi : ME} (ho : QE X o mo) (hi : QE X i mi)
    (ha : ∀ v, assign (.Subscript o i pos) X.env v = (do
      let ov ← holding [v] (eval o X.env)
      let iv ← holding [v, ov] (eval i X.env)
      standAt pos
      holding [v, ov, iv] (setItem ov iv v)
      release [v, ov, iv] []) := by intro _; rfl) : QG X (.Subscript o i pos) [] (gSb mo mi) := by
  obtain ⟨to, o1, o2⟩ := ho.ex
  obtain ⟨ti, i1, i2⟩ := hi.ex
  refine ⟨_, pg_sub o1 i1 set_list ha, ?_⟩
  intro σ H α ρ M v u ρ' M' Q R er r e P
  unfold gSb at e
  split at e
  · rename_i w M1 e1
    split at e
    · rename_i k M2 e2
      split at e
      · rename_i c
        split at e
        · rename_i f ws hc
          split at e
          · rename_i j hj
            cases e
            refine o2 σ H α ρ M _ M1 _ R er e1 fun v1 α1 H1 R1 x1 r1 => ?_
            refine i2 σ H1 α1 ρ M1 _ M2 _ R1 (er.ext x1) e2 fun v2 α2 H2 R2 x2 r2 => ?_
            obtain ⟨R3, x3, r3⟩ := frzU_ok R2 (r.ext (x1.trans x2))
            have r1' := r1.ext (x2.trans x3)
            cases r1' with
            | cell hi =>
              rename_i p
              obtain ⟨hf, ys, hy, ry⟩ := R3.ok c p _ hi hc
              refine ⟨p, ys, k, j, rfl, vr_int r2, hy, by rw [ry.length]; exact hj, ?_⟩
              obtain ⟨R4, x4⟩ := R3.write (d := .lst f (ws.set j (frzU u M2).1)) (o := .lst (ys.set j v)) hi hc rfl rfl ⟨hf, _, upd_same, ry.set j r3⟩
              exact P _ _ _ R4 (x1.trans (x2.trans (x3.trans x4))) (er.ext (x1.trans (x2.trans (x3.trans x4)))) fun _ _ => rfl
          · cases e
        · cases e
      · cases e
    · cases e
  · cases e
end

/-! ### statements -/
inductive Out where
  | nx (ρ : Env)
  | rt (u : U)
  | bk (ρ : Env)
  | ct (ρ : Env)
abbrev MS := Env → Mem → Option (Out × Mem)
def PostS (K : PySem.W.Frag) (α : List Addr) (G : Hp) (o : Out) (M' : Mem) (D : Ends) : Prop :=
  ∀ (α' : List Addr) (H' : Hp), Rp K α' M' H' → Ext α G α' (fzH α' M' H') → match o with
    | .nx ρ' => ∀ σ', ER K α' (fzH α' M' H') σ' ρ' → D.nx σ' H'
    | .rt u => ∀ v, VR K α' (fzH α' M' H') v u → D.rt v H'
    | .bk ρ' => ∀ σ', ER K α' (fzH α' M' H') σ' ρ' → D.bk σ' H'
    | .ct ρ' => ∀ σ', ER K α' (fzH α' M' H') σ' ρ' → D.ct σ' H'
theorem PostS.after {K : PySem.W.Frag} {α α1 : List Addr} {G G1 : Hp} {o : Out} {M' : Mem} {D : Ends} (P : PostS K α G o M' D) (x : Ext α G α1 G1) : PostS K α1 G1 o M' D := fun α' H' R y => P α' H' R (x.trans y)
def SimS (K : PySem.W.Frag) (t : TS) (m : MS) : Prop :=
  ∀ (σ : L2.St) (H : Hp) (α : List Addr) (ρ : Env) (M : Mem) (o : Out) (M' : Mem) (D : Ends), Rp K α M H → ER K α (fzH α M H) σ ρ → m ρ M = some (o, M') → PostS K α (fzH α M H) o M' D → t D σ H
structure QS (X : Cx) (st : Stmt) (m : MS) : Prop where
  ex : ∃ t, PS X st t ∧ SimS X.K t m
structure QSs (X : Cx) (sts : List Stmt) (m : MS) : Prop where
  ex : ∃ t, PSs X sts t ∧ SimS X.K t m
def sNil : MS := fun ρ M => some (.nx ρ, M)
def sSeq (m n : MS) : MS := fun ρ M => match m ρ M with
  | some (.nx ρ1, M1) => n ρ1 M1
  | r => r
section
variable {X : Cx} {st : Stmt} {rest : List Stmt} {m n : MS} {e : Expr} {me : ME} {pos : Pos}
theorem qss_nil : QSs X [] sNil := ⟨_, pss_nil, fun σ H α ρ M o M' D R er e P => by cases e; exact P α H R Ext.refl σ er⟩
theorem qss_one (h : QS X st m) : QSs X [st] m := let ⟨t, h1, h2⟩ := h.ex; ⟨t, pss_one h1, h2⟩
theorem qss_cons (h1 : QS X st m) (h2 : QSs X rest n) : QSs X (st :: rest) (sSeq m n) := by
  obtain ⟨t, a1, a2⟩ := h1.ex
  obtain ⟨u, b1, b2⟩ := h2.ex
  refine ⟨_, pss_cons a1 b1, ?_⟩
  intro σ H α ρ M o M' D R er e P
  unfold sSeq at e
  split at e
  · rename_i ρ1 M1 e1
    refine a2 σ H α ρ M _ M1 _ R er e1 fun α' H' R' x σ' er' => ?_
    exact b2 σ' H' α' ρ1 M1 o M' D R' er' e (P.after x)
  · rename_i hne
    refine a2 σ H α ρ M o M' _ R er e fun α' H' R' x => ?_
    have q := P α' H' R' x
    cases o with
    | nx ρ' => exact (hne _ _ e).elim
    | rt u => exact q
    | bk ρ' => exact q
    | ct ρ' => exact q
def sRet (me : ME) : MS := fun ρ M => match me ρ M with
  | some (u, M1) => some (.rt u, M1)
  | none => none
theorem qs_ret (h : QE X e me) : QS X (.Return (some e) pos) (sRet me) := by
  obtain ⟨t, a1, a2⟩ := h.ex
  refine ⟨_, ps_ret a1, ?_⟩
  intro σ H α ρ M o M' D R er e P
  unfold sRet at e
  split at e
  · rename_i u M1 e1
    cases e
    exact a2 σ H α ρ M u _ _ R er e1 fun v α' H' R' x r => P α' H' R' x v r
  · cases e
def sRetN : MS := fun _ M => some (.rt (.dat .none), M)
theorem qs_retN : QS X (.Return none pos) sRetN := ⟨_, ps_retN, fun σ H α ρ M o M' D R er e P => by cases e; exact P α H R Ext.refl _ (.dat .non)⟩
def sDrop (me : ME) : MS := fun ρ M => match me ρ M with
  | some (_, M1) => some (.nx ρ, M1)
  | none => none
theorem qs_expr (h : QE X e me) (hs : swapsWith e none pos.line X.env = pure false := by rfl) : QS X (.Expr e pos) (sDrop me) := by
  obtain ⟨t, a1, a2⟩ := h.ex
  refine ⟨_, ps_expr a1 hs, ?_⟩
  intro σ H α ρ M o M' D R er e P
  unfold sDrop at e
  split at e
  · rename_i u M1 e1
    cases e
    exact a2 σ H α ρ M u _ _ R er e1 fun v α' H' R' x r => P α' H' R' x σ (er.ext x)
  · cases e
def sPass : MS := fun ρ M => some (.nx ρ, M)
theorem qs_pass : QS X (.Pass pos) sPass := ⟨_, ps_pass, fun σ H α ρ M o M' D R er e P => by cases e; exact P α H R Ext.refl σ er⟩
def sBreak : MS := fun ρ M => some (.bk ρ, M)
def sCont : MS := fun ρ M => some (.ct ρ, M)
theorem qs_break : QS X (.Break pos) sBreak := ⟨_, ps_break, fun σ H α ρ M o M' D R er e P => by cases e; exact P α H R Ext.refl σ er⟩
theorem qs_cont : QS X (.Continue pos) sCont := ⟨_, ps_continue, fun σ H α ρ M o M' D R er e P => by cases e; exact P α H R Ext.refl σ er⟩
def sIf (c : MT) (m n : MS) : MS := fun ρ M => match c ρ M with
  | some (true, M1) => m ρ M1
  | some (false, M1) => n ρ M1
  | none => none
theorem qs_if {c : Expr} {a b : List Stmt} {mc : MT} (hc : QT X c mc) (ha : QSs X a m) (hb : QSs X b n) : QS X (.If c a b pos) (sIf mc m n) := by
  obtain ⟨t, c1, c2⟩ := hc.ex
  obtain ⟨u, a1, a2⟩ := ha.ex
  obtain ⟨v, b1, b2⟩ := hb.ex
  refine ⟨_, ps_if c1 a1 b1, ?_⟩
  intro σ H α ρ M o M' D R er e P
  unfold sIf at e
  split at e
  · rename_i M1 e1
    refine c2 σ H α ρ M _ M1 _ R er e1 fun α' H' R' x => ?_
    rw [if_pos rfl]
    exact a2 σ H' α' ρ M1 o M' D R' (er.ext x) e (P.after x)
  · rename_i M1 e1
    refine c2 σ H α ρ M _ M1 _ R er e1 fun α' H' R' x => ?_
    rw [if_neg (by decide)]
    exact b2 σ H' α' ρ M1 o M' D R' (er.ext x) e (P.after x)
  · cases e
def sAsg (me : ME) (g : MG) : MS := fun ρ M => match me ρ M with
  | some (u, M1) => match g u ρ M1 with
    | some (ρ', M2) => some (.nx ρ', M2)
    | none => none
  | none => none
theorem sim_asg {K : PySem.W.Frag} {te : TE} {tg : TG} {sl : List Nat} {g : MG} (a2 : SimE K te me) (b2 : SimG K tg sl g) : SimS K (tAsg te tg) (sAsg me g) := by
  intro σ H α ρ M o M' D R er e P
  unfold sAsg at e
  split at e
  · rename_i u M1 e1
    split at e
    · rename_i ρ' M2 e2
      cases e
      refine a2 σ H α ρ M u M1 _ R er e1 fun v α' H' R' x r => ?_
      exact b2 σ H' α' ρ M1 v u ρ' _ _ R' (er.ext x) r e2 fun σ2 α2 H2 R2 x2 er2 _ => P α2 H2 R2 (x.trans x2) σ2 er2
    · cases e
  · cases e
theorem qs_set {i : Nat} {x : Str} {pos' : Pos} (hN : X.N.Nodup) (hi : X.N[i]? = some x) (hx : Loc X.env.scope x) (he : QE X e me) (hs : swapsWith e (some (.Name x pos')) pos.line X.env = pure false := by rfl) (hf : X.fn x = true ∨ X.env.scope.names.lookup x = some .local := by first | exact .inl rfl | exact .inr rfl | assumption) :
    QS X (.Assign [.Name x pos'] e pos) (sAsg me (gNm i)) := by
  obtain ⟨t, a1, a2⟩ := he.ex
  exact ⟨_, ps_set hN hi hx a1 hs hf, sim_asg a2 sim_gname⟩
theorem qs_asg {tg : Expr} {sl : List Nat} {g : MG} (he : QE X e me) (hg : QG X tg sl g) (hs : swapsWithSole [tg] e pos.line X.env = pure false := by rfl) (hw : swappedStores [tg] e X.env = pure none := by rfl)
    (h1 : (assignEach [tg] X.env).map (·.2) = [assign tg X.env] := by rfl) : QS X (.Assign [tg] e pos) (sAsg me g) := by
  obtain ⟨t, a1, a2⟩ := he.ex
  obtain ⟨u, b1, b2⟩ := hg.ex
  exact ⟨_, ps_asg a1 b1 hs hw h1, sim_asg a2 b2⟩
/-- a, b = x, y -/
def sPar (i j : Nat) (m : MA) : MS := fun ρ M => match m ρ M with
  | some ([u, w], M1) => some (.nx ((ρ.set i (some u)).set j (some w)), M1)
  | _ => none
theorem qs_par {i j : Nat} {x y : Str} {a b : Expr} {ma : MA} {px py pt : Pos} {kt k2 pt2} (hc : X.calm = true) (hN : X.N.Nodup) (hi : X.N[i]? = some x) (hj : X.N[j]? = some y) (hij : i ≠ j)
    (hx : X.env.scope.names.lookup x = some .local) (hy : X.env.scope.names.lookup y = some .local) (ha : QA X [a, b] ma)
    (hw : swappedStores [.Tuple [.Name x px, .Name y py] kt pt] (.Tuple [a, b] k2 pt2) X.env = pure (some [x, y]))
    (hs : swapsWithSole [.Tuple [.Name x px, .Name y py] kt pt] (.Tuple [a, b] k2 pt2) pos.line X.env = pure false := by rfl) :
    QS X (.Assign [.Tuple [.Name x px, .Name y py] kt pt] (.Tuple [a, b] k2 pt2) pos) (sPar i j ma) := by
  obtain ⟨t, a1, a2⟩ := ha.ex
  refine ⟨_, ps_par hc hN hi hj hij hx hy a1 hw hs, ?_⟩
  intro σ H α ρ M o M' D R er e P
  unfold sPar at e
  split at e
  · rename_i u w M1 e1
    cases e
    refine a2 σ H α ρ M _ _ _ R er e1 fun vs α' H' R' x r => ?_
    obtain ⟨v1, v2, rfl, r1, r2⟩ := vrs2 r
    exact ⟨v1, v2, rfl, P α' H' R' x _ (((er.ext x).set r1).set r2)⟩
  · cases e
/-- x += e -/
def sAug (i : Nat) (me : ME) : MS := fun ρ M => match ρ[i]? with
  | some (some (.dat (.int a))) => match me ρ M with
    | some (.dat (.int b), M1) => some (.nx (ρ.set i (some (.dat (.int (a + b))))), M1)
    | _ => none
  | _ => none
theorem qs_augAdd {i : Nat} {x : Str} {pos' : Pos} (hN : X.N.Nodup) (hi : X.N[i]? = some x) (hx : Loc X.env.scope x) (he : QE X e me) (hf : X.fn x = true ∨ X.env.scope.names.lookup x = some .local := by first | exact .inl rfl | exact .inr rfl | assumption) :
    QS X (.AugAssign (.Name x pos') .Add e pos) (sAug i me) := by
  obtain ⟨t, a1, a2⟩ := he.ex
  refine ⟨_, ps_aug hN hi hx a1 ip_add hf, ?_⟩
  intro σ H α ρ M o M' D R er e P
  unfold sAug at e
  split at e
  · rename_i a ea
    split at e
    · rename_i b M1 e1
      cases e
      obtain ⟨v, e2, r2⟩ := er.2 i _ ea
      refine ⟨v, e2, ?_⟩
      refine a2 σ H α ρ M _ _ _ R er e1 fun v1 α' H' R' x r => ⟨a, b, vr_int r2, vr_int r, ?_⟩
      exact P α' H' R' x _ ((er.ext x).set (.dat (.int _)))
    · cases e
  · cases e
end

/-! ### what is walked -/
abbrev MI := Env → Mem → Option ((List U × List Nat) × Mem)
def Wt (M0 : Mem) (ws : List Nat) (M : Mem) : Prop := ∀ c ∈ ws, M[c]? = M0[c]?
def IterOk (K : PySem.W.Frag) (J : It) (α0 : List Addr) (G0 : Hp) (M0 : Mem) (items : List U) (ws : List Nat) : Prop :=
  ∀ (i : Nat) (α : List Addr) (M : Mem) (H : Hp), Rp K α M H → Ext α0 G0 α (fzH α M H) → Wt M0 ws M →
    (∀ u, items[i]? = some u → J.go i H ∧ ∀ x H', J.yld i H x H' → Rp K α M H' ∧ Ext α (fzH α M H) α (fzH α M H') ∧ VR K α (fzH α M H') x u) ∧ (items.length ≤ i → J.stop i H)
def PostI (K : PySem.W.Frag) (α : List Addr) (G : Hp) (items : List U) (ws : List Nat) (M' : Mem) (R : It → Hp → Prop) : Prop :=
  ∀ (J : It) (α' : List Addr) (H' : Hp), Rp K α' M' H' → Ext α G α' (fzH α' M' H') → IterOk K J α' (fzH α' M' H') M' items ws → R J H'
def SimI (K : PySem.W.Frag) (t : L2.TI) (m : MI) : Prop :=
  ∀ (σ : L2.St) (H : Hp) (α : List Addr) (ρ : Env) (M : Mem) (items : List U) (ws : List Nat) (M' : Mem) (R : It → Hp → Prop), Rp K α M H → ER K α (fzH α M H) σ ρ → m ρ M = some ((items, ws), M') → PostI K α (fzH α M H) items ws M' R → t σ H R
structure QI (X : Cx) (tg e : Expr) (m : MI) : Prop where
  ex : ∃ t, PI X tg e t ∧ SimI X.K t m
def tmI (K : PySem.W.Frag) (m : MI) : L2.TI := fun σ H R => ∃ (α : List Addr) (ρ : Env) (M : Mem) (items : List U) (ws : List Nat) (M' : Mem), Rp K α M H ∧ ER K α (fzH α M H) σ ρ ∧ m ρ M = some ((items, ws), M') ∧ PostI K α (fzH α M H) items ws M' R
theorem QI.can {X : Cx} {tg e : Expr} {m : MI} (h : QI X tg e m) : PI X tg e (tmI X.K m) := by
  obtain ⟨t, h1, h2⟩ := h.ex
  exact ⟨fun pins s σ H R I ⟨α, ρ, M, items, ws, M', Rr, er, e, P⟩ => h1.run pins s σ H R I (h2 σ H α ρ M items ws M' R Rr er e P)⟩
theorem sim_tmI {K : PySem.W.Frag} (m : MI) : SimI K (tmI K m) m := fun σ H α ρ M items ws M' R Rr er e P => ⟨α, ρ, M, items, ws, M', Rr, er, e, P⟩
/-- the cells of a value that is walked -/
def cellsOf : U → List Nat
  | .cell c => [c]
  | _ => []
theorem seqOf_wt {M0 M : Mem} {u : U} (w : Wt M0 (cellsOf u) M) : seqOf M u = seqOf M0 u := by
  cases u with
  | cell c =>
    have e : M[c]? = M0[c]? := w c (by simp [cellsOf])
    show (match tupOf (.cell c) with
      | some us => some us
      | none => lstOf M (.cell c)) = (match tupOf (.cell c) with
      | some us => some us
      | none => lstOf M0 (.cell c))
    simp only [tupOf, lstOf, e]
  | dat d => cases d <;> rfl
  | _ => rfl
theorem SqL.inj {X : Cx} : True := trivial
def iSeq (me : ME) : MI := fun ρ M => match me ρ M with
  | some (u, M1) => match seqOf M1 u with
    | some us => some ((us, cellsOf u), M1)
    | none => none
  | none => none
section
variable {X : Cx} {tg e : Expr} {me : ME}
theorem PI.or {w w' : L2.TI} (h : PI X tg e w) (h' : PI X tg e w') : PI X tg e (fun σ H R => w σ H R ∨ w' σ H R) :=
  ⟨fun pins s σ H R I q => q.elim (h.run pins s σ H R I) (h'.run pins s σ H R I)⟩
theorem iter_list {K : PySem.W.Frag} {a : Addr} {u : U} {us : List U} {α0 : List Addr} {M0 : Mem} {H0 : Hp} (r : VR K α0 (fzH α0 M0 H0) (.ref a) u) (h : seqOf M0 u = some us)
    (hl : ∀ (α : List Addr) (M : Mem) (H : Hp), Rp K α M H → VR K α (fzH α M H) (.ref a) u → seqOf M u = some us → ∃ xs, H a = some (.lst xs) ∨ SqL K H a xs) : True := trivial
theorem qi_seq (h : QE X e me) : QI X tg e (iSeq me) := by
  obtain ⟨t, h1, h2⟩ := h.ex
  refine ⟨_, PI.or (pi_list h1) (pi_tup h1), ?_⟩
  intro σ H α ρ M items ws M' R Rr er e P
  unfold iSeq at e
  split at e
  · rename_i u M1 e1
    split at e
    · rename_i us e2
      cases e
      by_cases hk : (tupOf u).isSome = true ∨ ∃ xs, u = .kt xs
      · refine .inr (h2 σ H α ρ M u _ _ Rr er e1 fun v α' H' R' x r => ?_)
        have tp : ∀ (α2 : List Addr) (M2 : Mem) (H2 : Hp), Rp X.K α2 M2 H2 → ∀ {v2 : V}, VR X.K α2 (fzH α2 M2 H2) v2 u → ∃ a xs, v2 = .ref a ∧ SqT X.K H2 a xs ∧ VRs X.K α2 (fzH α2 M2 H2) xs items := by
          intro α2 M2 H2 R2 v2 r2
          rcases hk with hk | ⟨xs, rfl⟩
          · obtain ⟨zs, hz⟩ := Option.isSome_iff_exists.mp hk
            have ez : zs = items := by
              have q := e2
              unfold seqOf at q
              split at q
              · cases hz
              · cases hz
              · rw [hz] at q
                exact Option.some.inj q
            subst ez
            obtain ⟨a, xs, q1, q2, q3⟩ := tupOf_ok r2 hz
            exact ⟨a, xs, q1, SqT.of (fzH_le _ _ q2), q3⟩
          · cases r2 with
            | kt q => exact ⟨_, xs, rfl, SqT.ext fzH_le q, allV_ok e2⟩
        obtain ⟨a, xs, rfl, hq, rs⟩ := tp α' _ H' R' r
        refine ⟨a, rfl, ⟨xs, hq⟩, P _ α' H' R' x fun i α2 M2 H2 R2 x2 w2 => ?_⟩
        obtain ⟨a', ys, ea, hq2, rs2⟩ := tp α2 M2 H2 R2 (r.ext x2)
        cases ea
        refine ⟨fun w hw => ?_, fun hl => ⟨ys, hq2, by rw [rs2.length]; exact hl⟩⟩
        obtain ⟨y, hy, ry⟩ := rs2.get i hw
        refine ⟨⟨ys, y, hq2, hy⟩, fun z H3 hz => ?_⟩
        obtain ⟨rfl, hz⟩ := hz
        have := hz ys hq2
        rw [hy] at this
        cases this
        exact ⟨R2, Ext.refl, ry⟩
      · refine .inl (h2 σ H α ρ M u _ _ Rr er e1 fun v α' H' R' x r => ?_)
        have tp : ∀ (α2 : List Addr) (M2 : Mem) (H2 : Hp), Rp X.K α2 M2 H2 → seqOf M2 u = some items → ∀ {v2 : V}, VR X.K α2 (fzH α2 M2 H2) v2 u → ∃ a xs, v2 = .ref a ∧ SqL X.K H2 a xs ∧ VRs X.K α2 (fzH α2 M2 H2) xs items := by
          intro α2 M2 H2 R2 q v2 r2
          unfold seqOf at q
          split at q
          · cases q
            cases r2 with
            | scr z => exact ⟨_, _, rfl, SqL.ext fzH_le z, vrs_ints _⟩
          · exact absurd (.inr ⟨_, rfl⟩) hk
          · split at q
            · rename_i hz
              exact absurd (.inl (by rw [hz]; rfl)) hk
            · obtain ⟨a, xs, q1, q2, q3⟩ := lstOf_ok R2 r2 q
              exact ⟨a, xs, q1, SqL.of q2, q3⟩
        obtain ⟨a, xs, rfl, hq, rs⟩ := tp α' _ H' R' e2 r
        refine ⟨a, rfl, ⟨xs, hq⟩, P _ α' H' R' x fun i α2 M2 H2 R2 x2 w2 => ?_⟩
        obtain ⟨a', ys, ea, hq2, rs2⟩ := tp α2 M2 H2 R2 (by rw [seqOf_wt w2]; exact e2) (r.ext x2)
        cases ea
        refine ⟨fun w hw => ?_, fun hl => ⟨ys, hq2, by rw [rs2.length]; exact hl⟩⟩
        obtain ⟨y, hy, ry⟩ := rs2.get i hw
        refine ⟨⟨ys, y, hq2, hy⟩, fun z H3 hz => ?_⟩
        obtain ⟨rfl, hz⟩ := hz
        have := hz ys hq2
        rw [hy] at this
        cases this
        exact ⟨R2, Ext.refl, ry⟩
    · cases e
  · cases e
/-- the signs of a text -/
def signsOf (z : Str) : List U := z.cps.toList.map fun c => .dat (.str ⟨#[c]⟩)
def iTxt (me : ME) : MI := fun ρ M => match me ρ M with
  | some (.dat (.str z), M1) => some ((signsOf z, []), M1)
  | _ => none
/-- range -/
def rangeU (lo : Int) (n : Nat) : List U := (List.range n).map fun (k : Nat) => .dat (.int (lo + (k : Int)))
def iRg1 (m : MA) : MI := fun ρ M => match m ρ M with
  | some ([.dat (.int j)], M1) => if -(2 ^ 62) ≤ j ∧ j < 2 ^ 62 then some ((rangeU 0 j.toNat, []), M1) else none
  | _ => none
def iRg2 (m : MA) : MI := fun ρ M => match m ρ M with
  | some ([.dat (.int i), .dat (.int j)], M1) => if -(2 ^ 62) ≤ i ∧ i < 2 ^ 62 ∧ -(2 ^ 62) ≤ j ∧ j < 2 ^ 62 then some ((rangeU i (j - i).toNat, []), M1) else none
  | _ => none
theorem iter_range {K : PySem.W.Frag} {lo : Int} {n : Nat} {α0 : List Addr} {G0 : Hp} {M0 : Mem} : IterOk K (Itr lo n) α0 G0 M0 (rangeU lo n) [] := by
  intro i α M H R x w
  refine ⟨fun u hu => ?_, fun hl => ?_⟩
  · unfold rangeU at hu
    rw [List.getElem?_map] at hu
    obtain ⟨k, h1, h2⟩ := Option.map_eq_some_iff.mp hu
    obtain ⟨h3, h4⟩ := List.getElem?_eq_some_iff.mp h1
    rw [List.length_range] at h3
    rw [List.getElem_range] at h4
    subst h4 h2
    refine ⟨h3, fun y H' hy => ?_⟩
    obtain ⟨rfl, rfl⟩ := hy
    exact ⟨R, Ext.refl, .dat (.int _)⟩
  · unfold rangeU at hl
    rw [List.length_map, List.length_range] at hl
    exact hl
theorem qi_range1 {a : Expr} {m : MA} {p pos : Pos} (hg : Gl X "range") (hm : X.mg "range" = none) (ha : QA X [a] m) (hs : starEach [a] X.env = [(false, eval a X.env)] := by rfl) : QI X tg (.Call (.Name "range" p) [a] [] pos) (iRg1 m) := by
  obtain ⟨t, h1, h2⟩ := ha.ex
  refine ⟨_, pi_range1 hg hm h1 hs, ?_⟩
  intro σ H α ρ M items ws M' R Rr er e P
  unfold iRg1 at e
  split at e
  · rename_i j M1 e1
    split at e
    · rename_i hz
      cases e
      refine h2 σ H α ρ M _ _ _ Rr er e1 fun vs α' H' R' x r => ?_
      obtain ⟨v, rfl, rv⟩ := vrs1 r
      exact ⟨j, by rw [vr_int rv], hz.1, hz.2, P _ α' H' R' x iter_range⟩
    · cases e
  · cases e
theorem qi_range2 {a b : Expr} {m : MA} {p pos : Pos} (hg : Gl X "range") (hm : X.mg "range" = none) (ha : QA X [a, b] m) (hs : starEach [a, b] X.env = [(false, eval a X.env), (false, eval b X.env)] := by rfl) (hs2 : starEach [b] X.env = [(false, eval b X.env)] := by rfl) :
    QI X tg (.Call (.Name "range" p) [a, b] [] pos) (iRg2 m) := by
  obtain ⟨t, h1, h2⟩ := ha.ex
  refine ⟨_, pi_range2 hg hm h1 hs hs2, ?_⟩
  intro σ H α ρ M items ws M' R Rr er e P
  unfold iRg2 at e
  split at e
  · rename_i i j M1 e1
    split at e
    · rename_i hz
      cases e
      refine h2 σ H α ρ M _ _ _ Rr er e1 fun vs α' H' R' x r => ?_
      obtain ⟨v, w, rfl, rv, rw'⟩ := vrs2 r
      exact ⟨i, j, by rw [vr_int rv, vr_int rw'], hz, P _ α' H' R' x iter_range⟩
    · cases e
  · cases e
end

/-! ### for -/
noncomputable def forM (wt : Mem → Prop) (g : MG) (b : MS) : List U → MS
  | [], ρ, M => some (.nx ρ, M)
  | u :: us, ρ, M => match g u ρ M with
    | some (ρ1, M1) => match b ρ1 M1 with
      | some (.nx ρ2, M2) => if wt M2 then forM wt g b us ρ2 M2 else none
      | some (.ct ρ2, M2) => if wt M2 then forM wt g b us ρ2 M2 else none
      | some (.bk ρ2, M2) => some (.nx ρ2, M2)
      | some (.rt v, M2) => some (.rt v, M2)
      | none => none
    | none => none
noncomputable def sFor (mi : MI) (g : MG) (b : MS) : MS := fun ρ M => match mi ρ M with
  | some ((items, ws), M1) => forM (Wt M1 ws) g b items ρ M1
  | none => none
theorem sim_for {K : PySem.W.Frag} {wi : L2.TI} {tg : TG} {tb : TS} {sl : List Nat} {mi : MI} {g : MG} {b : MS} (hi : SimI K wi mi) (hg : SimG K tg sl g) (hb : SimS K tb b) : SimS K (tFor wi tg tb) (sFor mi g b) := by
  intro σ H α ρ M o M' D R er e P
  unfold sFor at e
  split at e
  · rename_i items ws M1 e1
    refine hi σ H α ρ M items ws M1 _ R er e1 fun J α1 H1 R1 x1 ok => ?_
    refine ⟨fun i m σ' H' => m = items.length - i ∧ i ≤ items.length ∧ ∃ (α' : List Addr) (ρ' : Env) (M2 : Mem), Rp K α' M2 H' ∧ ER K α' (fzH α' M2 H') σ' ρ' ∧ Ext α1 (fzH α1 M1 H1) α' (fzH α' M2 H') ∧ Wt M1 ws M2 ∧ forM (Wt M1 ws) g b (items.drop i) ρ' M2 = some (o, M'), ⟨items.length, by simp, Nat.zero_le _, α1, ρ, M1, R1, er.ext x1, Ext.refl, fun _ _ => rfl, e⟩, ?_⟩
    rintro i m σ' H' ⟨rfl, hle, α', ρ', M2, R2, er2, x2, w2, e2⟩
    by_cases hlt : i < items.length
    · have hd : items.drop i = items[i] :: items.drop (i + 1) := List.drop_eq_getElem_cons hlt
      rw [hd] at e2
      unfold forM at e2
      split at e2
      · rename_i ρ3 M3 e3
        obtain ⟨ok1, _⟩ := ok i α' M2 H' R2 x2 w2
        obtain ⟨go, yl⟩ := ok1 items[i] (List.getElem?_eq_getElem hlt)
        refine .inr ⟨go, fun σ4 H4 => ∃ m', m' < items.length - i ∧ m' = items.length - (i + 1) ∧ i + 1 ≤ items.length ∧ ∃ (α' : List Addr) (ρ' : Env) (M2 : Mem), Rp K α' M2 H4 ∧ ER K α' (fzH α' M2 H4) σ4 ρ' ∧ Ext α1 (fzH α1 M1 H1) α' (fzH α' M2 H4) ∧ Wt M1 ws M2 ∧ forM (Wt M1 ws) g b (items.drop (i + 1)) ρ' M2 = some (o, M'), fun _ _ z => z, fun y H3 hy => ?_⟩
        obtain ⟨R3, x3, r3⟩ := yl y H3 hy
        refine hg σ' H3 α' ρ' M2 y items[i] ρ3 M3 _ R3 (er2.ext x3) r3 e3 fun σ4 α4 H4 R4 x4 er4 _ => ?_
        have x14 := x1.trans (x2.trans (x3.trans x4))
        have x24 := x2.trans (x3.trans x4)
        have go2 : ∀ (o2 : Out) (M5 : Mem), b ρ3 M3 = some (o2, M5) → (∀ ρ5, (o2 = .nx ρ5 ∨ o2 = .ct ρ5) → Wt M1 ws M5 ∧ forM (Wt M1 ws) g b (items.drop (i + 1)) ρ5 M5 = some (o, M')) →
            (∀ ρ5, o2 = .bk ρ5 → o = .nx ρ5 ∧ M' = M5) → (∀ v, o2 = .rt v → o = .rt v ∧ M' = M5) → tb { D with
              nx := fun σ4 H4 => ∃ m', m' < items.length - i ∧ m' = items.length - (i + 1) ∧ i + 1 ≤ items.length ∧ ∃ (α' : List Addr) (ρ' : Env) (M2 : Mem), Rp K α' M2 H4 ∧ ER K α' (fzH α' M2 H4) σ4 ρ' ∧ Ext α1 (fzH α1 M1 H1) α' (fzH α' M2 H4) ∧ Wt M1 ws M2 ∧ forM (Wt M1 ws) g b (items.drop (i + 1)) ρ' M2 = some (o, M'),
              ct := fun σ4 H4 => ∃ m', m' < items.length - i ∧ m' = items.length - (i + 1) ∧ i + 1 ≤ items.length ∧ ∃ (α' : List Addr) (ρ' : Env) (M2 : Mem), Rp K α' M2 H4 ∧ ER K α' (fzH α' M2 H4) σ4 ρ' ∧ Ext α1 (fzH α1 M1 H1) α' (fzH α' M2 H4) ∧ Wt M1 ws M2 ∧ forM (Wt M1 ws) g b (items.drop (i + 1)) ρ' M2 = some (o, M'),
              bk := D.nx } σ4 H4 := by
          intro o2 M5 e5 hn hbk hrt
          refine hb σ4 H4 α4 ρ3 M3 o2 M5 _ R4 er4 e5 fun α5 H5 R5 x5 => ?_
          cases o2 with
          | nx ρ5 =>
            intro σ5 er5
            obtain ⟨w5, e6⟩ := hn ρ5 (.inl rfl)
            exact ⟨_, by omega, rfl, hlt, α5, ρ5, M5, R5, er5, x24.trans x5, w5, e6⟩
          | ct ρ5 =>
            intro σ5 er5
            obtain ⟨w5, e6⟩ := hn ρ5 (.inr rfl)
            exact ⟨_, by omega, rfl, hlt, α5, ρ5, M5, R5, er5, x24.trans x5, w5, e6⟩
          | bk ρ5 =>
            obtain ⟨rfl, rfl⟩ := hbk ρ5 rfl
            exact P α5 H5 R5 (x14.trans x5)
          | rt v =>
            obtain ⟨rfl, rfl⟩ := hrt v rfl
            exact P α5 H5 R5 (x14.trans x5)
        split at e2
        · rename_i ρ5 M5 e5
          split at e2
          · rename_i hw
            exact go2 _ M5 e5 (fun ρ6 z => by rcases z with z | z <;> cases z; exact ⟨hw, e2⟩) (fun _ z => by cases z) (fun _ z => by cases z)
          · cases e2
        · rename_i ρ5 M5 e5
          split at e2
          · rename_i hw
            exact go2 _ M5 e5 (fun ρ6 z => by rcases z with z | z <;> cases z; exact ⟨hw, e2⟩) (fun _ z => by cases z) (fun _ z => by cases z)
          · cases e2
        · rename_i ρ5 M5 e5
          cases e2
          exact go2 _ _ e5 (fun ρ6 z => by rcases z with z | z <;> cases z) (fun _ z => by cases z; exact ⟨rfl, rfl⟩) (fun _ z => by cases z)
        · rename_i v M5 e5
          cases e2
          exact go2 _ _ e5 (fun ρ6 z => by rcases z with z | z <;> cases z) (fun _ z => by cases z) (fun _ z => by cases z; exact ⟨rfl, rfl⟩)
        · cases e2
      · cases e2
    · have hi' : i = items.length := by omega
      subst hi'
      rw [List.drop_length] at e2
      cases e2
      obtain ⟨_, st⟩ := ok items.length α' _ H' R2 x2 w2
      exact .inl ⟨st (Nat.le_refl _), P α' H' R2 (x1.trans x2) σ' er2⟩
  · cases e
theorem qs_for {X : Cx} {tg iter : Expr} {body : List Stmt} {sl : List Nat} {mi : MI} {g : MG} {b : MS} {pos : Pos} (hp : PassesOwn (model X.prog X.w) X.A X.env X.xe) (hc : X.calm = true) (hi : QI X tg iter mi) (hg : QG X tg sl g) (hb : QSs X body b)
    (hs : ∀ x, foldedSetIterable iter X.env x = pure x := by intro _; rfl) : QS X (.For tg iter body [] pos) (sFor mi g b) := by
  obtain ⟨t, h1, h2⟩ := hi.ex
  obtain ⟨u, h3, h4⟩ := hg.ex
  obtain ⟨v, h5, h6⟩ := hb.ex
  exact ⟨_, ps_for hp hc h1 h3 h5 hs, sim_for h2 h4 h6⟩
end Pu

namespace Pu
open PySem PySem.Spec PyProof.Rows L2 Lw
open Classical

/-! ### more that is walked -/
def isTp (u : U) : Bool := (tupK u).isSome
theorem seq_tup {K : PySem.W.Frag} {u : U} {M0 : Mem} {items : List U} (hk : isTp u = true) (e : seqOf M0 u = some items) {α : List Addr} {M : Mem} {H : Hp} {v : V} (r : VR K α (fzH α M H) v u) :
    ∃ a xs, v = .ref a ∧ SqT K H a xs ∧ VRs K α (fzH α M H) xs items := by
  obtain ⟨us, hu⟩ := Option.isSome_iff_exists.mp (show (tupK u).isSome = true from hk)
  have ez : us = items := by
    unfold seqOf at e
    unfold tupK at hu
    split at e
    · cases hu
    · exact Option.some.inj (hu.symm.trans e)
    · rename_i h1 h2
      split at hu
      · exact absurd rfl (h2 _)
      · rw [hu] at e
        exact Option.some.inj e
  subst ez
  exact tupK_ok r hu
theorem seq_lst {K : PySem.W.Frag} {u : U} {items : List U} (hk : isTp u = false) {α : List Addr} {M : Mem} {H : Hp} {v : V} (R : Rp K α M H) (e : seqOf M u = some items) (r : VR K α (fzH α M H) v u) :
    ∃ a xs, v = .ref a ∧ SqL K H a xs ∧ VRs K α (fzH α M H) xs items := by
  have gen : ∀ w : U, u = w → VR K α (fzH α M H) v w → tupOf w = none → lstOf M w = some items → ∃ a xs, v = .ref a ∧ SqL K H a xs ∧ VRs K α (fzH α M H) xs items := by
    intro w _ rw' _ q
    obtain ⟨a, xs, q1, q2, q3⟩ := lstOf_ok R rw' q
    exact ⟨a, xs, q1, SqL.of q2, q3⟩
  cases u with
  | scr ns =>
    cases e
    cases r with
    | scr z => exact ⟨_, _, rfl, SqL.ext fzH_le z, vrs_ints _⟩
  | kt xs =>
    have h1 : (allV xs).isSome = false := hk
    have h2 : allV xs = some items := e
    rw [h2] at h1
    cases h1
  | dat d =>
    have h1 : (tupOf (.dat d)).isSome = false := hk
    have h2 : tupOf (.dat d) = none := Option.isSome_eq_false_iff.mp h1 |> Option.isNone_iff_eq_none.mp
    refine gen _ rfl r h2 ?_
    unfold seqOf at e
    simp only [h2] at e
    exact e
  | cell c => exact gen _ rfl r rfl e
  | tupc us => cases hk
  | adr a => exact gen _ rfl r rfl e
  | ty n => exact gen _ rfl r rfl e
section
variable {X : Cx} {tg e e2 : Expr} {me : ME} {m : MA} {p pos tpos : Pos} {elts : List Expr} {kk : Nat}
theorem qi_txt (h : QE X e me) : QI X tg e (iTxt me) := by
  obtain ⟨t, h1, h2⟩ := h.ex
  refine ⟨_, pi_str h1, ?_⟩
  intro σ H α ρ M items ws M' R Rr er e P
  unfold iTxt at e
  split at e
  · rename_i z M1 e1
    cases e
    refine h2 σ H α ρ M _ _ _ Rr er e1 fun v α' H' R' x r => ⟨z, vr_str r, P _ α' H' R' x fun i α2 M2 H2 R2 x2 w2 => ⟨fun u hu => ?_, fun hl => ?_⟩⟩
    · unfold signsOf at hu
      rw [List.getElem?_map] at hu
      obtain ⟨c, h3, h4⟩ := Option.map_eq_some_iff.mp hu
      subst h4
      have hc : z.cps[i]? = some c := by rw [← Array.getElem?_toList]; exact h3
      refine ⟨(Array.getElem?_eq_some_iff.mp hc).1, fun y H3 hy => ?_⟩
      obtain ⟨rfl, c', hc', rfl⟩ := hy
      rw [hc] at hc'
      cases hc'
      exact ⟨R2, Ext.refl, .dat (.str _)⟩
    · unfold signsOf at hl
      rw [List.length_map, Array.length_toList] at hl
      exact hl
  · cases e
/-- a row, or a text -/
def iAny (me : ME) : MI := fun ρ M => match iSeq me ρ M with
  | some r => some r
  | none => iTxt me ρ M
theorem qi_any (h : QE X e me) : QI X tg e (iAny me) := by
  obtain ⟨t, h1, h2⟩ := (qi_seq (tg := tg) h).ex
  obtain ⟨t', h3, h4⟩ := (qi_txt (tg := tg) h).ex
  refine ⟨_, PI.or h1 h3, ?_⟩
  intro σ H α ρ M items ws M' R Rr er e P
  unfold iAny at e
  split at e
  · rename_i q
    cases e
    exact .inl (h2 σ H α ρ M items ws M' R Rr er q P)
  · exact .inr (h4 σ H α ρ M items ws M' R Rr er e P)
/-- enumerate -/
def enumU : List U → Nat → List U
  | [], _ => []
  | u :: us, n => mkTup [.dat (.int (n : Nat)), u] :: enumU us (n + 1)
theorem enumU_len : ∀ (us : List U) (n : Nat), (enumU us n).length = us.length
  | [], _ => rfl
  | u :: us, n => by
    show (enumU us (n + 1)).length + 1 = _
    rw [enumU_len us]
    rfl
theorem enumU_get : ∀ (us : List U) (n i : Nat), (enumU us n)[i]? = (us[i]?).map fun u => mkTup [.dat (.int ((n + i : Nat) : Int)), u]
  | [], _, _ => by simp [enumU]
  | u :: us, n, 0 => by simp [enumU]
  | u :: us, n, i + 1 => by
    show (enumU us (n + 1))[i]? = _
    rw [enumU_get us (n + 1) i]
    simp only [List.getElem?_cons_succ]
    congr 1
    funext w
    congr 4
    omega
def iEn (m : MA) : MI := fun ρ M => match m ρ M with
  | some ([u], M1) => match seqOf M1 u with
    | some us => some ((enumU us 0, cellsOf u), M1)
    | none => none
  | _ => none
theorem pair_new {K : PySem.W.Frag} {α : List Addr} {M : Mem} {H : Hp} (R : Rp K α M H) {T : Addr} {x y : V} {a b : U} (hT : H T = none) (ra : VR K α (fzH α M H) x a) (rb : VR K α (fzH α M H) y b) :
    Rp K α M (upd H T (.tup [x, y])) ∧ Ext α (fzH α M H) α (fzH α M (upd H T (.tup [x, y]))) ∧ VR K α (fzH α M (upd H T (.tup [x, y]))) (.ref T) (mkTup [a, b]) := by
  obtain ⟨R3, x3, e3⟩ := R.newFix (o := .tup [x, y]) hT
  exact ⟨R3, x3, VR.mkTup e3 (.cons (ra.ext x3) (.cons (rb.ext x3) .nil))⟩
theorem qi_enum (hg : Gl X "enumerate") (hm : X.mg "enumerate" = none) (ha : QA X [e] m) (hs : starEach [e] X.env = [(false, eval e X.env)] := by rfl) :
    QI X (.Tuple elts kk tpos) (.Call (.Name "enumerate" p) [e] [] pos) (iEn m) := by
  obtain ⟨t, h1, h2⟩ := ha.ex
  refine ⟨_, PI.or (pi_enum hg hm h1 hs) (pi_enumT hg hm h1 hs), ?_⟩
  intro σ H α ρ M items ws M' R Rr er e P
  unfold iEn at e
  split at e
  · rename_i u M1 e1
    split at e
    · rename_i us e2
      cases e
      cases hk : isTp u with
      | true =>
        refine .inr (h2 σ H α ρ M _ _ _ Rr er e1 fun vs α' H' R' x r => ?_)
        obtain ⟨v, rfl, rv⟩ := vrs1 r
        obtain ⟨a, xs, rfl, hq, rs⟩ := seq_tup hk e2 rv
        refine ⟨a, xs, rfl, hq, P _ α' H' R' x fun i α2 M2 H2 R2 x2 w2 => ?_⟩
        obtain ⟨a', ys, ea, hq2, rs2⟩ := seq_tup hk e2 (rv.ext x2)
        cases ea
        refine ⟨fun w hw => ?_, fun hl => ⟨ys, hq2, by rw [rs2.length]; rw [enumU_len] at hl; exact hl⟩⟩
        rw [enumU_get] at hw
        obtain ⟨w', hw', rfl⟩ := Option.map_eq_some_iff.mp hw
        obtain ⟨y, hy, ry⟩ := rs2.get i hw'
        refine ⟨⟨ys, y, hq2, hy⟩, fun z H3 hz => ?_⟩
        obtain ⟨T, y', rfl, hT, rfl, hz⟩ := hz
        have := hz ys hq2
        rw [hy] at this
        cases this
        rw [Nat.zero_add]
        exact pair_new R2 hT (.dat (.int _)) ry
      | false =>
        refine .inl (h2 σ H α ρ M _ _ _ Rr er e1 fun vs α' H' R' x r => ?_)
        obtain ⟨v, rfl, rv⟩ := vrs1 r
        obtain ⟨a, xs, rfl, hq, rs⟩ := seq_lst hk R' e2 rv
        refine ⟨a, xs, rfl, hq, P _ α' H' R' x fun i α2 M2 H2 R2 x2 w2 => ?_⟩
        obtain ⟨a', ys, ea, hq2, rs2⟩ := seq_lst hk R2 (by rw [seqOf_wt w2]; exact e2) (rv.ext x2)
        cases ea
        refine ⟨fun w hw => ?_, fun hl => ⟨ys, hq2, by rw [rs2.length]; rw [enumU_len] at hl; exact hl⟩⟩
        rw [enumU_get] at hw
        obtain ⟨w', hw', rfl⟩ := Option.map_eq_some_iff.mp hw
        obtain ⟨y, hy, ry⟩ := rs2.get i hw'
        refine ⟨⟨ys, y, hq2, hy⟩, fun z H3 hz => ?_⟩
        obtain ⟨T, y', rfl, hT, rfl, hz⟩ := hz
        have := hz ys hq2
        rw [hy] at this
        cases this
        rw [Nat.zero_add]
        exact pair_new R2 hT (.dat (.int _)) ry
    · cases e
  · cases e
/-- zip -/
def zipU : List U → List U → List U
  | a :: as, b :: bs => mkTup [a, b] :: zipU as bs
  | _, _ => []
theorem zipU_get : ∀ (us ws : List U) (i : Nat), (zipU us ws)[i]? = match us[i]?, ws[i]? with
    | some a, some b => some (mkTup [a, b])
    | _, _ => none
  | [], _, _ => by simp [zipU]
  | _ :: _, [], i => by
    simp only [zipU, List.getElem?_nil]
    split <;> simp_all
  | a :: as, b :: bs, 0 => by simp [zipU]
  | a :: as, b :: bs, i + 1 => by
    show (zipU as bs)[i]? = _
    rw [zipU_get as bs i]
    simp
theorem zipU_len : ∀ (us ws : List U), (zipU us ws).length = min us.length ws.length
  | [], _ => by simp [zipU]
  | _ :: _, [] => by simp [zipU]
  | a :: as, b :: bs => by
    show (zipU as bs).length + 1 = _
    rw [zipU_len as bs]
    simp only [List.length_cons]
    omega
def iZp (m : MA) : MI := fun ρ M => match m ρ M with
  | some ([a, b], M1) => match seqOf M1 a, seqOf M1 b with
    | some us, some ws => if isTp a = isTp b then some ((zipU us ws, cellsOf a ++ cellsOf b), M1) else none
    | _, _ => none
  | _ => none
theorem qi_zip (hg : Gl X "zip") (hm : X.mg "zip" = none) (ha : QA X [e, e2] m)
    (hs : starEach [e, e2] X.env = (false, eval e X.env) :: starEach [e2] X.env := by rfl) (hpl : (backTo pos (starEach [e2] X.env)).any (·.1) = false := by rfl) :
    QI X (.Tuple elts kk tpos) (.Call (.Name "zip" p) [e, e2] [] pos) (iZp m) := by
  obtain ⟨t, h1, h2⟩ := ha.ex
  refine ⟨_, RZ.pi_zipA hg hm h1 hs hpl, ?_⟩
  intro σ H α ρ M items ws M' R Rr er e P
  unfold iZp at e
  split at e
  · rename_i a b M1 e1
    split at e
    · rename_i us vs e2 e3
      split at e
      · rename_i hk
        cases e
        refine h2 σ H α ρ M _ _ _ Rr er e1 fun zs α' H' R' x r => ?_
        obtain ⟨v, w, rfl, rv, rw'⟩ := vrs2 r
        have wl : ∀ {M2 : Mem}, Wt M' (cellsOf a ++ cellsOf b) M2 → Wt M' (cellsOf a) M2 ∧ Wt M' (cellsOf b) M2 := fun h => ⟨fun c hc => h c (List.mem_append_left _ hc), fun c hc => h c (List.mem_append_right _ hc)⟩
        cases ht : isTp a with
        | true =>
          rw [ht] at hk
          obtain ⟨pa, xs, rfl, hq, rs⟩ := seq_tup ht e2 rv
          obtain ⟨pb, ys, rfl, hq', rs'⟩ := seq_tup hk.symm e3 rw'
          refine ⟨pa, pb, xs, ys, rfl, .inr ⟨hq, hq', P _ α' H' R' x fun i α2 M2 H2 R2 x2 w2 => ?_⟩⟩
          obtain ⟨_, xs2, ea, hq2, rs2⟩ := seq_tup ht e2 (rv.ext x2)
          cases ea
          obtain ⟨_, ys2, ea, hq2', rs2'⟩ := seq_tup hk.symm e3 (rw'.ext x2)
          cases ea
          refine ⟨fun u hu => ?_, fun hl => ⟨xs2, ys2, hq2, hq2', by rw [rs2.length, rs2'.length]; rw [zipU_len] at hl; omega⟩⟩
          rw [zipU_get] at hu
          split at hu
          · rename_i a1 b1 ha1 hb1
            cases hu
            obtain ⟨y, hy, ry⟩ := rs2.get i ha1
            obtain ⟨z, hz, rz⟩ := rs2'.get i hb1
            refine ⟨⟨xs2, ys2, y, z, hq2, hq2', hy, hz⟩, fun c H3 hc => ?_⟩
            obtain ⟨T, y', z', rfl, hT, rfl, k1, k2⟩ := hc
            have := k1 xs2 hq2
            rw [hy] at this
            cases this
            have := k2 ys2 hq2'
            rw [hz] at this
            cases this
            exact pair_new R2 hT ry rz
          · cases hu
        | false =>
          rw [ht] at hk
          obtain ⟨pa, xs, rfl, hq, rs⟩ := seq_lst ht R' e2 rv
          obtain ⟨pb, ys, rfl, hq', rs'⟩ := seq_lst hk.symm R' e3 rw'
          refine ⟨pa, pb, xs, ys, rfl, .inl ⟨hq, hq', P _ α' H' R' x fun i α2 M2 H2 R2 x2 w2 => ?_⟩⟩
          obtain ⟨_, xs2, ea, hq2, rs2⟩ := seq_lst ht R2 (by rw [seqOf_wt (wl w2).1]; exact e2) (rv.ext x2)
          cases ea
          obtain ⟨_, ys2, ea, hq2', rs2'⟩ := seq_lst hk.symm R2 (by rw [seqOf_wt (wl w2).2]; exact e3) (rw'.ext x2)
          cases ea
          refine ⟨fun u hu => ?_, fun hl => ⟨xs2, ys2, hq2, hq2', by rw [rs2.length, rs2'.length]; rw [zipU_len] at hl; omega⟩⟩
          rw [zipU_get] at hu
          split at hu
          · rename_i a1 b1 ha1 hb1
            cases hu
            obtain ⟨y, hy, ry⟩ := rs2.get i ha1
            obtain ⟨z, hz, rz⟩ := rs2'.get i hb1
            refine ⟨⟨xs2, ys2, y, z, hq2, hq2', hy, hz⟩, fun c H3 hc => ?_⟩
            obtain ⟨T, y', z', rfl, hT, rfl, k1, k2⟩ := hc
            have := k1 xs2 hq2
            rw [hy] at this
            cases this
            have := k2 ys2 hq2'
            rw [hz] at this
            cases this
            exact pair_new R2 hT ry rz
          · cases hu
      · cases e
    · cases e
  · cases e
end

/-! ### while -/
def whileM (c : MT) (b : MS) : Nat → MS
  | 0, _, _ => none
  | n + 1, ρ, M => match c ρ M with
    | some (false, M1) => some (.nx ρ, M1)
    | some (true, M1) => match b ρ M1 with
      | some (.nx ρ2, M2) => whileM c b n ρ2 M2
      | some (.ct ρ2, M2) => whileM c b n ρ2 M2
      | some (.bk ρ2, M2) => some (.nx ρ2, M2)
      | some (.rt v, M2) => some (.rt v, M2)
      | none => none
    | none => none
noncomputable def sWhile (c : MT) (b : MS) : MS := fun ρ M => if h : ∃ n, (whileM c b n ρ M).isSome = true then whileM c b h.choose ρ M else none
theorem whileM_mono {c : MT} {b : MS} : ∀ {n k : Nat} {ρ : Env} {M : Mem} {r : Out × Mem}, n ≤ k → whileM c b n ρ M = some r → whileM c b k ρ M = some r
  | 0, _, _, _, _, _, h => by cases h
  | n + 1, 0, _, _, _, hk, _ => by omega
  | n + 1, k + 1, ρ, M, r, hk, h => by
    unfold whileM at h ⊢
    split at h
    · exact h
    · split at h
      · exact whileM_mono (by omega) h
      · exact whileM_mono (by omega) h
      · exact h
      · exact h
      · cases h
    · cases h
theorem sWhile_of {c : MT} {b : MS} {n : Nat} {ρ : Env} {M : Mem} {r : Out × Mem} (h : whileM c b n ρ M = some r) : sWhile c b ρ M = some r := by
  have ex : ∃ n, (whileM c b n ρ M).isSome = true := ⟨n, by rw [h]; rfl⟩
  unfold sWhile
  rw [dif_pos ex]
  obtain ⟨r', hr⟩ := Option.isSome_iff_exists.mp ex.choose_spec
  rw [hr]
  rcases Nat.le_total n ex.choose with z | z
  · have := whileM_mono z h
    rw [hr] at this
    exact this
  · have := whileM_mono z hr
    rw [h] at this
    exact this.symm
theorem sWhile_ex {c : MT} {b : MS} {ρ : Env} {M : Mem} {r : Out × Mem} (h : sWhile c b ρ M = some r) : ∃ n, whileM c b n ρ M = some r := by
  unfold sWhile at h
  split at h
  · exact ⟨_, h⟩
  · cases h
theorem qs_while {X : Cx} {c : Expr} {body : List Stmt} {mc : MT} {b : MS} {pos : Pos} (hp : PassesOwn (model X.prog X.w) X.A X.env X.xe) (hc : QT X c mc) (hb : QSs X body b) : QS X (.While c body [] pos) (sWhile mc b) := by
  obtain ⟨t, c1, c2⟩ := hc.ex
  obtain ⟨u, b1, b2⟩ := hb.ex
  refine ⟨_, ps_while hp c1 b1, ?_⟩
  intro σ H α ρ M o M' D R er e P
  obtain ⟨n, e⟩ := sWhile_ex e
  refine ⟨fun m σ' H' => ∃ (α' : List Addr) (ρ' : Env) (M2 : Mem), Rp X.K α' M2 H' ∧ ER X.K α' (fzH α' M2 H') σ' ρ' ∧ Ext α (fzH α M H) α' (fzH α' M2 H') ∧ whileM mc b m ρ' M2 = some (o, M'), ⟨n, α, ρ, M, R, er, Ext.refl, e⟩, ?_⟩
  rintro m σ' H' ⟨α', ρ', M2, R2, er2, x2, e2⟩
  cases m with
  | zero => cases e2
  | succ m =>
    unfold whileM at e2
    split at e2
    · rename_i M1 e1
      cases e2
      refine c2 σ' H' α' ρ' M2 false _ _ R2 er2 e1 fun α3 H3 R3 x3 => ?_
      rw [if_neg (by decide)]
      exact P α3 H3 R3 (x2.trans x3) σ' (er2.ext x3)
    · rename_i M1 e1
      refine c2 σ' H' α' ρ' M2 true M1 _ R2 er2 e1 fun α3 H3 R3 x3 => ?_
      rw [if_pos rfl]
      refine ⟨fun σ4 H4 => ∃ (α' : List Addr) (ρ' : Env) (M2 : Mem), Rp X.K α' M2 H4 ∧ ER X.K α' (fzH α' M2 H4) σ4 ρ' ∧ Ext α (fzH α M H) α' (fzH α' M2 H4) ∧ whileM mc b m ρ' M2 = some (o, M'), fun σ4 H4 z => ⟨m, Nat.lt_succ_self m, z⟩, ?_⟩
      have x13 := x2.trans x3
      split at e2
      · rename_i ρ5 M5 e5
        exact b2 σ' H3 α3 ρ' M1 _ M5 _ R3 (er2.ext x3) e5 fun α5 H5 R5 x5 σ5 er5 => ⟨α5, ρ5, M5, R5, er5, x13.trans x5, e2⟩
      · rename_i ρ5 M5 e5
        exact b2 σ' H3 α3 ρ' M1 _ M5 _ R3 (er2.ext x3) e5 fun α5 H5 R5 x5 σ5 er5 => ⟨α5, ρ5, M5, R5, er5, x13.trans x5, e2⟩
      · rename_i ρ5 M5 e5
        cases e2
        exact b2 σ' H3 α3 ρ' M1 _ _ _ R3 (er2.ext x3) e5 fun α5 H5 R5 x5 σ5 er5 => P α5 H5 R5 (x13.trans x5) σ5 er5
      · rename_i v M5 e5
        cases e2
        exact b2 σ' H3 α3 ρ' M1 _ _ _ R3 (er2.ext x3) e5 fun α5 H5 R5 x5 v5 r5 => P α5 H5 R5 (x13.trans x5) v5 r5
      · cases e2
    · cases e2

/-! ### comprehensions -/
theorem wipe_get {σ : L2.St} : ∀ {vs : List Nat} (i : Nat), (wipe σ vs)[i]? = if i ∈ vs ∧ i < σ.length then some none else σ[i]?
  | [], i => by simp [wipe]
  | v :: vs, i => by
    unfold wipe
    by_cases hv : i = v
    · subst hv
      by_cases hl : i < σ.length
      · rw [List.getElem?_set_self (by rw [wipe_length]; exact hl), if_pos ⟨List.mem_cons_self, hl⟩]
      · rw [List.getElem?_eq_none (by rw [List.length_set, wipe_length]; omega), if_neg fun z => hl z.2, List.getElem?_eq_none (by omega)]
    · rw [List.getElem?_set_ne (Ne.symm hv), wipe_get i]
      simp only [List.mem_cons, hv, false_or]
def wipeR (ρ : Env) : List Nat → Env
  | [] => ρ
  | v :: vs => (wipeR ρ vs).set v none
theorem wipeR_length (ρ : Env) : ∀ vs : List Nat, (wipeR ρ vs).length = ρ.length
  | [] => rfl
  | v :: vs => by unfold wipeR; rw [List.length_set, wipeR_length ρ vs]
theorem wipeR_some {ρ : Env} {i : Nat} {x : U} : ∀ {vs : List Nat}, (wipeR ρ vs)[i]? = some (some x) → ρ[i]? = some (some x) ∧ i ∉ vs
  | [], h => ⟨h, by simp⟩
  | v :: vs, h => by
    unfold wipeR at h
    by_cases hi : v = i
    · subst hi
      by_cases hv : v < (wipeR ρ vs).length
      · rw [List.getElem?_set_self hv] at h; cases h
      · rw [List.getElem?_eq_none (by simpa using hv)] at h; cases h
    · rw [List.getElem?_set_ne hi] at h
      obtain ⟨h1, h2⟩ := wipeR_some h
      exact ⟨h1, by simp only [List.mem_cons, not_or]; exact ⟨fun e => hi e.symm, h2⟩⟩
theorem ER.wipe {K : PySem.W.Frag} {α : List Addr} {G : Hp} {σ : L2.St} {ρ : Env} {vs : List Nat} (h : ER K α G σ ρ) : ER K α G (L2.wipe σ vs) (wipeR ρ vs) := by
  refine ⟨by rw [wipe_length, wipeR_length]; exact h.1, fun i u e => ?_⟩
  obtain ⟨e1, n⟩ := wipeR_some e
  obtain ⟨v, e2, r⟩ := h.2 i u e1
  exact ⟨v, by rw [wipe_get, if_neg fun z => n z.1]; exact e2, r⟩
theorem wipe_keep {σ σ2 : L2.St} {vs sl : List Nat} (hl : σ2.length = σ.length) (hs : ∀ i ∈ sl, i ∈ vs) (k : ∀ i, i ∉ sl → σ2[i]? = (wipe σ vs)[i]?) : wipe σ2 vs = wipe σ vs := by
  apply List.ext_getElem?
  intro i
  rw [wipe_get, wipe_get]
  by_cases hi : i ∈ vs
  · by_cases hl2 : i < σ.length
    · rw [if_pos ⟨hi, by omega⟩, if_pos ⟨hi, hl2⟩]
    · rw [if_neg fun z => hl2 (by omega), if_neg fun z => hl2 z.2, List.getElem?_eq_none (by omega), List.getElem?_eq_none (by omega)]
  · rw [if_neg fun z => hi z.1, if_neg fun z => hi z.1, k i fun z => hi (hs i z), wipe_get, if_neg fun z => hi z.1]
noncomputable def lcM (wt : Mem → Prop) (g : MG) (c : MT) (e : ME) (n : Nat) (ρ : Env) : List U → Mem → Option Mem
  | [], M => some M
  | u :: us, M => match g u ρ M with
    | some (ρ1, M1) => match c ρ1 M1 with
      | some (true, M2) => match e ρ1 M2 with
        | some (y, M3) => match appendF (.cell n) [y] M3 with
          | some (_, M4) => if wt M4 then lcM wt g c e n ρ us M4 else none
          | none => none
        | none => none
      | some (false, M2) => if wt M2 then lcM wt g c e n ρ us M2 else none
      | none => none
    | none => none
def Post.lst0 {K : PySem.W.Frag} : True := trivial
noncomputable def eLc (mi : MI) (g : MG) (c : MT) (e : ME) (vs : List Nat) : ME := fun ρ M => match mi ρ M with
  | some ((items, ws), M1) => match lcM (Wt M1 ws) g c e M1.length (wipeR ρ vs) items (M1 ++ [.lst false []]) with
    | some M2 => some (.cell M1.length, M2)
    | none => none
  | none => none
theorem wt_app {M0 : Mem} {c : Cell} {ws : List Nat} (hw : ∀ i ∈ ws, i < M0.length) : Wt M0 ws (M0 ++ [c]) := fun i hi => List.getElem?_append_left (hw i hi)
theorem append_app {M : Mem} {n : Nat} {y w : U} {M4 : Mem} (h : appendF (.cell n) [y] M = some (w, M4)) : ∃ f ws, (frzU y M).2[n]? = some (.lst f ws) ∧ ws.length < sizeLine ∧ M4 = (frzU y M).2.set n (.lst f (ws ++ [(frzU y M).1])) := by
  unfold appendF at h
  simp only at h
  split at h
  · rename_i f ws hc
    split at h
    · rename_i hz
      cases h
      exact ⟨f, ws, hc, hz, rfl⟩
    · cases h
  · cases h
end Pu

namespace Pu
open PySem PySem.Spec PyProof.Rows L2 Lw
open Classical
theorem ER.len {K : PySem.W.Frag} {α : List Addr} {G : Hp} {σ : L2.St} {ρ : Env} (h : ER K α G σ ρ) : σ.length = ρ.length := h.1
/-- targets leave the number of slots -/
def LenG (g : MG) : Prop := ∀ u ρ M ρ' M', g u ρ M = some (ρ', M') → ρ'.length = ρ.length
theorem len_nm (i : Nat) : LenG (gNm i) := fun u ρ M ρ' M' h => by
  cases h
  rw [List.length_set]
def LenGs (g : MGs) : Prop := ∀ u ρ M ρ' M', g u ρ M = some (ρ', M') → ρ'.length = ρ.length
theorem len_n0 : LenGs gN0 := fun u ρ M ρ' M' h => by
  unfold gN0 at h
  split at h
  · cases h; rfl
  · cases h
theorem len_cn {m : MG} {n : MGs} (h1 : LenG m) (h2 : LenGs n) : LenGs (gCn m n) := fun u ρ M ρ' M' h => by
  unfold gCn at h
  split at h
  · split at h
    · rename_i e
      rw [h2 _ _ _ _ _ h, h1 _ _ _ _ _ e]
    · cases h
  · cases h
theorem len_tp {k : Nat} {m : MGs} (h1 : LenGs m) : LenG (gTp k m) := fun u ρ M ρ' M' h => by
  unfold gTp at h
  split at h
  · split at h
    · exact h1 _ _ _ _ _ h
    · cases h
  · cases h
section
variable {K : PySem.W.Frag}
/-- one turn's end: y is put behind -/
theorem lc_put {α : List Addr} {M4 M3 : Mem} {H : Hp} {n : Nat} {a : Addr} {y : V} {u w : U} (R : Rp K α M3 H) (ha : α[n]? = some a) (ry : VR K α (fzH α M3 H) y u) (h : appendF (.cell n) [u] M3 = some (w, M4)) :
    ∃ acc, H a = some (.lst acc) ∧ acc.length < sizeLine ∧ Rp K α M4 (upd H a (.lst (acc ++ [y]))) ∧ Ext α (fzH α M3 H) α (fzH α M4 (upd H a (.lst (acc ++ [y])))) := by
  obtain ⟨f, ws, hc, hz, rfl⟩ := append_app h
  obtain ⟨R1, x1, r1⟩ := frzU_ok R ry
  obtain ⟨hf, ys, hy, rs⟩ := R1.ok n a _ ha hc
  obtain ⟨R2, x2⟩ := R1.write (d := .lst f (ws ++ [(frzU u M3).1])) (o := .lst (ys ++ [y])) ha hc rfl rfl ⟨hf, _, upd_same, rs.append (.cons r1 .nil)⟩
  exact ⟨ys, hy, by rw [rs.length]; exact hz, R2, x1.trans x2⟩
theorem sim_lc {wi : L2.TI} {tg : TG} {tt : TT} {te : TE} {sl vs : List Nat} {mi : MI} {g : MG} {c : MT} {e : ME} (hi : SimI K wi mi) (hg : SimG K tg sl g) (hlg : LenG g) (hc : SimT K tt c) (he : SimE K te e) (hsl : ∀ i ∈ sl, i ∈ vs)
    (hws : ∀ ρ M items ws M', mi ρ M = some ((items, ws), M') → ∀ i ∈ ws, i < M'.length) : SimE K (tLc wi tg tt te vs) (eLc mi g c e vs) := by
  intro σ H α ρ M u M' Q R er h P
  unfold eLc at h
  split at h
  · rename_i items ws M1 e1
    split at h
    · rename_i M2 e2
      cases h
      refine hi σ H α ρ M items ws M1 _ R er e1 fun J α1 H1 R1 x1 ok => ?_
      intro D hD
      obtain ⟨R1', x1', hD'⟩ := R1.newMem (o := .lst []) (c := .lst false []) hD rfl fun y => ⟨fun z => (by cases z), [], upd_same, .nil⟩
      refine ⟨fun i m H' => m = items.length - i ∧ i ≤ items.length ∧ ∃ (α' : List Addr) (M3 : Mem), Rp K α' M3 H' ∧ Ext (α1 ++ [D]) (fzH (α1 ++ [D]) (M1 ++ [.lst false []]) (upd H1 D (.lst []))) α' (fzH α' M3 H') ∧ Wt M1 ws M3 ∧ lcM (Wt M1 ws) g c e M1.length (wipeR ρ vs) (items.drop i) M3 = some M', ⟨items.length, by simp, Nat.zero_le _, _, _, R1', Ext.refl, wt_app (hws _ _ _ _ _ e1), e2⟩, ?_⟩
      rintro i m H' ⟨rfl, hle, α', M3, R3, x3, w3, e3⟩
      have x13 := x1'.trans x3
      by_cases hlt : i < items.length
      · have hd : items.drop i = items[i] :: items.drop (i + 1) := List.drop_eq_getElem_cons hlt
        rw [hd] at e3
        unfold lcM at e3
        split at e3
        · rename_i ρ4 M4 e4
          obtain ⟨ok1, _⟩ := ok i α' M3 H' R3 x13 w3
          obtain ⟨go, yl⟩ := ok1 items[i] (List.getElem?_eq_getElem hlt)
          refine .inr ⟨go, fun H4 => ∃ m', m' < items.length - i ∧ m' = items.length - (i + 1) ∧ i + 1 ≤ items.length ∧ ∃ (α' : List Addr) (M3 : Mem), Rp K α' M3 H4 ∧ Ext (α1 ++ [D]) (fzH (α1 ++ [D]) (M1 ++ [.lst false []]) (upd H1 D (.lst []))) α' (fzH α' M3 H4) ∧ Wt M1 ws M3 ∧ lcM (Wt M1 ws) g c e M1.length (wipeR ρ vs) (items.drop (i + 1)) M3 = some M', fun _ z => z, fun y H3' hy => ?_⟩
          obtain ⟨R4, x4, r4⟩ := yl y H3' hy
          have er4 := (er.ext (x1.trans (x13.trans x4))).wipe (vs := vs)
          refine hg _ H3' α' _ M3 y items[i] ρ4 M4 _ R4 er4 r4 e4 fun σ5 α5 H5 R5 x5 er5 k5 => ⟨?_, ?_⟩
          · refine wipe_keep ?_ hsl k5
            rw [er5.1, hlg _ _ _ _ _ e4, wipeR_length, er.1]
          · split at e3
            · rename_i M6 e6
              split at e3
              · rename_i yv M7 e7
                split at e3
                · rename_i w8 M8 e8
                  split at e3
                  · rename_i hw
                    refine hc σ5 H5 α5 ρ4 M4 true M6 _ R5 er5 e6 fun α6 H6 R6 x6 => ?_
                    rw [if_pos rfl]
                    refine he σ5 H6 α6 ρ4 M6 yv M7 _ R6 (er5.ext x6) e7 fun v7 α7 H7 R7 x7 r7 => ?_
                    have xx := x3.trans (x4.trans (x5.trans (x6.trans x7)))
                    obtain ⟨acc, ha, hz, R8, x8⟩ := lc_put R7 (xx.pre _ _ hD') r7 e8
                    exact ⟨acc, ha, hz, _, by omega, rfl, hlt, α7, M8, R8, xx.trans x8, hw, e3⟩
                  · cases e3
                · cases e3
              · cases e3
            · rename_i M6 e6
              split at e3
              · rename_i hw
                refine hc σ5 H5 α5 ρ4 M4 false M6 _ R5 er5 e6 fun α6 H6 R6 x6 => ?_
                rw [if_neg (by decide)]
                exact ⟨_, by omega, rfl, hlt, α6, M6, R6, x3.trans (x4.trans (x5.trans x6)), hw, e3⟩
              · cases e3
            · cases e3
        · cases e3
      · have hi' : i = items.length := by omega
        subst hi'
        rw [List.drop_length] at e3
        cases e3
        obtain ⟨_, st⟩ := ok items.length α' _ H' R3 x13 w3
        exact .inl ⟨st (Nat.le_refl _), P _ α' H' R3 (x1.trans x13) (.cell (x3.pre _ _ hD'))⟩
    · cases h
  · cases h
end
def tYesM : MT := fun _ M => some (true, M)
structure QTs (X : Cx) (es : List Expr) (m : MT) : Prop where
  ex : ∃ t, PTs X es t ∧ SimT X.K t m
def tmTs := tmT
theorem QTs.can {X : Cx} {es : List Expr} {m : MT} (h : QTs X es m) : PTs X es (tmT X.K m) := by
  obtain ⟨t, h1, h2⟩ := h.ex
  exact ⟨fun pins s σ H Q I ⟨α, ρ, M, u, M', R, er, e, P⟩ => h1.run pins s σ H Q I (h2 σ H α ρ M u M' Q R er e P)⟩
section
variable {X : Cx}
theorem qts_nil : QTs X [] tYesM := ⟨_, pts_nil, fun σ H α ρ M u M' Q R er e P => by cases e; exact P α H R Ext.refl⟩
theorem qts_one {c : Expr} {m : MT} (h : QT X c m) : QTs X [c] m := let ⟨t, h1, h2⟩ := h.ex; ⟨t, pts_one h1, h2⟩
theorem cells_lt {u : U} {M : Mem} {us : List U} (h : seqOf M u = some us) : ∀ i ∈ cellsOf u, i < M.length := by
  intro i hi
  cases u with
  | cell c =>
    have : i = c := by simpa [cellsOf] using hi
    subst this
    unfold seqOf at h
    simp only [tupOf, lstOf] at h
    by_cases hl : i < M.length
    · exact hl
    · rw [List.getElem?_eq_none (by omega)] at h
      cases h
  | _ => cases hi
/-- what is walked watches cells that are there -/
def WsOk (mi : MI) : Prop := ∀ ρ M items ws M', mi ρ M = some ((items, ws), M') → ∀ i ∈ ws, i < M'.length
theorem ws_seq {me : ME} : WsOk (iSeq me) := fun ρ M items ws M' h => by
  unfold iSeq at h
  split at h
  · split at h
    · rename_i e
      cases h
      exact cells_lt e
    · cases h
  · cases h
theorem ws_txt {me : ME} : WsOk (iTxt me) := fun ρ M items ws M' h => by
  unfold iTxt at h
  split at h
  · cases h
    exact fun i hi => by cases hi
  · cases h
theorem ws_any {me : ME} : WsOk (iAny me) := fun ρ M items ws M' h => by
  unfold iAny at h
  split at h
  · rename_i e
    cases h
    exact ws_seq _ _ _ _ _ e
  · exact ws_txt _ _ _ _ _ h
theorem ws_rg1 {m : MA} : WsOk (iRg1 m) := fun ρ M items ws M' h => by
  unfold iRg1 at h
  split at h
  · split at h
    · cases h
      exact fun i hi => by cases hi
    · cases h
  · cases h
theorem ws_rg2 {m : MA} : WsOk (iRg2 m) := fun ρ M items ws M' h => by
  unfold iRg2 at h
  split at h
  · split at h
    · cases h
      exact fun i hi => by cases hi
    · cases h
  · cases h
theorem ws_en {m : MA} : WsOk (iEn m) := fun ρ M items ws M' h => by
  unfold iEn at h
  split at h
  · split at h
    · rename_i e
      cases h
      exact cells_lt e
    · cases h
  · cases h
theorem ws_zp {m : MA} : WsOk (iZp m) := fun ρ M items ws M' h => by
  unfold iZp at h
  split at h
  · split at h
    · rename_i e e'
      split at h
      · cases h
        intro i hi
        rcases List.mem_append.mp hi with hi | hi
        · exact cells_lt e i hi
        · exact cells_lt e' i hi
      · cases h
    · cases h
  · cases h
theorem qe_lc {elt tg iter : Expr} {ifs : List Expr} {scope : Scope} {own : List (Str × Nat)} {pos : Pos} {mi : MI} {sl : List Nat} {g : MG} {c : MT} {e : ME} (hc : X.calm = true) (hN : X.N.Nodup) (hi : QI X tg iter mi) (hw : WsOk mi) (ok : BlkOk X.N X.env.scope scope own) (hlg : LenG g) (hsl : ∀ i ∈ sl, i ∈ own.map (·.2))
    (hg : ∀ (s : Shared) (H : Hp) (C : Addr) (cl : List (Str × Addr)) (fp : List Addr), QG (X.blk s H scope (compEnvC scope cl C X.env) fp) tg sl g) (ht : ∀ (s : Shared) (H : Hp) (C : Addr) (cl : List (Str × Addr)) (fp : List Addr), QTs (X.blk s H scope (compEnvC scope cl C X.env) fp) ifs c)
    (he : ∀ (s : Shared) (H : Hp) (C : Addr) (cl : List (Str × Addr)) (fp : List Addr), QE (X.blk s H scope (compEnvC scope cl C X.env) fp) elt e) (hs : ∀ x, foldedSetIterable iter X.env x = pure x := by intro _; rfl) :
    QE X (.ListComp elt [⟨tg, iter, ifs, 0⟩] scope pos) (eLc mi g c e (own.map (·.2))) := by
  obtain ⟨t, h1, h2⟩ := hi.ex
  exact ⟨_, pe_lc (g := tmG X.K sl g) (tt := tmT X.K c) (te := tmE X.K e) hc hN h1 ok (fun s H C cl fp => (hg s H C cl fp).can) (fun s H C cl fp => (ht s H C cl fp).can) (fun s H C cl fp => (he s H C cl fp).can) hs,
    sim_lc h2 (sim_tmG sl g) hlg (sim_tmT c) (sim_tmE e) hsl hw⟩
theorem qs_setLc {i : Nat} {y : Str} {py : Pos} {elt tg iter : Expr} {ifs : List Expr} {scope : Scope} {own : List (Str × Nat)} {pos spos : Pos} {mi : MI} {sl : List Nat} {g : MG} {c : MT} {e : ME} (hc : X.calm = true) (hN : X.N.Nodup) (hy : X.N[i]? = some y) (hyl : X.env.scope.names.lookup y = some .local)
    (hsw : swapsWith (.ListComp elt [⟨tg, iter, ifs, 0⟩] scope pos) (some (.Name y py)) spos.line X.env = pure true) (hi : QI X tg iter mi) (hw : WsOk mi) (ok : BlkOk X.N X.env.scope scope own) (hlg : LenG g) (hsl : ∀ i ∈ sl, i ∈ own.map (·.2))
    (hg : ∀ (s : Shared) (H : Hp) (C : Addr) (cl : List (Str × Addr)) (fp : List Addr), QG (X.blk s H scope (compEnvC scope cl C X.env) fp) tg sl g) (ht : ∀ (s : Shared) (H : Hp) (C : Addr) (cl : List (Str × Addr)) (fp : List Addr), QTs (X.blk s H scope (compEnvC scope cl C X.env) fp) ifs c)
    (he : ∀ (s : Shared) (H : Hp) (C : Addr) (cl : List (Str × Addr)) (fp : List Addr), QE (X.blk s H scope (compEnvC scope cl C X.env) fp) elt e) (hs : ∀ x, foldedSetIterable iter X.env x = pure x := by intro _; rfl) :
    QS X (.Assign [.Name y py] (.ListComp elt [⟨tg, iter, ifs, 0⟩] scope pos) spos) (sAsg (eLc mi g c e (own.map (·.2))) (gNm i)) := by
  obtain ⟨t, h1, h2⟩ := hi.ex
  exact ⟨_, ps_setLc (g := tmG X.K sl g) (tt := tmT X.K c) (te := tmE X.K e) hc hN hy hyl hsw h1 ok (fun s H C cl fp => (hg s H C cl fp).can) (fun s H C cl fp => (ht s H C cl fp).can) (fun s H C cl fp => (he s H C cl fp).can) hs,
    sim_asg (sim_lc h2 (sim_tmG sl g) hlg (sim_tmT c) (sim_tmE e) hsl hw) sim_gname⟩
end

/-! ### defs -/
/-- what a def does: k parameters, n names in all -/
def mkFn (k n : Nat) (m : MS) : FA := fun us M => if us.length = k then (match m (us.map some ++ List.replicate (n - k) none) M with
  | some (.rt u, M') => some (u, M')
  | some (.nx _, M') => some (.dat .none, M')
  | _ => none) else none
theorem er_start {K : PySem.W.Frag} {α : List Addr} {G : Hp} {N : List Str} {vs : List V} {us : List U} {k : Nat} (hk : us.length = k) (r : VRs K α G vs us) : ER K α G (start N vs) (us.map some ++ List.replicate (N.length - k) none) := by
  have hl := r.length
  refine ⟨by unfold L2.start; simp [hl, hk], fun i u e => ?_⟩
  by_cases hi : i < us.length
  · rw [List.getElem?_append_left (by simpa using hi), List.getElem?_map] at e
    obtain ⟨w, h1, h2⟩ := Option.map_eq_some_iff.mp e
    cases h2
    obtain ⟨v, h3, h4⟩ := r.get i h1
    refine ⟨v, ?_, h4⟩
    unfold L2.start
    rw [List.getElem?_append_left (by simp; omega), List.getElem?_map, h3]
    rfl
  · rw [List.getElem?_append_right (by simpa using hi), List.getElem?_replicate] at e
    split at e <;> cases e
section
variable {P : Program} {w : World} {K : PySem.W.Frag} {mg : Str → Option Value} {base : Heap}
theorem body_of {X : Cx} {N : List Str} {n k : Nat} {st : List Stmt} {m : MS} {vs : List V} {H : Hp} {Q : VK} {E : XK} (hK : X.K = K) (hn : N.length = n) (h : QSs X st m) (hs : spOf K (mkFn k n m) vs H Q E) :
    ∃ t, PSs X st t ∧ t { nx := fun _ H' => Q .non H', rt := Q } (start N vs) H := by
  subst hK hn
  obtain ⟨α, M, us, u, M', R, rv, e, Pq⟩ := hs
  obtain ⟨t, h1, h2⟩ := h.ex
  refine ⟨t, h1, ?_⟩
  unfold mkFn at e
  split at e
  · rename_i hk
    have er := er_start (N := N) hk rv
    split at e
    · rename_i u' M1 e1
      cases e
      exact h2 _ H α _ M _ _ _ R er e1 fun α' H' R' x v r => Pq v α' H' R' x r
    · rename_i ρ' M1 e1
      cases e
      exact h2 _ H α _ M _ _ _ R er e1 fun α' H' R' x σ' _ => Pq .non α' H' R' x (.dat .non)
    · cases e
  · cases e
theorem sp_len {k n : Nat} {m : MS} {vs : List V} {H : Hp} {Q : VK} {E : XK} (hs : spOf K (mkFn k n m) vs H Q E) : vs.length = k := by
  obtain ⟨α, M, us, u, M', R, rv, e, _⟩ := hs
  unfold mkFn at e
  split at e
  · rename_i hk
    rw [rv.length]
    exact hk
  · cases e
theorem fn_ok {x qual : Str} {st : Stmt} {f : Addr} {fd : FuncData} {N ps : List Str} {k n np : Nat} {m : MS} (F : Fun K x qual st f fd) (S : FnScope N ps (defScope st)) (hn : N.length = n) (hp : ps.length = np)
    (body : ∀ (cdv : Value) (A : Around) (outer : List PySem.Env) (s : Shared) (H : Hp) (E : XK), Room k (A.deeper (envOfC qual (defScope st) s.heap.objs.size f cdv)) →
      QSs (cxOf CX0 P w K mg base N qual (defScope st) f cdv A outer s H E).nox (defBody st) m) :
    FnOk P w K mg base CX0 (k + 1) f fd ps (spOf K (mkFn np n m)) := by
  refine F.ok S (fun vs H Q E h => by rw [hp]; exact sp_len h) fun cdv A outer s H vs Q E hr h => ?_
  exact body_of rfl hn (body cdv A outer s H E hr) h
theorem fn_okG {x qual : Str} {st : Stmt} {f : Addr} {fd : FuncData} {N ps : List Str} {k n np : Nat} {m : MS} (F : Fun K x qual st f fd) (S : FnScope N ps (defScope st)) (hn : N.length = n) (hp : ps.length = np)
    (body : ∀ (cdv : Value) (A : Around) (outer : List PySem.Env) (s : Shared) (H : Hp) (E : XK), A.guards = some [] → Room k (A.deeper (envOfC qual (defScope st) s.heap.objs.size f cdv)) →
      QSs (cxOf CX0 P w K mg base N qual (defScope st) f cdv A outer s H E).nox (defBody st) m) :
    FnG P w K mg base (k + 1) f fd ps (spOf K (mkFn np n m)) := by
  refine okG F S (fun vs H Q E h => by rw [hp]; exact sp_len h) fun cdv A outer s H vs Q E hg hr h => ?_
  exact body_of rfl hn (body cdv A outer s H E hg hr) h
/-- a def that is never come to -/
def noFn : FA := fun _ _ => none
theorem fn_never {k : Nat} {f : Addr} {fd : FuncData} {ps : List Str} : FnOk P w K mg base CX0 k f fd ps (spOf K noFn) :=
  ⟨fun vs H Q E h => (by obtain ⟨_, _, _, _, _, _, _, e, _⟩ := h; cases e), fun A outer s H args us vs Q E _ _ _ _ h => by obtain ⟨_, _, _, _, _, _, _, e, _⟩ := h; cases e⟩
theorem fnG_never {k : Nat} {f : Addr} {fd : FuncData} {ps : List Str} : FnG P w K mg base k f fd ps (spOf K noFn) := FnG.ofOk fn_never
end
/-- the law itself -/
def sp_law (f : FA) (K : PySem.W.Frag) : Sp := fun vs H Q _ => ∃ (a : Addr) (ns : List Int), vs = [.ref a] ∧ SqL K H a (ns.map V.int) ∧ ns.length ≤ 63 ∧ f [.scr ns] [] ≠ none ∧ ∀ u M', f [.scr ns] [] = some (u, M') → u = .dat (.bool true) ∧ ∀ H', Q (.bl true) H'
theorem rp_nil {K : PySem.W.Frag} {H : Hp} : Rp K [] [] H := ⟨rfl, List.nodup_nil, fun i a c h => by simp at h⟩
theorem lv_nil {b : Addr} : ¬ Lv [] [] b := by
  rintro ⟨i, c, h, _⟩
  simp at h
theorem fz_nil {H : Hp} : fzH [] [] H = H := funext fun b => fzH_of lv_nil
theorem sp_law_imp {f : FA} {K : PySem.W.Frag} {vs : List V} {H : Hp} {Q : VK} {E : XK} (h : sp_law f K vs H Q E) : spOf K f vs H Q E := by
  obtain ⟨a, ns, rfl, hs, hl, hne, q⟩ := h
  cases e : f [.scr ns] [] with
  | none => exact absurd e hne
  | some r =>
    obtain ⟨u, M'⟩ := r
    obtain ⟨rfl, q2⟩ := q u M' e
    refine ⟨[], [], _, _, M', rp_nil, .cons (.scr (by rw [fz_nil]; exact hs)) .nil, e, fun v α' H' R' x r => ?_⟩
    rw [vr_bool r]
    exact q2 H'
end Pu

namespace Pu
open PySem PySem.Spec PyProof.Rows L2 Lw
open Classical
section
variable {K : PySem.W.Frag}
/-- the loop of a comprehension -/
theorem lc_loop {J : It} {tg : TG} {tt : TT} {te : TE} {sl vs : List Nat} {g : MG} {c : MT} {e : ME} {items : List U} {ws : List Nat} {M1 M0 M' : Mem} {α1 α0 : List Addr} {H1 H0 : Hp} {σ : L2.St} {ρ : Env} {n : Nat} {D : Addr} {wt : Mem → Prop} {Fin : Hp → Prop}
    (ok : IterOk K J α1 (fzH α1 M1 H1) M1 items ws) (R0 : Rp K α0 M0 H0) (x0 : Ext α1 (fzH α1 M1 H1) α0 (fzH α0 M0 H0)) (w0 : Wt M1 ws M0) (hwt : ∀ M, wt M → Wt M1 ws M) (er : ER K α0 (fzH α0 M0 H0) σ ρ) (hD : α0[n]? = some D)
    (hg : SimG K tg sl g) (hlg : LenG g) (hc : SimT K tt c) (he : SimE K te e) (hsl : ∀ i ∈ sl, i ∈ vs)
    (h : lcM wt g c e n (wipeR ρ vs) items M0 = some M') (hfin : ∀ α' H', Rp K α' M' H' → Ext α0 (fzH α0 M0 H0) α' (fzH α' M' H') → Fin H') :
    ∃ W : Nat → Nat → Hp → Prop, (∃ m, W 0 m H0) ∧ ∀ i m H, W i m H →
      (J.stop i H ∧ Fin H) ∨ (J.go i H ∧ ∃ Nx : Hp → Prop, (∀ H', Nx H' → ∃ m', m' < m ∧ W (i + 1) m' H') ∧ ∀ x H', J.yld i H x H' → tg x (wipe σ vs) H' fun σ2 H2 => wipe σ2 vs = wipe σ vs ∧ tt σ2 H2 fun b H3 =>
        if b = true then te σ2 H3 fun y H4 => ∃ acc, H4 D = some (.lst acc) ∧ acc.length < sizeLine ∧ Nx (upd H4 D (.lst (acc ++ [y]))) else Nx H3) := by
  refine ⟨fun i m H' => m = items.length - i ∧ i ≤ items.length ∧ ∃ (α' : List Addr) (M3 : Mem), Rp K α' M3 H' ∧ Ext α0 (fzH α0 M0 H0) α' (fzH α' M3 H') ∧ Wt M1 ws M3 ∧ lcM wt g c e n (wipeR ρ vs) (items.drop i) M3 = some M', ⟨items.length, by simp, Nat.zero_le _, _, _, R0, Ext.refl, w0, h⟩, ?_⟩
  rintro i m H' ⟨rfl, hle, α', M3, R3, x3, w3, e3⟩
  have x13 := x0.trans x3
  by_cases hlt : i < items.length
  · have hd : items.drop i = items[i] :: items.drop (i + 1) := List.drop_eq_getElem_cons hlt
    rw [hd] at e3
    unfold lcM at e3
    split at e3
    · rename_i ρ4 M4 e4
      obtain ⟨ok1, _⟩ := ok i α' M3 H' R3 x13 w3
      obtain ⟨go, yl⟩ := ok1 items[i] (List.getElem?_eq_getElem hlt)
      refine .inr ⟨go, fun H4 => ∃ m', m' < items.length - i ∧ m' = items.length - (i + 1) ∧ i + 1 ≤ items.length ∧ ∃ (α' : List Addr) (M3 : Mem), Rp K α' M3 H4 ∧ Ext α0 (fzH α0 M0 H0) α' (fzH α' M3 H4) ∧ Wt M1 ws M3 ∧ lcM wt g c e n (wipeR ρ vs) (items.drop (i + 1)) M3 = some M', fun _ z => z, fun y H3' hy => ?_⟩
      obtain ⟨R4, x4, r4⟩ := yl y H3' hy
      have er4 := (er.ext (x3.trans x4)).wipe (vs := vs)
      refine hg _ H3' α' _ M3 y items[i] ρ4 M4 _ R4 er4 r4 e4 fun σ5 α5 H5 R5 x5 er5 k5 => ⟨?_, ?_⟩
      · refine wipe_keep ?_ hsl k5
        rw [er5.1, hlg _ _ _ _ _ e4, wipeR_length, er.1]
      · split at e3
        · rename_i M6 e6
          split at e3
          · rename_i yv M7 e7
            split at e3
            · rename_i w8 M8 e8
              split at e3
              · rename_i hw
                refine hc σ5 H5 α5 ρ4 M4 true M6 _ R5 er5 e6 fun α6 H6 R6 x6 => ?_
                rw [if_pos rfl]
                refine he σ5 H6 α6 ρ4 M6 yv M7 _ R6 (er5.ext x6) e7 fun v7 α7 H7 R7 x7 r7 => ?_
                have xx := x3.trans (x4.trans (x5.trans (x6.trans x7)))
                obtain ⟨acc, ha, hz, R8, x8⟩ := lc_put R7 (xx.pre _ _ hD) r7 e8
                exact ⟨acc, ha, hz, _, by omega, rfl, hlt, α7, M8, R8, xx.trans x8, hwt _ hw, e3⟩
              · cases e3
            · cases e3
          · cases e3
        · rename_i M6 e6
          split at e3
          · rename_i hw
            refine hc σ5 H5 α5 ρ4 M4 false M6 _ R5 er5 e6 fun α6 H6 R6 x6 => ?_
            rw [if_neg (by decide)]
            exact ⟨_, by omega, rfl, hlt, α6, M6, R6, x3.trans (x4.trans (x5.trans x6)), hwt _ hw, e3⟩
          · cases e3
        · cases e3
    · cases e3
  · have hi' : i = items.length := by omega
    subst hi'
    rw [List.drop_length] at e3
    cases e3
    obtain ⟨_, st⟩ := ok items.length α' _ H' R3 x13 w3
    exact .inl ⟨st (Nat.le_refl _), hfin α' H' R3 x3⟩
noncomputable def lc2M (wt : Mem → Prop) (g : MG) (c : MT) (mi1 : MI) (g1 : MG) (c1 : MT) (e : ME) (vs1 : List Nat) (n : Nat) (ρ : Env) : List U → Mem → Option Mem
  | [], M => some M
  | u :: us, M => match g u ρ M with
    | some (ρ1, M1) => match c ρ1 M1 with
      | some (true, M2) => match mi1 ρ1 M2 with
        | some ((items1, ws1), M3) => match lcM (Wt M3 ws1) g1 c1 e n (wipeR ρ1 vs1) items1 M3 with
          | some M4 => if wt M4 then lc2M wt g c mi1 g1 c1 e vs1 n ρ us M4 else none
          | none => none
        | none => none
      | some (false, M2) => if wt M2 then lc2M wt g c mi1 g1 c1 e vs1 n ρ us M2 else none
      | none => none
    | none => none
noncomputable def eLc2 (mi : MI) (g : MG) (c : MT) (mi1 : MI) (g1 : MG) (c1 : MT) (e : ME) (vs vs1 : List Nat) : ME := fun ρ M => match mi ρ M with
  | some ((items, ws), M1) => match lc2M (Wt M1 ws) g c mi1 g1 c1 e vs1 M1.length (wipeR ρ vs) items (M1 ++ [.lst false []]) with
    | some M2 => some (.cell M1.length, M2)
    | none => none
  | none => none
theorem sim_lc2 {wi wi1 : L2.TI} {tg tg1 : TG} {tt tt1 : TT} {te : TE} {sl sl1 vs vs1 : List Nat} {mi mi1 : MI} {g g1 : MG} {c c1 : MT} {e : ME} (hi : SimI K wi mi) (hg : SimG K tg sl g) (hlg : LenG g) (hc : SimT K tt c) (hi1 : SimI K wi1 mi1) (hg1 : SimG K tg1 sl1 g1) (hlg1 : LenG g1) (hc1 : SimT K tt1 c1) (he : SimE K te e) (hsl : ∀ i ∈ sl, i ∈ vs) (hsl1 : ∀ i ∈ sl1, i ∈ vs1)
    (hws : WsOk mi) : SimE K (tLc2 wi tg tt wi1 tg1 tt1 te vs vs1) (eLc2 mi g c mi1 g1 c1 e vs vs1) := by
  intro σ H α ρ M u M' Q R er h P
  unfold eLc2 at h
  split at h
  · rename_i items ws M1 e1
    split at h
    · rename_i M2 e2
      cases h
      refine hi σ H α ρ M items ws M1 _ R er e1 fun J α1 H1 R1 x1 ok => ?_
      intro D hD
      obtain ⟨R1', x1', hD'⟩ := R1.newMem (o := .lst []) (c := .lst false []) hD rfl fun y => ⟨fun z => (by cases z), [], upd_same, .nil⟩
      refine ⟨fun i m H' => m = items.length - i ∧ i ≤ items.length ∧ ∃ (α' : List Addr) (M3 : Mem), Rp K α' M3 H' ∧ Ext (α1 ++ [D]) (fzH (α1 ++ [D]) (M1 ++ [.lst false []]) (upd H1 D (.lst []))) α' (fzH α' M3 H') ∧ Wt M1 ws M3 ∧ lc2M (Wt M1 ws) g c mi1 g1 c1 e vs1 M1.length (wipeR ρ vs) (items.drop i) M3 = some M', ⟨items.length, by simp, Nat.zero_le _, _, _, R1', Ext.refl, wt_app (hws _ _ _ _ _ e1), e2⟩, ?_⟩
      rintro i m H' ⟨rfl, hle, α', M3, R3, x3, w3, e3⟩
      have x13 := x1'.trans x3
      by_cases hlt : i < items.length
      · have hd : items.drop i = items[i] :: items.drop (i + 1) := List.drop_eq_getElem_cons hlt
        rw [hd] at e3
        unfold lc2M at e3
        split at e3
        · rename_i ρ4 M4 e4
          obtain ⟨ok1, _⟩ := ok i α' M3 H' R3 x13 w3
          obtain ⟨go, yl⟩ := ok1 items[i] (List.getElem?_eq_getElem hlt)
          refine .inr ⟨go, fun H4 => ∃ m', m' < items.length - i ∧ m' = items.length - (i + 1) ∧ i + 1 ≤ items.length ∧ ∃ (α' : List Addr) (M3 : Mem), Rp K α' M3 H4 ∧ Ext (α1 ++ [D]) (fzH (α1 ++ [D]) (M1 ++ [.lst false []]) (upd H1 D (.lst []))) α' (fzH α' M3 H4) ∧ Wt M1 ws M3 ∧ lc2M (Wt M1 ws) g c mi1 g1 c1 e vs1 M1.length (wipeR ρ vs) (items.drop (i + 1)) M3 = some M', fun _ z => z, fun y H3' hy => ?_⟩
          obtain ⟨R4, x4, r4⟩ := yl y H3' hy
          have er4 := (er.ext (x1.trans (x13.trans x4))).wipe (vs := vs)
          refine hg _ H3' α' _ M3 y items[i] ρ4 M4 _ R4 er4 r4 e4 fun σ5 α5 H5 R5 x5 er5 k5 => ⟨?_, ?_⟩
          · refine wipe_keep ?_ hsl k5
            rw [er5.1, hlg _ _ _ _ _ e4, wipeR_length, er.1]
          · split at e3
            · rename_i M6 e6
              split at e3
              · rename_i items1 ws1 M7 e7
                split at e3
                · rename_i M8 e8
                  split at e3
                  · rename_i hw
                    refine hc σ5 H5 α5 ρ4 M4 true M6 _ R5 er5 e6 fun α6 H6 R6 x6 => ?_
                    rw [if_pos rfl]
                    refine hi1 σ5 H6 α6 ρ4 M6 items1 ws1 M7 _ R6 (er5.ext x6) e7 fun J1 α7 H7 R7 x7 ok7 => ?_
                    have xx := x3.trans (x4.trans (x5.trans (x6.trans x7)))
                    refine lc_loop ok7 R7 Ext.refl (fun _ _ => rfl) (fun _ z => z) (er5.ext (x6.trans x7)) (xx.pre _ _ hD') hg1 hlg1 hc1 he hsl1 e8 fun α8 H8 R8 x8 => ?_
                    exact ⟨_, by omega, rfl, hlt, α8, M8, R8, xx.trans x8, hw, e3⟩
                  · cases e3
                · cases e3
              · cases e3
            · rename_i M6 e6
              split at e3
              · rename_i hw
                refine hc σ5 H5 α5 ρ4 M4 false M6 _ R5 er5 e6 fun α6 H6 R6 x6 => ?_
                rw [if_neg (by decide)]
                exact ⟨_, by omega, rfl, hlt, α6, M6, R6, x3.trans (x4.trans (x5.trans x6)), hw, e3⟩
              · cases e3
            · cases e3
        · cases e3
      · have hi' : i = items.length := by omega
        subst hi'
        rw [List.drop_length] at e3
        cases e3
        obtain ⟨_, st⟩ := ok items.length α' _ H' R3 x13 w3
        exact .inl ⟨st (Nat.le_refl _), P _ α' H' R3 (x1.trans x13) (.cell (x3.pre _ _ hD'))⟩
    · cases h
  · cases h
end
section
variable {X : Cx}
theorem qe_lc2 {elt tg iter tg1 iter1 : Expr} {ifs ifs1 : List Expr} {scope : Scope} {own : List (Str × Nat)} {vs1 : List Nat} {pos : Pos} {mi mi1 : MI} {sl sl1 : List Nat} {g g1 : MG} {c c1 : MT} {e : ME} (hc : X.calm = true) (hN : X.N.Nodup) (hi : QI X tg iter mi) (hw : WsOk mi) (ok : BlkOk X.N X.env.scope scope own) (hv : ∀ i ∈ vs1, i ∈ own.map (·.2)) (hlg : LenG g) (hsl : ∀ i ∈ sl, i ∈ own.map (·.2)) (hlg1 : LenG g1) (hsl1 : ∀ i ∈ sl1, i ∈ vs1)
    (hg : ∀ (s : Shared) (H : Hp) (C : Addr) (cl : List (Str × Addr)) (fp : List Addr), QG (X.blk s H scope (compEnvC scope cl C X.env) fp) tg sl g) (ht : ∀ (s : Shared) (H : Hp) (C : Addr) (cl : List (Str × Addr)) (fp : List Addr), QTs (X.blk s H scope (compEnvC scope cl C X.env) fp) ifs c)
    (hi1 : ∀ (s : Shared) (H : Hp) (C : Addr) (cl : List (Str × Addr)) (fp : List Addr), QI (X.blk s H scope (compEnvC scope cl C X.env) fp) tg1 iter1 mi1)
    (hg1 : ∀ (s : Shared) (H : Hp) (C : Addr) (cl : List (Str × Addr)) (fp : List Addr), QG (X.blk s H scope (compEnvC scope cl C X.env) fp) tg1 sl1 g1) (ht1 : ∀ (s : Shared) (H : Hp) (C : Addr) (cl : List (Str × Addr)) (fp : List Addr), QTs (X.blk s H scope (compEnvC scope cl C X.env) fp) ifs1 c1)
    (he : ∀ (s : Shared) (H : Hp) (C : Addr) (cl : List (Str × Addr)) (fp : List Addr), QE (X.blk s H scope (compEnvC scope cl C X.env) fp) elt e) (hs : ∀ x, foldedSetIterable iter X.env x = pure x := by intro _; rfl) (hs1 : ∀ env x, foldedSetIterable iter1 env x = pure x := by intro _ _; rfl) :
    QE X (.ListComp elt [⟨tg, iter, ifs, 0⟩, ⟨tg1, iter1, ifs1, 0⟩] scope pos) (eLc2 mi g c mi1 g1 c1 e (own.map (·.2)) vs1) := by
  obtain ⟨t, h1, h2⟩ := hi.ex
  exact ⟨_, pe_lc2 (g := tmG X.K sl g) (tt := tmT X.K c) (wi1 := tmI X.K mi1) (g1 := tmG X.K sl1 g1) (tt1 := tmT X.K c1) (te := tmE X.K e) hc hN h1 ok hv (fun s H C cl fp => (hg s H C cl fp).can) (fun s H C cl fp => (ht s H C cl fp).can) (fun s H C cl fp => (hi1 s H C cl fp).can) (fun s H C cl fp => (hg1 s H C cl fp).can) (fun s H C cl fp => (ht1 s H C cl fp).can) (fun s H C cl fp => (he s H C cl fp).can) hs hs1,
    sim_lc2 h2 (sim_tmG sl g) hlg (sim_tmT c) (sim_tmI mi1) (sim_tmG sl1 g1) hlg1 (sim_tmT c1) (sim_tmE e) hsl hsl1 hw⟩
theorem qs_setLc2 {i : Nat} {y : Str} {py : Pos} {elt tg iter tg1 iter1 : Expr} {ifs ifs1 : List Expr} {scope : Scope} {own : List (Str × Nat)} {vs1 : List Nat} {pos spos : Pos} {mi mi1 : MI} {sl sl1 : List Nat} {g g1 : MG} {c c1 : MT} {e : ME} (hc : X.calm = true) (hN : X.N.Nodup) (hy : X.N[i]? = some y) (hyl : X.env.scope.names.lookup y = some .local)
    (hsw : swapsWith (.ListComp elt [⟨tg, iter, ifs, 0⟩, ⟨tg1, iter1, ifs1, 0⟩] scope pos) (some (.Name y py)) spos.line X.env = pure true) (hi : QI X tg iter mi) (hw : WsOk mi) (ok : BlkOk X.N X.env.scope scope own) (hv : ∀ i ∈ vs1, i ∈ own.map (·.2)) (hlg : LenG g) (hsl : ∀ i ∈ sl, i ∈ own.map (·.2)) (hlg1 : LenG g1) (hsl1 : ∀ i ∈ sl1, i ∈ vs1)
    (hg : ∀ (s : Shared) (H : Hp) (C : Addr) (cl : List (Str × Addr)) (fp : List Addr), QG (X.blk s H scope (compEnvC scope cl C X.env) fp) tg sl g) (ht : ∀ (s : Shared) (H : Hp) (C : Addr) (cl : List (Str × Addr)) (fp : List Addr), QTs (X.blk s H scope (compEnvC scope cl C X.env) fp) ifs c)
    (hi1 : ∀ (s : Shared) (H : Hp) (C : Addr) (cl : List (Str × Addr)) (fp : List Addr), QI (X.blk s H scope (compEnvC scope cl C X.env) fp) tg1 iter1 mi1)
    (hg1 : ∀ (s : Shared) (H : Hp) (C : Addr) (cl : List (Str × Addr)) (fp : List Addr), QG (X.blk s H scope (compEnvC scope cl C X.env) fp) tg1 sl1 g1) (ht1 : ∀ (s : Shared) (H : Hp) (C : Addr) (cl : List (Str × Addr)) (fp : List Addr), QTs (X.blk s H scope (compEnvC scope cl C X.env) fp) ifs1 c1)
    (he : ∀ (s : Shared) (H : Hp) (C : Addr) (cl : List (Str × Addr)) (fp : List Addr), QE (X.blk s H scope (compEnvC scope cl C X.env) fp) elt e) (hs : ∀ x, foldedSetIterable iter X.env x = pure x := by intro _; rfl) (hs1 : ∀ env x, foldedSetIterable iter1 env x = pure x := by intro _ _; rfl) :
    QS X (.Assign [.Name y py] (.ListComp elt [⟨tg, iter, ifs, 0⟩, ⟨tg1, iter1, ifs1, 0⟩] scope pos) spos) (sAsg (eLc2 mi g c mi1 g1 c1 e (own.map (·.2)) vs1) (gNm i)) := by
  obtain ⟨t, h1, h2⟩ := hi.ex
  exact ⟨_, ps_setLc2 (g := tmG X.K sl g) (tt := tmT X.K c) (wi1 := tmI X.K mi1) (g1 := tmG X.K sl1 g1) (tt1 := tmT X.K c1) (te := tmE X.K e) hc hN hy hyl hsw h1 ok hv (fun s H C cl fp => (hg s H C cl fp).can) (fun s H C cl fp => (ht s H C cl fp).can) (fun s H C cl fp => (hi1 s H C cl fp).can) (fun s H C cl fp => (hg1 s H C cl fp).can) (fun s H C cl fp => (ht1 s H C cl fp).can) (fun s H C cl fp => (he s H C cl fp).can) hs hs1,
    sim_asg (sim_lc2 h2 (sim_tmG sl g) hlg (sim_tmT c) (sim_tmI mi1) (sim_tmG sl1 g1) hlg1 (sim_tmT c1) (sim_tmE e) hsl hsl1 hw) sim_gname⟩
/-- {} as a thing that never changes -/
def eDct0 : ME := fun _ M => some (.dat (.dict []), M)
theorem qe_dct0 {pos : Pos} : QE X (.Dict [] [] pos) eDct0 := by
  refine ⟨_, pe_dnewK, fun σ H α ρ M u M' Q R er e P p np => ?_⟩
  cases e
  obtain ⟨R3, x3, e3⟩ := R.newFix (o := .dK []) np
  exact P _ α _ R3 x3 (.dat (.dct (ds := []) e3 .nil))
end
end Pu

namespace Pu
open PySem PySem.Spec PyProof.Rows L2 Lw
open Classical
/-! ### what a plain run gives -/
def W {α : Type} (r : Option (α × Mem)) (Q : α → Mem → Prop) : Prop := ∃ u M', r = some (u, M') ∧ Q u M'
theorem W.mono {α : Type} {r : Option (α × Mem)} {Q Q' : α → Mem → Prop} (h : W r Q) (f : ∀ u M, Q u M → Q' u M) : W r Q' := by
  obtain ⟨u, M, e, q⟩ := h
  exact ⟨u, M, e, f u M q⟩
section
variable {α : Type} {Q : α → Mem → Prop} {QU : U → Mem → Prop} {QB : Bool → Mem → Prop} {QS : Out → Mem → Prop} {QA : List U → Mem → Prop} {ρ : Env} {M : Mem}
theorem w_some {u : α} : W (some (u, M)) Q ↔ Q u M := ⟨fun ⟨_, _, e, q⟩ => by cases e; exact q, fun q => ⟨u, M, rfl, q⟩⟩
theorem w_none : W (none : Option (α × Mem)) Q ↔ False := ⟨fun ⟨_, _, e, _⟩ => (by cases e), fun z => False.elim z⟩
theorem w_if {c : Prop} [Decidable c] {r : Option (α × Mem)} : W (if c then r else none) Q ↔ c ∧ W r Q := by
  by_cases h : c
  · simp [h]
  · simp [h, w_none]
theorem w_var {i : Nat} : W (eVar i ρ M) QU ↔ ∃ u, ρ[i]? = some (some u) ∧ QU u M := by
  unfold eVar
  constructor
  · rintro ⟨u, M', e, q⟩
    split at e
    · rename_i w h
      cases e
      exact ⟨_, h, q⟩
    · cases e
  · rintro ⟨u, e, q⟩
    rw [e]
    exact ⟨u, M, rfl, q⟩
theorem w_c {d : PyData} : W (eC d ρ M) QU ↔ QU (.dat d) M := w_some
theorem w_k {u : U} : W (eK u ρ M) QU ↔ QU u M := w_some
theorem w_op {f : F2} {ma mb : ME} : W (eOp f ma mb ρ M) QU ↔ W (ma ρ M) fun x M1 => W (mb ρ M1) fun y M2 => W (f x y M2) QU := by
  unfold eOp
  constructor
  · rintro ⟨u, M', e, q⟩
    split at e
    · rename_i x M1 e1
      split at e
      · rename_i y M2 e2
        exact ⟨x, M1, e1, y, M2, e2, u, M', e, q⟩
      · cases e
    · cases e
  · rintro ⟨x, M1, e1, y, M2, e2, u, M', e, q⟩
    rw [e1]
    simp only
    rw [e2]
    exact ⟨u, M', e, q⟩
theorem w_of {m : ME} : W (tOf m ρ M) QB ↔ W (m ρ M) fun u M1 => ∃ b, u = .dat (.bool b) ∧ QB b M1 := by
  unfold tOf
  constructor
  · rintro ⟨u, M', e, q⟩
    exact ⟨_, _, asB_some e, u, rfl, q⟩
  · rintro ⟨u, M', e, b, rfl, q⟩
    rw [e]
    exact ⟨b, M', rfl, q⟩
theorem w_trn {m : ME} : W (tTrN m ρ M) QB ↔ W (m ρ M) fun u M1 => ∃ b, truthN M1 u = some b ∧ QB b M1 := by
  unfold tTrN
  constructor
  · rintro ⟨u, M', e, q⟩
    split at e
    · rename_i w M1 e1
      obtain ⟨b, e2, e3⟩ := Option.map_eq_some_iff.mp e
      cases e3
      exact ⟨_, _, e1, _, e2, q⟩
    · cases e
  · rintro ⟨u, M', e, b, e2, q⟩
    rw [e]
    exact ⟨b, M', by simp only [e2]; rfl, q⟩
theorem w_tand {m n : MT} : W (tAndM m n ρ M) QB ↔ W (m ρ M) fun b M1 => match b with
    | true => W (n ρ M1) QB
    | false => QB false M1 := by
  unfold tAndM
  constructor
  · rintro ⟨u, M', e, q⟩
    split at e
    · rename_i M1 e1
      exact ⟨true, M1, e1, u, M', e, q⟩
    · rename_i M1 e1
      cases e
      exact ⟨false, _, e1, q⟩
    · cases e
  · rintro ⟨b, M1, e1, h⟩
    rw [e1]
    cases b with
    | true => exact h
    | false => exact ⟨false, M1, rfl, h⟩
theorem w_tor {m n : MT} : W (tOrM m n ρ M) QB ↔ W (m ρ M) fun b M1 => match b with
    | true => QB true M1
    | false => W (n ρ M1) QB := by
  unfold tOrM
  constructor
  · rintro ⟨u, M', e, q⟩
    split at e
    · rename_i M1 e1
      cases e
      exact ⟨true, _, e1, q⟩
    · rename_i M1 e1
      exact ⟨false, M1, e1, u, M', e, q⟩
    · cases e
  · rintro ⟨b, M1, e1, h⟩
    rw [e1]
    cases b with
    | true => exact ⟨true, M1, rfl, h⟩
    | false => exact h
theorem w_tnot {m : MT} : W (tNotM m ρ M) QB ↔ W (m ρ M) fun b M1 => QB (!b) M1 := by
  unfold tNotM
  constructor
  · rintro ⟨u, M', e, q⟩
    split at e
    · rename_i b M1 e1
      cases e
      exact ⟨b, _, e1, q⟩
    · cases e
  · rintro ⟨b, M1, e1, h⟩
    rw [e1]
    exact ⟨_, M1, rfl, h⟩
theorem w_and {m n : ME} : W (eAnd m n ρ M) QU ↔ W (m ρ M) fun u M1 => ∃ b, u = .dat (.bool b) ∧ match b with
    | true => W (n ρ M1) QU
    | false => QU (.dat (.bool false)) M1 := by
  unfold eAnd
  constructor
  · rintro ⟨u, M', e, q⟩
    split at e
    · rename_i M1 e1
      exact ⟨_, M1, e1, true, rfl, u, M', e, q⟩
    · rename_i M1 e1
      cases e
      exact ⟨_, _, e1, false, rfl, q⟩
    · cases e
  · rintro ⟨w, M1, e1, b, rfl, h⟩
    rw [e1]
    cases b with
    | true => exact h
    | false => exact ⟨_, M1, rfl, h⟩
theorem w_or {m n : ME} : W (eOr m n ρ M) QU ↔ W (m ρ M) fun u M1 => ∃ b, u = .dat (.bool b) ∧ match b with
    | true => QU (.dat (.bool true)) M1
    | false => W (n ρ M1) QU := by
  unfold eOr
  constructor
  · rintro ⟨u, M', e, q⟩
    split at e
    · rename_i M1 e1
      cases e
      exact ⟨_, _, e1, true, rfl, q⟩
    · rename_i M1 e1
      exact ⟨_, M1, e1, false, rfl, u, M', e, q⟩
    · cases e
  · rintro ⟨w, M1, e1, b, rfl, h⟩
    rw [e1]
    cases b with
    | true => exact ⟨_, M1, rfl, h⟩
    | false => exact h
theorem w_not {m : ME} : W (eNot m ρ M) QU ↔ W (m ρ M) fun u M1 => ∃ b, u = .dat (.bool b) ∧ QU (.dat (.bool (!b))) M1 := by
  unfold eNot
  constructor
  · rintro ⟨u, M', e, q⟩
    split at e
    · rename_i b M1 e1
      cases e
      exact ⟨_, _, e1, b, rfl, q⟩
    · cases e
  · rintro ⟨w, M1, e1, b, rfl, h⟩
    rw [e1]
    exact ⟨_, M1, rfl, h⟩
theorem w_neg {m : ME} : W (eNeg m ρ M) QU ↔ W (m ρ M) fun u M1 => ∃ i, u = .dat (.int i) ∧ QU (.dat (.int (-i))) M1 := by
  unfold eNeg
  constructor
  · rintro ⟨u, M', e, q⟩
    split at e
    · rename_i b M1 e1
      cases e
      exact ⟨_, _, e1, b, rfl, q⟩
    · cases e
  · rintro ⟨w, M1, e1, b, rfl, h⟩
    rw [e1]
    exact ⟨_, M1, rfl, h⟩
theorem w_ifx {c : MT} {m n : ME} : W (eIf c m n ρ M) QU ↔ W (c ρ M) fun b M1 => match b with
    | true => W (m ρ M1) QU
    | false => W (n ρ M1) QU := by
  unfold eIf
  constructor
  · rintro ⟨u, M', e, q⟩
    split at e
    · rename_i M1 e1
      exact ⟨true, M1, e1, u, M', e, q⟩
    · rename_i M1 e1
      exact ⟨false, M1, e1, u, M', e, q⟩
    · cases e
  · rintro ⟨b, M1, e1, h⟩
    rw [e1]
    cases b with
    | true => exact h
    | false => exact h
theorem w_nil : W (aNil ρ M) QA ↔ QA [] M := w_some
theorem w_cons {me : ME} {m : MA} : W (aCons me m ρ M) QA ↔ W (me ρ M) fun u M1 => W (m ρ M1) fun us M2 => QA (u :: us) M2 := by
  unfold aCons
  constructor
  · rintro ⟨u, M', e, q⟩
    split at e
    · rename_i x M1 e1
      split at e
      · rename_i y M2 e2
        cases e
        exact ⟨x, M1, e1, y, _, e2, q⟩
      · cases e
    · cases e
  · rintro ⟨x, M1, e1, y, M2, e2, q⟩
    rw [e1]
    simp only
    rw [e2]
    exact ⟨_, _, rfl, q⟩
theorem w_tup {m : MA} : W (eTup m ρ M) QU ↔ W (m ρ M) fun us M1 => us.length ≤ sizeLine ∧ QU (mkTup (frzAll us M1).1) (frzAll us M1).2 := by
  unfold eTup
  constructor
  · rintro ⟨u, M', e, q⟩
    split at e
    · rename_i us M1 e1
      split at e
      · rename_i h
        cases e
        exact ⟨us, M1, e1, h, q⟩
      · cases e
    · cases e
  · rintro ⟨us, M1, e1, h, q⟩
    rw [e1]
    simp only [if_pos h]
    exact ⟨_, _, rfl, q⟩
theorem w_lst {m : MA} : W (eLst m ρ M) QU ↔ W (m ρ M) fun us M1 => us.length ≤ sizeLine ∧ QU (.cell (frzAll us M1).2.length) ((frzAll us M1).2 ++ [.lst true (frzAll us M1).1]) := by
  unfold eLst
  constructor
  · rintro ⟨u, M', e, q⟩
    split at e
    · rename_i us M1 e1
      split at e
      · rename_i h
        cases e
        exact ⟨us, M1, e1, h, q⟩
      · cases e
    · cases e
  · rintro ⟨us, M1, e1, h, q⟩
    rw [e1]
    simp only [if_pos h]
    exact ⟨_, _, rfl, q⟩
theorem w_cb {f : FA} {m : MA} : W (eCB f m ρ M) QU ↔ W (m ρ M) fun us M1 => W (f us M1) QU := by
  unfold eCB
  constructor
  · rintro ⟨u, M', e, q⟩
    split at e
    · rename_i us M1 e1
      exact ⟨us, M1, e1, u, M', e, q⟩
    · cases e
  · rintro ⟨us, M1, e1, u, M', e, q⟩
    rw [e1]
    exact ⟨u, M', e, q⟩
theorem w_ck {f : FA} {g : List U → List U → List U} {m mk : MA} : W (eCK f g m mk ρ M) QU ↔ W (m ρ M) fun us M1 => W (mk ρ M1) fun ws M2 => W (f (g us ws) M2) QU := by
  unfold eCK
  constructor
  · rintro ⟨u, M', e, q⟩
    split at e
    · rename_i x M1 e1
      split at e
      · rename_i y M2 e2
        exact ⟨x, M1, e1, y, M2, e2, u, M', e, q⟩
      · cases e
    · cases e
  · rintro ⟨x, M1, e1, y, M2, e2, u, M', e, q⟩
    rw [e1]
    simp only
    rw [e2]
    exact ⟨u, M', e, q⟩
theorem w_mt {T : String} {f : FM} {mo : ME} {m : MA} : W (eMt T f mo m ρ M) QU ↔ W (mo ρ M) fun x M1 => isTyM T M1 x = true ∧ W (m ρ M1) fun us M2 => W (f x us M2) QU := by
  unfold eMt
  constructor
  · rintro ⟨u, M', e, q⟩
    split at e
    · rename_i x M1 e1
      split at e
      · rename_i h
        split at e
        · rename_i y M2 e2
          exact ⟨x, M1, e1, h, y, M2, e2, u, M', e, q⟩
        · cases e
      · cases e
    · cases e
  · rintro ⟨x, M1, e1, h, y, M2, e2, u, M', e, q⟩
    rw [e1]
    simp only [if_pos h]
    rw [e2]
    exact ⟨u, M', e, q⟩
theorem w_chain {f g : F2} {ma mb mc : ME} : W (eChain f g ma mb mc ρ M) QU ↔ W (ma ρ M) fun x M1 => W (mb ρ M1) fun y M2 => W (f x y M2) fun t M3 => ∃ b, t = .dat (.bool b) ∧ match b with
    | true => W (mc ρ M3) fun z M4 => W (g y z M4) QU
    | false => QU (.dat (.bool false)) M3 := by
  unfold eChain
  constructor
  · rintro ⟨u, M', e, q⟩
    split at e
    · rename_i x M1 e1
      split at e
      · rename_i y M2 e2
        refine ⟨x, M1, e1, y, M2, e2, ?_⟩
        split at e
        · rename_i M3 e3
          split at e
          · rename_i z M4 e4
            exact ⟨_, M3, e3, true, rfl, z, M4, e4, u, M', e, q⟩
          · cases e
        · rename_i M3 e3
          cases e
          exact ⟨_, _, e3, false, rfl, q⟩
        · cases e
      · cases e
    · cases e
  · rintro ⟨x, M1, e1, y, M2, e2, t, M3, e3, b, rfl, h⟩
    rw [e1]
    simp only
    rw [e2]
    simp only
    rw [e3]
    cases b with
    | true =>
      obtain ⟨z, M4, e4, u, M', e, q⟩ := h
      simp only
      rw [e4]
      exact ⟨u, M', e, q⟩
    | false => exact ⟨_, M3, rfl, h⟩
/-- slices -/
theorem w_onone {Q : Option Int → Mem → Prop} : W (oNone ρ M) Q ↔ Q none M := w_some
theorem w_osome {m : ME} {Q : Option Int → Mem → Prop} : W (oSome m ρ M) Q ↔ W (m ρ M) fun u M1 => ∃ i, u = .dat (.int i) ∧ Q (some i) M1 := by
  unfold oSome
  constructor
  · rintro ⟨u, M', e, q⟩
    split at e
    · rename_i b M1 e1
      cases e
      exact ⟨_, _, e1, b, rfl, q⟩
    · cases e
  · rintro ⟨w, M1, e1, b, rfl, h⟩
    rw [e1]
    exact ⟨_, M1, rfl, h⟩
theorem w_sl {ma : ME} {ml mh : MO} : W (eSl ma ml mh ρ M) QU ↔ W (ma ρ M) fun x M1 => W (ml ρ M1) fun l M2 => W (mh ρ M2) fun h M3 => W (slU x l h M3) QU := by
  unfold eSl
  constructor
  · rintro ⟨u, M', e, q⟩
    split at e
    · rename_i x M1 e1
      split at e
      · rename_i y M2 e2
        split at e
        · rename_i z M3 e3
          exact ⟨x, M1, e1, y, M2, e2, z, M3, e3, u, M', e, q⟩
        · cases e
      · cases e
    · cases e
  · rintro ⟨x, M1, e1, y, M2, e2, z, M3, e3, u, M', e, q⟩
    rw [e1]
    simp only
    rw [e2]
    simp only
    rw [e3]
    exact ⟨u, M', e, q⟩
theorem w_rev {ma : ME} : W (eRev ma ρ M) QU ↔ W (ma ρ M) fun x M1 => ∃ us, tupOf x = some us ∧ QU (mkTup us.reverse) M1 := by
  unfold eRev
  constructor
  · rintro ⟨u, M', e, q⟩
    split at e
    · rename_i x M1 e1
      obtain ⟨us, e2, e3⟩ := Option.map_eq_some_iff.mp e
      cases e3
      exact ⟨x, _, e1, us, e2, q⟩
    · cases e
  · rintro ⟨x, M1, e1, us, e2, q⟩
    rw [e1]
    simp only [e2, Option.map_some]
    exact ⟨_, _, rfl, q⟩
theorem w_dct0 : W (eDct0 ρ M) QU ↔ QU (.dat (.dict [])) M := w_some
/-- statements -/
theorem w_snil : W (sNil ρ M) QS ↔ QS (.nx ρ) M := w_some
theorem w_pass : W (sPass ρ M) QS ↔ QS (.nx ρ) M := w_some
theorem w_retn : W (sRetN ρ M) QS ↔ QS (.rt (.dat .none)) M := w_some
theorem w_brk : W (sBreak ρ M) QS ↔ QS (.bk ρ) M := w_some
theorem w_cont : W (sCont ρ M) QS ↔ QS (.ct ρ) M := w_some
theorem w_seq {m n : MS} : W (sSeq m n ρ M) QS ↔ W (m ρ M) fun o M1 => match o with
    | .nx ρ1 => W (n ρ1 M1) QS
    | o => QS o M1 := by
  unfold sSeq
  constructor
  · rintro ⟨u, M', e, q⟩
    split at e
    · rename_i ρ1 M1 e1
      exact ⟨_, M1, e1, u, M', e, q⟩
    · rename_i hne
      refine ⟨u, M', e, ?_⟩
      cases u with
      | nx ρ1 => exact (hne _ _ e).elim
      | rt u => exact q
      | bk ρ1 => exact q
      | ct ρ1 => exact q
  · rintro ⟨o, M1, e1, h⟩
    rw [e1]
    cases o with
    | nx ρ1 => exact h
    | rt u => exact ⟨_, _, rfl, h⟩
    | bk ρ1 => exact ⟨_, _, rfl, h⟩
    | ct ρ1 => exact ⟨_, _, rfl, h⟩
theorem w_ret {me : ME} : W (sRet me ρ M) QS ↔ W (me ρ M) fun u M1 => QS (.rt u) M1 := by
  unfold sRet
  constructor
  · rintro ⟨u, M', e, q⟩
    split at e
    · rename_i x M1 e1
      cases e
      exact ⟨x, _, e1, q⟩
    · cases e
  · rintro ⟨x, M1, e1, q⟩
    rw [e1]
    exact ⟨_, _, rfl, q⟩
theorem w_drop {me : ME} : W (sDrop me ρ M) QS ↔ W (me ρ M) fun _ M1 => QS (.nx ρ) M1 := by
  unfold sDrop
  constructor
  · rintro ⟨u, M', e, q⟩
    split at e
    · rename_i x M1 e1
      cases e
      exact ⟨x, _, e1, q⟩
    · cases e
  · rintro ⟨x, M1, e1, q⟩
    rw [e1]
    exact ⟨_, _, rfl, q⟩
theorem w_sif {c : MT} {m n : MS} : W (sIf c m n ρ M) QS ↔ W (c ρ M) fun b M1 => match b with
    | true => W (m ρ M1) QS
    | false => W (n ρ M1) QS := by
  unfold sIf
  constructor
  · rintro ⟨u, M', e, q⟩
    split at e
    · rename_i M1 e1
      exact ⟨true, M1, e1, u, M', e, q⟩
    · rename_i M1 e1
      exact ⟨false, M1, e1, u, M', e, q⟩
    · cases e
  · rintro ⟨b, M1, e1, h⟩
    rw [e1]
    cases b with
    | true => exact h
    | false => exact h
theorem w_asg {me : ME} {g : MG} : W (sAsg me g ρ M) QS ↔ W (me ρ M) fun u M1 => W (g u ρ M1) fun ρ' M2 => QS (.nx ρ') M2 := by
  unfold sAsg
  constructor
  · rintro ⟨u, M', e, q⟩
    split at e
    · rename_i x M1 e1
      split at e
      · rename_i y M2 e2
        cases e
        exact ⟨x, M1, e1, y, _, e2, q⟩
      · cases e
    · cases e
  · rintro ⟨x, M1, e1, y, M2, e2, q⟩
    rw [e1]
    simp only
    rw [e2]
    exact ⟨_, _, rfl, q⟩
theorem w_gnm {i : Nat} {u : U} {QG : Env → Mem → Prop} : W (gNm i u ρ M) QG ↔ QG (ρ.set i (some u)) M := w_some
theorem w_par {i j : Nat} {m : MA} : W (sPar i j m ρ M) QS ↔ W (m ρ M) fun us M1 => ∃ u w, us = [u, w] ∧ QS (.nx ((ρ.set i (some u)).set j (some w))) M1 := by
  unfold sPar
  constructor
  · rintro ⟨u, M', e, q⟩
    split at e
    · rename_i x y M1 e1
      cases e
      exact ⟨_, _, e1, x, y, rfl, q⟩
    · cases e
  · rintro ⟨us, M1, e1, x, y, rfl, q⟩
    rw [e1]
    exact ⟨_, _, rfl, q⟩
theorem w_gtp {n : Nat} {m : MGs} {u : U} {QG : Env → Mem → Prop} : W (gTp n m u ρ M) QG ↔ ∃ us, tupK u = some us ∧ us.length = n ∧ W (m us ρ M) QG := by
  unfold gTp
  constructor
  · rintro ⟨w, M', e, q⟩
    split at e
    · rename_i us e1
      split at e
      · rename_i h
        exact ⟨us, e1, h, w, M', e, q⟩
      · cases e
    · cases e
  · rintro ⟨us, e1, h, w, M', e, q⟩
    rw [e1]
    simp only [if_pos h]
    exact ⟨w, M', e, q⟩
theorem w_gcn {m : MG} {n : MGs} {u : U} {us : List U} {QG : Env → Mem → Prop} : W (gCn m n (u :: us) ρ M) QG ↔ W (m u ρ M) fun ρ1 M1 => W (n us ρ1 M1) QG := by
  unfold gCn
  constructor
  · rintro ⟨w, M', e, q⟩
    simp only at e
    split at e
    · rename_i ρ1 M1 e1
      exact ⟨ρ1, M1, e1, w, M', e, q⟩
    · cases e
  · rintro ⟨ρ1, M1, e1, w, M', e, q⟩
    simp only [e1]
    exact ⟨w, M', e, q⟩
theorem w_gn0 {QG : Env → Mem → Prop} : W (gN0 [] ρ M) QG ↔ QG ρ M := w_some
theorem w_aug {i : Nat} {me : ME} : W (sAug i me ρ M) QS ↔ ∃ a, ρ[i]? = some (some (.dat (.int a))) ∧ W (me ρ M) fun u M1 => ∃ b, u = .dat (.int b) ∧ QS (.nx (ρ.set i (some (.dat (.int (a + b)))))) M1 := by
  unfold sAug
  constructor
  · rintro ⟨u, M', e, q⟩
    split at e
    · rename_i a ea
      split at e
      · rename_i b M1 e1
        cases e
        exact ⟨a, ea, _, _, e1, b, rfl, q⟩
      · cases e
    · cases e
  · rintro ⟨a, ea, u, M1, e1, b, rfl, q⟩
    rw [ea]
    simp only
    rw [e1]
    exact ⟨_, _, rfl, q⟩
theorem w_fn {k n : Nat} {m : MS} {us : List U} : W (mkFn k n m us M) QU ↔ us.length = k ∧ W (m (us.map some ++ List.replicate (n - k) none) M) fun o M1 => match o with
    | .rt u => QU u M1
    | .nx _ => QU (.dat .none) M1
    | _ => False := by
  unfold mkFn
  constructor
  · rintro ⟨u, M', e, q⟩
    split at e
    · rename_i h
      refine ⟨h, ?_⟩
      split at e
      · rename_i e1
        cases e
        exact ⟨_, _, e1, q⟩
      · rename_i e1
        cases e
        exact ⟨_, _, e1, q⟩
      · cases e
    · cases e
  · rintro ⟨h, o, M1, e1, q⟩
    rw [if_pos h, e1]
    cases o with
    | rt u => exact ⟨_, _, rfl, q⟩
    | nx u => exact ⟨_, _, rfl, q⟩
    | bk _ => exact q.elim
    | ct _ => exact q.elim
theorem w_gsb {mo mi : ME} {u : U} {QG : Env → Mem → Prop} : W (gSb mo mi u ρ M) QG ↔ W (mo ρ M) fun o M1 => W (mi ρ M1) fun i M2 => ∃ k c f ws j, i = .dat (.int k) ∧ o = .cell c ∧ (frzU u M2).2[c]? = some (.lst f ws) ∧ ixN ws.length k = some j ∧ QG ρ ((frzU u M2).2.set c (.lst f (ws.set j (frzU u M2).1))) := by
  unfold gSb
  constructor
  · rintro ⟨w, M', e, q⟩
    split at e
    · rename_i o M1 e1
      split at e
      · rename_i k M2 e2
        split at e
        · rename_i c
          split at e
          · rename_i f ws hc
            split at e
            · rename_i j hj
              cases e
              exact ⟨_, M1, e1, _, M2, e2, k, c, f, ws, j, rfl, rfl, hc, hj, q⟩
            · cases e
          · cases e
        · cases e
      · cases e
    · cases e
  · rintro ⟨o, M1, e1, i, M2, e2, k, c, f, ws, j, rfl, rfl, hc, hj, q⟩
    rw [e1]
    simp only
    rw [e2]
    simp only
    rw [hc]
    simp only
    rw [hj]
    exact ⟨_, _, rfl, q⟩
/-- loops -/
theorem w_for {mi : MI} {g : MG} {b : MS} : W (sFor mi g b ρ M) QS ↔ W (mi ρ M) fun it M1 => W (forM (Wt M1 it.2) g b it.1 ρ M1) QS := by
  unfold sFor
  constructor
  · rintro ⟨w, M', e, q⟩
    split at e
    · rename_i items ws M1 e1
      exact ⟨_, M1, e1, w, M', e, q⟩
    · cases e
  · rintro ⟨⟨items, ws⟩, M1, e1, w, M', e, q⟩
    rw [e1]
    exact ⟨w, M', e, q⟩
theorem w_iseq {me : ME} {Q : List U × List Nat → Mem → Prop} : W (iSeq me ρ M) Q ↔ W (me ρ M) fun u M1 => ∃ us, seqOf M1 u = some us ∧ Q (us, cellsOf u) M1 := by
  unfold iSeq
  constructor
  · rintro ⟨w, M', e, q⟩
    split at e
    · rename_i u M1 e1
      split at e
      · rename_i us e2
        cases e
        exact ⟨u, _, e1, us, e2, q⟩
      · cases e
    · cases e
  · rintro ⟨u, M1, e1, us, e2, q⟩
    rw [e1]
    simp only
    rw [e2]
    exact ⟨_, _, rfl, q⟩
theorem w_irg1 {m : MA} {Q : List U × List Nat → Mem → Prop} : W (iRg1 m ρ M) Q ↔ W (m ρ M) fun us M1 => ∃ j, us = [.dat (.int j)] ∧ (-(2 ^ 62) ≤ j ∧ j < 2 ^ 62) ∧ Q (rangeU 0 j.toNat, []) M1 := by
  unfold iRg1
  constructor
  · rintro ⟨w, M', e, q⟩
    split at e
    · rename_i j M1 e1
      split at e
      · rename_i h
        cases e
        exact ⟨_, _, e1, j, rfl, h, q⟩
      · cases e
    · cases e
  · rintro ⟨us, M1, e1, j, rfl, h, q⟩
    rw [e1]
    simp only [if_pos h]
    exact ⟨_, _, rfl, q⟩
theorem w_lc {mi : MI} {g : MG} {c : MT} {e : ME} {vs : List Nat} : W (eLc mi g c e vs ρ M) QU ↔ W (mi ρ M) fun it M1 => ∃ M2, lcM (Wt M1 it.2) g c e M1.length (wipeR ρ vs) it.1 (M1 ++ [.lst false []]) = some M2 ∧ QU (.cell M1.length) M2 := by
  unfold eLc
  constructor
  · rintro ⟨w, M', h, q⟩
    split at h
    · rename_i items ws M1 e1
      split at h
      · rename_i M2 e2
        cases h
        exact ⟨_, M1, e1, _, e2, q⟩
      · cases h
    · cases h
  · rintro ⟨⟨items, ws⟩, M1, e1, M2, e2, q⟩
    rw [e1]
    simp only
    rw [e2]
    exact ⟨_, _, rfl, q⟩
theorem w_lc2 {mi mi1 : MI} {g g1 : MG} {c c1 : MT} {e : ME} {vs vs1 : List Nat} : W (eLc2 mi g c mi1 g1 c1 e vs vs1 ρ M) QU ↔ W (mi ρ M) fun it M1 => ∃ M2, lc2M (Wt M1 it.2) g c mi1 g1 c1 e vs1 M1.length (wipeR ρ vs) it.1 (M1 ++ [.lst false []]) = some M2 ∧ QU (.cell M1.length) M2 := by
  unfold eLc2
  constructor
  · rintro ⟨w, M', h, q⟩
    split at h
    · rename_i items ws M1 e1
      split at h
      · rename_i M2 e2
        cases h
        exact ⟨_, M1, e1, _, e2, q⟩
      · cases h
    · cases h
  · rintro ⟨⟨items, ws⟩, M1, e1, M2, e2, q⟩
    rw [e1]
    simp only
    rw [e2]
    exact ⟨_, _, rfl, q⟩
end
end Pu

namespace Pu
open PySem PySem.Spec PyProof.Rows L2 Lw
open Classical
section
variable {M : Mem} {Q : U → Mem → Prop} {i j : Int} {d e : PyData} {x y : Str}
theorem add_ii : addU (.dat (.int i)) (.dat (.int j)) M = some (.dat (.int (i + j)), M) := rfl
theorem sub_ii : subU (.dat (.int i)) (.dat (.int j)) M = some (.dat (.int (i - j)), M) := rfl
theorem add_bi {b : Bool} : addU (.dat (.bool b)) (.dat (.int j)) M = some (.dat (.int ((if b = true then 1 else 0) + j)), M) := rfl
theorem sub_bi {b : Bool} : subU (.dat (.bool b)) (.dat (.int j)) M = some (.dat (.int ((if b = true then 1 else 0) - j)), M) := rfl
theorem add_ss : W (addU (.dat (.str x)) (.dat (.str y)) M) Q ↔ x.length + y.length ≤ sizeLine ∧ Q (.dat (.str (x ++ y))) M := by
  have e : addU (.dat (.str x)) (.dat (.str y)) M = if x.length + y.length ≤ sizeLine then some (.dat (.str (x ++ y)), M) else none := by
    unfold addU orF fNI fSS addS
    simp only [Option.map]
    by_cases h : x.length + y.length ≤ sizeLine
    · simp [h]
    · simp [h, catT, catL, tupOf, lstOf]
  rw [e, w_if, w_some]
theorem add_tt {ds es : List PyData} : W (addU (.dat (.tuple ds)) (.dat (.tuple es)) M) Q ↔ ds.length + es.length ≤ sizeLine ∧ Q (.dat (.tuple (ds ++ es))) M := by
  have e : addU (.dat (.tuple ds)) (.dat (.tuple es)) M = if ds.length + es.length ≤ sizeLine then some (.dat (.tuple (ds ++ es)), M) else none := by
    unfold addU orF fNI fSS catT tupOf
    simp only [List.length_map]
    by_cases h : ds.length + es.length ≤ sizeLine
    · simp only [if_pos h]
      rw [← List.map_append, mkTup_dat]
    · simp [h, catL, lstOf]
  rw [e, w_if, w_some]
theorem add_ll {a b : U} {us ws : List U} (ha : lstOf M a = some us) (hb : lstOf M b = some ws) : W (addU a b M) Q ↔ us.length + ws.length ≤ sizeLine ∧ Q (.cell M.length) (M ++ [.lst false (us ++ ws)]) := by
  have na : tupOf a = none ∧ (∀ z, a ≠ .dat (.str z)) := by
    cases a with
    | dat d =>
      cases d with
      | list ds => exact ⟨rfl, fun z h => (by cases h)⟩
      | _ => cases ha
    | cell i => exact ⟨rfl, fun z h => (by cases h)⟩
    | _ => cases ha
  have nb : (∀ j, b ≠ .dat (.int j)) ∧ (∀ z, b ≠ .dat (.str z)) := by
    cases b with
    | dat d =>
      cases d with
      | list ds => exact ⟨fun z h => (by cases h), fun z h => (by cases h)⟩
      | _ => cases hb
    | cell i => exact ⟨fun z h => (by cases h), fun z h => (by cases h)⟩
    | _ => cases hb
  have e : addU a b M = if us.length + ws.length ≤ sizeLine then some (.cell M.length, M ++ [.lst false (us ++ ws)]) else none := by
    unfold addU orF
    have h1 : fNI (fun i j => .int (i + j)) a b M = none := by
      unfold fNI
      split
      · exact absurd rfl (nb.1 _)
      · rfl
    have h2 : fSS addS a b M = none := by
      unfold fSS
      split
      · exact absurd rfl (nb.2 _)
      · rfl
    have h3 : catT a b M = none := by
      unfold catT
      rw [na.1]
    simp only [h1, h2, h3]
    unfold catL
    simp only [ha, hb]
  rw [e, w_if, w_some]
theorem mul_ii : W (mulU (.dat (.int i)) (.dat (.int j)) M) Q ↔ CMulW i j ∧ Q (.dat (.int (i * j))) M := by
  have e : mulU (.dat (.int i)) (.dat (.int j)) M = if CMulW i j then some (.dat (.int (i * j)), M) else none := by
    unfold mulU orF fI
    by_cases h : CMulW i j
    · simp [h]
    · simp [h, mulS, repT, repL, tupOf, lstOf]
  rw [e, w_if, w_some]
theorem mul_s1 : mulU (.dat (.str x)) (.dat (.int 1)) M = some (.dat (.str x), M) := rfl
theorem mul_s0 : mulU (.dat (.str x)) (.dat (.int 0)) M = some (.dat (.str Str.empty), M) := rfl
theorem flat_map {k : Nat} {ds : List PyData} : (List.replicate k (ds.map U.dat)).flatten = ((List.replicate k ds).flatten).map U.dat := by
  induction k with
  | zero => rfl
  | succ k ih => rw [List.replicate_succ, List.replicate_succ, List.flatten_cons, List.flatten_cons, List.map_append, ih]
theorem mul_ti {ds : List PyData} : W (mulU (.dat (.tuple ds)) (.dat (.int j)) M) Q ↔ (ds ≠ [] ∧ 0 ≤ j ∧ j ≤ 1000 ∧ ds.length ≤ 1000) ∧ Q (.dat (.tuple (List.replicate j.toNat ds).flatten)) M := by
  have e : mulU (.dat (.tuple ds)) (.dat (.int j)) M = if ds ≠ [] ∧ 0 ≤ j ∧ j ≤ 1000 ∧ ds.length ≤ 1000 then some (.dat (.tuple (List.replicate j.toNat ds).flatten), M) else none := by
    unfold mulU orF
    have h1 : fI CMulW (fun i j => .int (i * j)) (.dat (.tuple ds)) (.dat (.int j)) M = none := rfl
    have h2 : mulS (.dat (.tuple ds)) (.dat (.int j)) M = none := rfl
    simp only [h1, h2]
    unfold repT tupOf
    simp only [List.length_map, ne_eq, List.map_eq_nil_iff, flat_map, mkTup_dat]
    by_cases h : ¬ds = [] ∧ 0 ≤ j ∧ j ≤ 1000 ∧ ds.length ≤ 1000
    · simp [h]
    · simp [h, repL, lstOf]
  rw [e, w_if, w_some]
theorem fdiv_ii : W (fdivU (.dat (.int i)) (.dat (.int j)) M) Q ↔ CDivW i j ∧ Q (.dat (.int (i / j))) M := by
  unfold fdivU fI
  simp only
  rw [w_if, w_some]
theorem mod_ii : W (modU (.dat (.int i)) (.dat (.int j)) M) Q ↔ 0 < j ∧ Q (.dat (.int (i % j))) M := by
  unfold modU fI
  simp only
  rw [w_if, w_some]
theorem pow_ii : W (powU (.dat (.int i)) (.dat (.int j)) M) Q ↔ CPowW i j ∧ Q (.dat (.int (i ^ j.toNat))) M := by
  unfold powU fI
  simp only
  rw [w_if, w_some]
theorem lt_ii : ltU (.dat (.int i)) (.dat (.int j)) M = some (.dat (.bool (decide (i < j))), M) := rfl
theorem le_ii : leU (.dat (.int i)) (.dat (.int j)) M = some (.dat (.bool (decide (i ≤ j))), M) := rfl
theorem gt_ii : gtU (.dat (.int i)) (.dat (.int j)) M = some (.dat (.bool (decide (j < i))), M) := rfl
theorem ge_ii : geU (.dat (.int i)) (.dat (.int j)) M = some (.dat (.bool (decide (j ≤ i))), M) := rfl
theorem eq_ds : eqU (.dat d) (.dat (.str y)) M = some (.dat (.bool (strIs y d)), M) := rfl
theorem eq_ii : eqU (.dat (.int i)) (.dat (.int j)) M = some (.dat (.bool (decide (i = j))), M) := by
  have e : eqU (.dat (.int i)) (.dat (.int j)) M = some (.dat (.bool (i == j)), M) := rfl
  rw [e]
  congr 4
theorem ne_ii : neU (.dat (.int i)) (.dat (.int j)) M = some (.dat (.bool (!decide (i = j))), M) := by
  have e : neU (.dat (.int i)) (.dat (.int j)) M = some (.dat (.bool (!(i == j))), M) := rfl
  rw [e]
  congr 4
/-- texts that are told apart: of any signs -/
theorem ne_ss : neU (.dat (.str x)) (.dat (.str y)) M = some (.dat (.bool (!decide (x = y))), M) := rfl
theorem eq_tt0 {ds : List PyData} : eqU (.dat (.tuple ds)) (.dat (.tuple [])) M = some (.dat (.bool (decide (ds.length = 0))), M) := by
  have h1 : eqDS (.dat (.tuple ds)) (.dat (.tuple [])) M = none := rfl
  have h2 : eqSD (.dat (.tuple ds)) (.dat (.tuple [])) M = none := rfl
  unfold eqU orF
  simp only [h1, h2]
  unfold eqT0 tupOf
  simp only [List.map_nil, List.length_map, Bool.false_eq_true, if_false]
theorem ne_tt0 {ds : List PyData} : neU (.dat (.tuple ds)) (.dat (.tuple [])) M = some (.dat (.bool (!decide (ds.length = 0))), M) := by
  unfold neU orF neSS eqT0 tupOf
  simp only [List.map_nil, List.length_map, if_true]
theorem is_non : isF false (.dat d) (.dat .none) M = some (.dat (.bool (isNonU (.dat d))), M) := rfl
/-- items -/
theorem atI_map {α β : Type} {f : α → β} {xs : List α} : atI (xs.map f) i = (atI xs i).map f := by
  unfold atI
  rw [List.length_map]
  cases ixN xs.length i with
  | none => rfl
  | some k => simp [List.getElem?_map]
theorem ix_t {ds : List PyData} : W (ixU (.dat (.tuple ds)) (.dat (.int i)) M) Q ↔ ∃ d, atI ds i = some d ∧ Q (.dat d) M := by
  have e : ixU (.dat (.tuple ds)) (.dat (.int i)) M = (atI ds i).map fun d => (.dat d, M) := by
    unfold ixU
    simp only [seqOf, tupOf, atI_map]
    cases atI ds i <;> rfl
  rw [e]
  constructor
  · rintro ⟨u, M', h, q⟩
    obtain ⟨d, h1, h2⟩ := Option.map_eq_some_iff.mp h
    cases h2
    exact ⟨d, h1, q⟩
  · rintro ⟨d, h, q⟩
    exact ⟨_, _, by rw [h]; rfl, q⟩
theorem ix_seq' {a : U} {us : List U} (h : seqOf M a = some us) : W (ixU a (.dat (.int i)) M) Q ↔ ∃ u, atI us i = some u ∧ Q u M := by
  have e : ixU a (.dat (.int i)) M = (atI us i).map fun u => (u, M) := by
    unfold ixU
    simp only [h]
  rw [e]
  constructor
  · rintro ⟨u, M', h, q⟩
    obtain ⟨d, h1, h2⟩ := Option.map_eq_some_iff.mp h
    cases h2
    exact ⟨_, h1, q⟩
  · rintro ⟨d, h, q⟩
    exact ⟨_, _, by rw [h]; rfl, q⟩
theorem ix_s : W (ixU (.dat (.str x)) (.dat (.int i)) M) Q ↔ x.length ≤ sizeLine ∧ ∃ c, atI x.cps.toList i = some c ∧ Q (.dat (.str ⟨#[c]⟩)) M := by
  have e : ixU (.dat (.str x)) (.dat (.int i)) M = if x.length ≤ sizeLine then (atI x.cps.toList i).map fun c => (.dat (.str ⟨#[c]⟩), M) else none := rfl
  rw [e, w_if]
  constructor
  · rintro ⟨hz, u, M', h, q⟩
    obtain ⟨d, h1, h2⟩ := Option.map_eq_some_iff.mp h
    cases h2
    exact ⟨hz, _, h1, q⟩
  · rintro ⟨hz, d, h, q⟩
    exact ⟨hz, _, _, by rw [h]; rfl, q⟩
theorem cutU_map {ds : List PyData} {lo hi : Option Int} : cutU (ds.map U.dat) lo hi = (Lw.cutD ds lo hi).map U.dat := by
  unfold cutU Lw.cutD
  simp only [List.length_map, List.map_take, List.map_drop]
theorem sl_t {ds : List PyData} {lo hi : Option Int} : slU (.dat (.tuple ds)) lo hi M = some (.dat (.tuple (Lw.cutD ds lo hi)), M) := by
  unfold slU tupOf
  simp only [cutU_map, mkTup_dat]
theorem sl_s {lo hi : Option Int} : W (slU (.dat (.str x)) lo hi M) Q ↔ x.length ≤ sizeLine ∧ Q (.dat (.str (cutS x lo hi))) M := by
  have e : slU (.dat (.str x)) lo hi M = if x.length ≤ sizeLine then some (.dat (.str (cutS x lo hi)), M) else none := rfl
  rw [e, w_if, w_some]
theorem len_t {ds : List PyData} : lenF [.dat (.tuple ds)] M = some (.dat (.int ds.length), M) := by
  unfold lenF
  simp only [seqOf, tupOf, List.length_map]
theorem len_q {a : U} {us : List U} (h : seqOf M a = some us) : lenF [a] M = some (.dat (.int us.length), M) := by
  unfold lenF
  simp only [h]
theorem len_s : W (lenF [.dat (.str x)] M) Q ↔ x.length ≤ sizeLine ∧ Q (.dat (.int x.length)) M := by
  have e : lenF [.dat (.str x)] M = if x.length ≤ sizeLine then some (.dat (.int x.length), M) else none := rfl
  rw [e, w_if, w_some]
theorem isi_int : isiF [.dat d, .ty "int"] M = some (.dat (.bool (isIntD d)), M) := by cases d <;> rfl
theorem isi_bool : isiF [.dat d, .ty "bool"] M = some (.dat (.bool (isBoolD d)), M) := by cases d <;> rfl
theorem isi_str : isiF [.dat d, .ty "str"] M = some (.dat (.bool (isStrD d)), M) := by cases d <;> rfl
theorem isi_tup : isiF [.dat d, .ty "tuple"] M = some (.dat (.bool (isTupD d)), M) := by cases d <;> rfl
theorem abs_i : absF [.dat (.int i)] M = some (.dat (.int (if i < 0 then -i else i)), M) := rfl
theorem min_ii : min2F [.dat (.int i), .dat (.int j)] M = some (.dat (.int (if j < i then j else i)), M) := rfl
theorem max_ii : max2F [.dat (.int i), .dat (.int j)] M = some (.dat (.int (if j > i then j else i)), M) := rfl
theorem int_i : intF [.dat (.int i)] M = some (.dat (.int i), M) := rfl
theorem int_b {b : Bool} : intF [.dat (.bool b)] M = some (.dat (.int (if b = true then 1 else 0)), M) := rfl
theorem bool_i : boolF [.dat (.int i)] M = some (.dat (.bool (i != 0)), M) := rfl
theorem bool_b {b : Bool} : boolF [.dat (.bool b)] M = some (.dat (.bool b), M) := rfl
theorem repr_d : W (reprF [.dat d] M) Q ↔ Ok d ∧ Q (.dat (.str d.shown)) M := by
  unfold reprF
  simp only
  rw [w_if, w_some]
theorem list_t {ds : List PyData} : listF [.dat (.tuple ds)] M = some (.cell M.length, M ++ [.lst true (ds.map .dat)]) := rfl
theorem frz_nil : frzAll [] M = ([], M) := rfl
theorem frz_dat {us : List U} : frzAll (.dat d :: us) M = (.dat d :: (frzAll us M).1, (frzAll us M).2) := rfl
theorem mk_nil : mkTup [] = .dat (.tuple []) := rfl
/-- tuples of data -/
theorem mk1 {a : PyData} : mkTup [.dat a] = .dat (.tuple [a]) := rfl
theorem mk2 {a b : PyData} : mkTup [.dat a, .dat b] = .dat (.tuple [a, b]) := rfl
theorem mk3 {a b c : PyData} : mkTup [.dat a, .dat b, .dat c] = .dat (.tuple [a, b, c]) := rfl
theorem lst_at {M : Mem} {f : Bool} {us : List U} {G : Mem} : (M ++ .lst f us :: G)[M.length]? = some (.lst f us) := by
  rw [List.getElem?_append_right (Nat.le_refl _)]
  simp
theorem seq_cell {c : Nat} {f : Bool} {us : List U} (h : M[c]? = some (.lst f us)) : seqOf M (.cell c) = some us := by
  unfold seqOf
  simp only [tupOf, lstOf, h]
theorem lst_cell {c : Nat} {f : Bool} {us : List U} (h : M[c]? = some (.lst f us)) : lstOf M (.cell c) = some us := by
  unfold lstOf
  simp only [h]
theorem seq_t {ds : List PyData} : seqOf M (.dat (.tuple ds)) = some (ds.map .dat) := rfl
theorem tup_c {c : Nat} {f : Bool} {ds : List PyData} (h : M[c]? = some (.lst f (ds.map .dat))) : tupleF [.cell c] M = some (.dat (.tuple ds), M) := by
  unfold tupleF
  simp only [tupOf, lst_cell h, frzAll_dat, mkTup_dat]
theorem all_c {c : Nat} {f : Bool} {bs : List Bool} (h : M[c]? = some (.lst f (bs.map fun b => .dat (.bool b)))) : allF [.cell c] M = some (.dat (.bool (bs.all id)), M) := by
  unfold allF bsF
  simp only [lst_cell h, Option.bind, boolsOf_map]
theorem any_c {c : Nat} {f : Bool} {bs : List Bool} (h : M[c]? = some (.lst f (bs.map fun b => .dat (.bool b)))) : anyF [.cell c] M = some (.dat (.bool (bs.any id)), M) := by
  unfold anyF bsF
  simp only [lst_cell h, Option.bind, boolsOf_map]
theorem sum_c {c : Nat} {f : Bool} {ns : List Int} (h : M[c]? = some (.lst f (ns.map fun b => .dat (.int b)))) : sumF [.cell c] M = some (.dat (.int ns.sum), M) := by
  unfold sumF
  simp only [lst_cell h, Option.bind, intsOf_map]
theorem ty_l {c : Nat} {f : Bool} {us : List U} (h : M[c]? = some (.lst f us)) : isTyM "list" M (.cell c) = true := by
  unfold isTyM
  simp only [if_true, lst_cell h, Option.isSome]
theorem ty_s : isTyM "str" M (.dat (.str x)) = true := rfl
theorem append_d {c : Nat} {f : Bool} {us : List U} (h : M[c]? = some (.lst f us)) (hz : us.length < sizeLine) : appendF (.cell c) [.dat d] M = some (.dat .none, M.set c (.lst f (us ++ [.dat d]))) := by
  unfold appendF frzU
  simp only [h, if_pos hz]
theorem extend_l {c : Nat} {a : U} {f : Bool} {us ws : List U} (h : M[c]? = some (.lst f us)) (ha : lstOf M a = some ws) (hz : us.length + ws.length ≤ sizeLine) : extendF (.cell c) [a] M = some (.dat .none, M.set c (.lst f (us ++ ws))) := by
  unfold extendF
  simp only [h, ha, if_pos hz]
end
/-! ### comprehensions over data, nothing changed in between but what is new -/
/-- cells that were there are as they were -/
def Same0 (M M' : Mem) : Prop := ∃ G, M' = M ++ G
theorem Same0.refl (M : Mem) : Same0 M M := ⟨[], by simp⟩
theorem Same0.trans {M M1 M2 : Mem} (h : Same0 M M1) (g : Same0 M1 M2) : Same0 M M2 := by
  obtain ⟨G, rfl⟩ := h
  obtain ⟨G', rfl⟩ := g
  exact ⟨G ++ G', by rw [List.append_assoc]⟩
theorem Same0.get {M M' : Mem} {i : Nat} {c : Cell} (h : Same0 M M') (e : M[i]? = some c) : M'[i]? = some c := by
  obtain ⟨G, rfl⟩ := h
  rw [List.getElem?_append_left (List.getElem?_eq_some_iff.mp e).1]
  exact e
theorem Same0.wt {M M' : Mem} {ws : List Nat} (h : Same0 M M') (hw : ∀ i ∈ ws, i < M.length) : Wt M ws M' := fun c hc => by
  obtain ⟨G, rfl⟩ := h
  exact List.getElem?_append_left (hw c hc)
/-- all but the hand is as it was -/
structure Fr (h : Nat) (M M' : Mem) : Prop where
  len : M.length ≤ M'.length
  get : ∀ i, i < M.length → i ≠ h → M'[i]? = M[i]?
theorem Fr.refl (h : Nat) (M : Mem) : Fr h M M := ⟨Nat.le_refl _, fun _ _ _ => rfl⟩
theorem Fr.trans {h : Nat} {M M1 M2 : Mem} (x : Fr h M M1) (y : Fr h M1 M2) : Fr h M M2 := ⟨Nat.le_trans x.len y.len, fun i hi n => (y.get i (Nat.lt_of_lt_of_le hi x.len) n).trans (x.get i hi n)⟩
theorem Fr.of0 {h : Nat} {M M' : Mem} (x : Same0 M M') : Fr h M M' := by
  obtain ⟨G, rfl⟩ := x
  exact ⟨by simp, fun i hi _ => List.getElem?_append_left hi⟩
theorem Fr.at {h : Nat} {M M' : Mem} {i : Nat} {c : Cell} (x : Fr h M M') (e : M[i]? = some c) (n : i ≠ h) : M'[i]? = some c := (x.get i (List.getElem?_eq_some_iff.mp e).1 n).trans e
theorem Fr.set {h : Nat} {M : Mem} {c : Cell} : Fr h M (M.set h c) := ⟨by rw [List.length_set]; exact Nat.le_refl _, fun i _ n => List.getElem?_set_ne (Ne.symm n)⟩
theorem Fr.push {h : Nat} {M M' : Mem} {G : Mem} (x : Fr h M M') : Fr h M (M' ++ G) := x.trans (Fr.of0 ⟨G, rfl⟩)
/-- what stands behind is changed -/
theorem Fr.setNew {h j : Nat} {M M' : Mem} {c : Cell} (x : Fr h M M') (hj : M.length ≤ j) : Fr h M (M'.set j c) := ⟨by rw [List.length_set]; exact x.len, fun i hi n => by
  rw [List.getElem?_set_ne (by omega)]
  exact x.get i hi n⟩
end Pu
namespace Pu
open PySem PySem.Spec PyProof.Rows L2 Lw
theorem sz0 : (0 ≤ sizeLine) = True := eq_true (by decide)
theorem sz1 : (1 ≤ sizeLine) = True := eq_true (by decide)
theorem sz2 : (2 ≤ sizeLine) = True := eq_true (by decide)
theorem sz3 : (3 ≤ sizeLine) = True := eq_true (by decide)
theorem sz4 : (4 ≤ sizeLine) = True := eq_true (by decide)
theorem sz5 : (5 ≤ sizeLine) = True := eq_true (by decide)
theorem sz6 : (6 ≤ sizeLine) = True := eq_true (by decide)
theorem sz7 : (7 ≤ sizeLine) = True := eq_true (by decide)
theorem sz8 : (8 ≤ sizeLine) = True := eq_true (by decide)
theorem sz9 : (9 ≤ sizeLine) = True := eq_true (by decide)
theorem sz10 : (10 ≤ sizeLine) = True := eq_true (by decide)
theorem sz11 : (11 ≤ sizeLine) = True := eq_true (by decide)
theorem sz12 : (12 ≤ sizeLine) = True := eq_true (by decide)
theorem sz13 : (13 ≤ sizeLine) = True := eq_true (by decide)
theorem sz14 : (14 ≤ sizeLine) = True := eq_true (by decide)
theorem sz15 : (15 ≤ sizeLine) = True := eq_true (by decide)
theorem sz16 : (16 ≤ sizeLine) = True := eq_true (by decide)
theorem sz17 : (17 ≤ sizeLine) = True := eq_true (by decide)
theorem sz18 : (18 ≤ sizeLine) = True := eq_true (by decide)
theorem sz19 : (19 ≤ sizeLine) = True := eq_true (by decide)
theorem sz20 : (20 ≤ sizeLine) = True := eq_true (by decide)
theorem sz21 : (21 ≤ sizeLine) = True := eq_true (by decide)
theorem sz22 : (22 ≤ sizeLine) = True := eq_true (by decide)
theorem sz23 : (23 ≤ sizeLine) = True := eq_true (by decide)
theorem sz24 : (24 ≤ sizeLine) = True := eq_true (by decide)
theorem sz25 : (25 ≤ sizeLine) = True := eq_true (by decide)
theorem sz26 : (26 ≤ sizeLine) = True := eq_true (by decide)
theorem sz27 : (27 ≤ sizeLine) = True := eq_true (by decide)
theorem sz28 : (28 ≤ sizeLine) = True := eq_true (by decide)
theorem sz29 : (29 ≤ sizeLine) = True := eq_true (by decide)
theorem sz30 : (30 ≤ sizeLine) = True := eq_true (by decide)
theorem frzU_dat {d : PyData} {M : Mem} : frzU (.dat d) M = (.dat d, M) := rfl
theorem frz_new {M : Mem} {ds : List PyData} {us : List U} : frzAll (.cell M.length :: us) (M ++ [.lst true (ds.map .dat)]) = (.dat (.list ds) :: (frzAll us (M ++ [.fz ds])).1, (frzAll us (M ++ [.fz ds])).2) := by
  have h : (M ++ [Cell.lst true (ds.map .dat)])[M.length]? = some (.lst true (ds.map .dat)) := List.getElem?_concat_length ..
  have e : frzU (.cell M.length) (M ++ [.lst true (ds.map .dat)]) = (.dat (.list ds), M ++ [.fz ds]) := by
    unfold frzU
    simp only [h, allDat_map]
    congr 1
    rw [List.set_append_right (h := Nat.le_refl _)]
    simp
  show (let (u', M1) := frzU (.cell M.length) (M ++ [.lst true (ds.map .dat)]); let (us', M2) := frzAll us M1; (u' :: us', M2)) = _
  rw [e]
theorem frz_new0 {M : Mem} {us : List U} : frzAll (.cell M.length :: us) (M ++ [.lst true []]) = (.dat (.list []) :: (frzAll us (M ++ [.fz []])).1, (frzAll us (M ++ [.fz []])).2) := frz_new (ds := [])
end Pu

namespace Pu
open PySem PySem.Spec PyProof.Rows L2 Lw
open Classical
/-- a comprehension without a test, over data -/
theorem lc_gen {wt : Mem → Prop} {g : MG} {e : ME} {n : Nat} {ρ : Env} (J : Nat → Mem → Prop) (R : U → PyData → Prop) (hset : ∀ k M c, J k M → J k (M.set n c)) (hwt : ∀ k M, J k M → wt M) :
    ∀ (rest : List U) (k : Nat) (M : Mem) (acc : List PyData), acc.length + rest.length ≤ sizeLine → J k M → M[n]? = some (.lst false (acc.map .dat)) →
      (∀ (j : Nat) (u : U) (M : Mem) (acc : List U), rest[j]? = some u → J (k + j) M → M[n]? = some (.lst false acc) → W (g u ρ M) fun ρ1 M1 => W (e ρ1 M1) fun y M2 => ∃ d, y = .dat d ∧ R u d ∧ J (k + j + 1) M2 ∧ M2[n]? = some (.lst false acc)) →
      ∃ (M2 : Mem) (ds : List PyData), lcM wt g tYesM e n ρ rest M = some M2 ∧ J (k + rest.length) M2 ∧ M2[n]? = some (.lst false ((acc ++ ds).map .dat)) ∧ ds.length = rest.length ∧ ∀ (j : Nat) (u : U) (d : PyData), rest[j]? = some u → ds[j]? = some d → R u d
  | [], k, M, acc, _, hJ, hn, _ => ⟨M, [], rfl, hJ, by rw [List.append_nil]; exact hn, rfl, fun j u d h => by simp at h⟩
  | u :: rest, k, M, acc, hl, hJ, hn, hs => by
    obtain ⟨ρ1, M1, e1, y, M2, e2, d, rfl, hR, hJ2, hn2⟩ := hs 0 u M _ rfl hJ hn
    have hz : (acc.map U.dat).length < sizeLine := by
      rw [List.length_map]
      simp only [List.length_cons] at hl
      omega
    have ha := append_d (d := d) hn2 hz
    have hJ3 := hset _ _ (.lst false (acc.map U.dat ++ [.dat d])) hJ2
    have hn3 : (M2.set n (.lst false (acc.map U.dat ++ [.dat d])))[n]? = some (.lst false ((acc ++ [d]).map .dat)) := by
      rw [List.getElem?_set_self (List.getElem?_eq_some_iff.mp hn2).1, List.map_append]
      rfl
    obtain ⟨M4, ds, e4, hJ4, hn4, l4, r4⟩ := lc_gen J R hset hwt rest (k + 1) _ (acc ++ [d]) (by simp only [List.length_cons, List.length_append, List.length_nil] at hl ⊢; omega) hJ3 hn3 (fun j w M' acc' hj hJ' hn' => by
      have := hs (j + 1) w M' acc' (by simpa using hj) (by rw [show k + (j + 1) = k + 1 + j by omega]; exact hJ') hn'
      rw [show k + (j + 1) + 1 = k + 1 + j + 1 by omega] at this
      exact this)
    refine ⟨M4, d :: ds, ?_, ?_, ?_, by simp [l4], fun j w z hj hz' => ?_⟩
    · unfold lcM
      rw [e1]
      simp only [tYesM]
      rw [e2]
      simp only
      rw [ha]
      simp only
      rw [if_pos (hwt _ _ hJ3)]
      exact e4
    · rw [List.length_cons, show k + (rest.length + 1) = k + 1 + rest.length by omega]
      exact hJ4
    · rw [hn4, List.append_assoc]
      rfl
    · cases j with
      | zero =>
        simp at hj hz'
        subst hj hz'
        exact hR
      | succ j => exact r4 j w z (by simpa using hj) (by simpa using hz')
/-- .. where all is plain -/
theorem lc_pure {M1 : Mem} {ws : List Nat} {g : MG} {e : ME} {ρ : Env} {items : List U} (f : U → PyData) (hws : ∀ c ∈ ws, c < M1.length) (hl : items.length ≤ sizeLine)
    (he : ∀ u ∈ items, ∀ M, Same0 M1 M → W (g u ρ M) fun ρ1 M2 => W (e ρ1 M2) fun y M3 => y = .dat (f u) ∧ Same0 M M3) :
    ∃ M2, lcM (Wt M1 ws) g tYesM e M1.length ρ items (M1 ++ [.lst false []]) = some M2 ∧ Same0 M1 M2 ∧ M2[M1.length]? = some (.lst false (items.map fun u => .dat (f u))) := by
  obtain ⟨M2, ds, e1, hJ, hn, hlen, hR⟩ := lc_gen (wt := Wt M1 ws) (g := g) (e := e) (n := M1.length) (ρ := ρ) (fun _ M => Same0 M1 M) (fun u d => d = f u)
    (fun k M c h => by
      obtain ⟨G, rfl⟩ := h
      refine ⟨G.set 0 c, ?_⟩
      rw [List.set_append_right (h := Nat.le_refl _)]
      simp) (fun k M h => h.wt hws) items 0 (M1 ++ [.lst false []]) [] (by simpa using hl) ⟨_, rfl⟩ (List.getElem?_concat_length ..) (fun j u M acc hj hJ hn => by
      obtain ⟨ρ1, M2, e1, y, M3, e2, rfl, s⟩ := he u (List.mem_of_getElem? hj) M hJ
      exact ⟨ρ1, M2, e1, _, M3, e2, _, rfl, rfl, hJ.trans s, s.get hn⟩)
  refine ⟨M2, e1, hJ, ?_⟩
  rw [hn, List.nil_append]
  congr 2
  apply List.ext_getElem?
  intro i
  rw [List.getElem?_map, List.getElem?_map]
  cases hi : items[i]? with
  | none =>
    have : ds[i]? = none := by
      rw [List.getElem?_eq_none_iff] at hi ⊢
      omega
    rw [this]
    rfl
  | some u =>
    have hil := (List.getElem?_eq_some_iff.mp hi).1
    have hd : ds[i]? = some ds[i] := List.getElem?_eq_getElem (by omega)
    rw [hd]
    show some (U.dat ds[i]) = some (U.dat (f u))
    rw [hR i u _ hi hd]
/-- .. with draws -/
theorem lc_draw {M1 : Mem} {ws : List Nat} {g : MG} {e : ME} {ρ : Env} {items : List U} (H : Mem → Nat → Prop) (h : Nat) (R : U → PyData → Prop) (hset : ∀ M k c, H M k → H (M.set M1.length c) k) (hws : ∀ c ∈ ws, c < M1.length ∧ c ≠ h) (hl : items.length ≤ sizeLine) (hlt : h < M1.length) (hH : H (M1 ++ [.lst false []]) 0)
    (he : ∀ (k : Nat) (u : U) (M : Mem), items[k]? = some u → H M k → Fr h M1 M → W (g u ρ M) fun ρ1 M2 => W (e ρ1 M2) fun y M3 => ∃ d, y = .dat d ∧ R u d ∧ H M3 (k + 1) ∧ Fr h M M3) :
    ∃ (M2 : Mem) (ds : List PyData), lcM (Wt M1 ws) g tYesM e M1.length ρ items (M1 ++ [.lst false []]) = some M2 ∧ H M2 items.length ∧ Fr h M1 M2 ∧ M2[M1.length]? = some (.lst false (ds.map .dat)) ∧ ds.length = items.length ∧ ∀ (j : Nat) (u : U) (d : PyData), items[j]? = some u → ds[j]? = some d → R u d := by
  obtain ⟨M2, ds, e1, hJ, hn, hlen, hR⟩ := lc_gen (wt := Wt M1 ws) (g := g) (e := e) (n := M1.length) (ρ := ρ) (fun k M => H M k ∧ Fr h M1 M) R
    (fun k M c x => ⟨hset _ _ _ x.1, x.2.setNew (Nat.le_refl _)⟩) (fun k M x c hc => x.2.get c (hws c hc).1 (hws c hc).2) items 0 (M1 ++ [.lst false []]) [] (by simpa using hl) ⟨hH, Fr.of0 ⟨_, rfl⟩⟩ (List.getElem?_concat_length ..) (fun j u M acc hj hJ hn => by
      obtain ⟨ρ1, M2, e1, y, M3, e2, d, rfl, r, hk, s⟩ := he j u M hj (by simpa using hJ.1) hJ.2
      exact ⟨ρ1, M2, e1, _, M3, e2, d, rfl, r, ⟨by simpa using hk, hJ.2.trans s⟩, s.at hn (by omega)⟩)
  refine ⟨M2, ds, e1, by simpa using hJ.1, hJ.2, ?_, hlen, hR⟩
  rw [hn, List.nil_append]
/-- .. each value known by its place -/
theorem lc_at {wt : Mem → Prop} {g : MG} {e : ME} {n : Nat} {ρ : Env} (J : Mem → Prop) (hset : ∀ M c, J M → J (M.set n c)) (hwt : ∀ M, J M → wt M) :
    ∀ (rest : List U) (F : List PyData) (M : Mem) (acc : List PyData), acc.length + rest.length ≤ sizeLine → rest.length = F.length → J M → M[n]? = some (.lst false (acc.map .dat)) →
      (∀ (j : Nat) (u : U) (M : Mem) (acc : List U), rest[j]? = some u → J M → M[n]? = some (.lst false acc) → W (g u ρ M) fun ρ1 M1 => W (e ρ1 M1) fun y M2 => ∃ d, F[j]? = some d ∧ y = .dat d ∧ J M2 ∧ M2[n]? = some (.lst false acc)) →
      ∃ (M2 : Mem), lcM wt g tYesM e n ρ rest M = some M2 ∧ J M2 ∧ M2[n]? = some (.lst false ((acc ++ F).map .dat))
  | [], F, M, acc, _, hF, hJ, hn, _ => ⟨M, rfl, hJ, by
      have : F = [] := List.eq_nil_of_length_eq_zero hF.symm
      rw [this, List.append_nil]
      exact hn⟩
  | u :: rest, [], M, acc, _, hF, _, _, _ => by cases hF
  | u :: rest, f :: F, M, acc, hl, hF, hJ, hn, hs => by
    obtain ⟨ρ1, M1, e1, y, M2, e2, d, hd, rfl, hJ2, hn2⟩ := hs 0 u M _ rfl hJ hn
    have : f = d := by simpa using hd
    subst this
    have hz : (acc.map U.dat).length < sizeLine := by
      rw [List.length_map]
      simp only [List.length_cons] at hl
      omega
    have ha := append_d (d := f) hn2 hz
    have hJ3 := hset _ (.lst false (acc.map U.dat ++ [.dat f])) hJ2
    have hn3 : (M2.set n (.lst false (acc.map U.dat ++ [.dat f])))[n]? = some (.lst false ((acc ++ [f]).map .dat)) := by
      rw [List.getElem?_set_self (List.getElem?_eq_some_iff.mp hn2).1, List.map_append]
      rfl
    obtain ⟨M4, e4, hJ4, hn4⟩ := lc_at J hset hwt rest F _ (acc ++ [f]) (by simp only [List.length_cons, List.length_append, List.length_nil] at hl ⊢; omega) (by simpa using hF) hJ3 hn3 (fun j w M' acc' hj hJ' hn' => hs (j + 1) w M' acc' (by simpa using hj) hJ' hn')
    refine ⟨M4, ?_, hJ4, by rw [hn4, List.append_assoc]; rfl⟩
    unfold lcM
    rw [e1]
    simp only [tYesM]
    rw [e2]
    simp only
    rw [ha]
    simp only
    rw [if_pos (hwt _ hJ3)]
    exact e4
theorem same_set {M1 M : Mem} {c : Cell} (h : Same0 M1 M) : Same0 M1 (M.set M1.length c) := by
  obtain ⟨G, rfl⟩ := h
  refine ⟨G.set 0 c, ?_⟩
  rw [List.set_append_right (h := Nat.le_refl _)]
  simp
/-- two walks, one in the other, all plain -/
theorem lc2_pure {M1 : Mem} {ws : List Nat} {g g1 : MG} {mi1 : MI} {e : ME} {vs1 : List Nat} {ρ : Env} (F : U → List PyData) (hws : ∀ c ∈ ws, c < M1.length) :
    ∀ (items : List U) (M : Mem) (acc : List PyData), acc.length + (items.flatMap F).length ≤ sizeLine → Same0 M1 M → M[M1.length]? = some (.lst false (acc.map .dat)) →
      (∀ u ∈ items, ∀ M, Same0 M1 M → W (g u ρ M) fun ρ1 M2 => W (mi1 ρ1 M2) fun it M3 => Same0 M M3 ∧ it.2 = [] ∧ it.1.length = (F u).length ∧
        ∀ (j : Nat) (w : U), it.1[j]? = some w → ∀ M', Same0 M1 M' → W (g1 w (wipeR ρ1 vs1) M') fun ρ2 M4 => W (e ρ2 M4) fun y M5 => ∃ d, (F u)[j]? = some d ∧ y = .dat d ∧ Same0 M' M5) →
      ∃ M2, lc2M (Wt M1 ws) g tYesM mi1 g1 tYesM e vs1 M1.length ρ items M = some M2 ∧ Same0 M1 M2 ∧ M2[M1.length]? = some (.lst false ((acc ++ items.flatMap F).map .dat))
  | [], M, acc, _, hs, hn, _ => ⟨M, rfl, hs, by rw [List.flatMap_nil, List.append_nil]; exact hn⟩
  | u :: items, M, acc, hl, hs, hn, he => by
    obtain ⟨ρ1, M2, e1, ⟨its, ws1⟩, M3, e3, s3, hw1, l1, hin⟩ := he u List.mem_cons_self M hs
    simp only at hw1 l1 hin
    subst hw1
    rw [List.flatMap_cons, List.length_append] at hl
    obtain ⟨M4, e4, hJ4, hn4⟩ := lc_at (wt := Wt M3 []) (g := g1) (e := e) (n := M1.length) (ρ := wipeR ρ1 vs1) (fun M => Same0 M1 M) (fun M c h => same_set h) (fun M h c hc => by cases hc) its (F u) M3 acc (by omega) l1 (hs.trans s3) (s3.get hn) (fun j w M' acc' hj hJ' hn' => by
      obtain ⟨ρ2, M5, e5, y, M6, e6, d, hd, rfl, s6⟩ := hin j w hj M' hJ'
      exact ⟨ρ2, M5, e5, _, M6, e6, d, hd, rfl, hJ'.trans s6, s6.get hn'⟩)
    obtain ⟨M5, e5, s5, n5⟩ := lc2_pure F hws items M4 (acc ++ F u) (by rw [List.length_append]; omega) hJ4 hn4 (fun w hw => he w (List.mem_cons_of_mem _ hw))
    refine ⟨M5, ?_, s5, by rw [n5, List.flatMap_cons, List.append_assoc]⟩
    unfold lc2M
    rw [e1]
    simp only [tYesM]
    rw [e3]
    simp only
    rw [e4]
    simp only
    rw [if_pos (hJ4.wt hws)]
    exact e5
/-- for, by an invariant -/
theorem for_inv {wt : Mem → Prop} {g : MG} {b : MS} {Q : Out → Mem → Prop} (I : Nat → Env → Mem → Prop) :
    ∀ (items : List U) (k : Nat) (ρ : Env) (M : Mem), I k ρ M →
      (∀ (j : Nat) (u : U) (ρ : Env) (M : Mem), items[j]? = some u → I (k + j) ρ M → W (g u ρ M) fun ρ1 M1 => W (b ρ1 M1) fun o M2 => match o with
        | .nx ρ2 => wt M2 ∧ I (k + j + 1) ρ2 M2
        | .ct ρ2 => wt M2 ∧ I (k + j + 1) ρ2 M2
        | .bk ρ2 => Q (.nx ρ2) M2
        | .rt v => Q (.rt v) M2) → (∀ ρ M, I (k + items.length) ρ M → Q (.nx ρ) M) → W (forM wt g b items ρ M) Q
  | [], k, ρ, M, hI, _, hq => w_some.mpr (hq ρ M hI)
  | u :: items, k, ρ, M, hI, hs, hq => by
    obtain ⟨ρ1, M1, e1, o, M2, e2, h⟩ := hs 0 u ρ M rfl hI
    have go : ∀ ρ2, wt M2 ∧ I (k + 0 + 1) ρ2 M2 → W (forM wt g b items ρ2 M2) Q := fun ρ2 z =>
      for_inv I items (k + 1) ρ2 M2 z.2 (fun j w ρ' M' hj hI' => by
        have := hs (j + 1) w ρ' M' (by simpa using hj) (by rw [show k + (j + 1) = k + 1 + j by omega]; exact hI')
        rw [show k + (j + 1) + 1 = k + 1 + j + 1 by omega] at this
        exact this) (fun ρ' M' h' => hq ρ' M' (by rw [List.length_cons, show k + (items.length + 1) = k + 1 + items.length by omega]; exact h'))
    unfold forM
    rw [e1]
    simp only
    rw [e2]
    cases o with
    | nx ρ2 =>
      simp only [if_pos h.1]
      exact go ρ2 h
    | ct ρ2 =>
      simp only [if_pos h.1]
      exact go ρ2 h
    | bk ρ2 => exact w_some.mpr h
    | rt v => exact w_some.mpr h
theorem range_get {lo : Int} {n j : Nat} {u : U} (h : (rangeU lo n)[j]? = some u) : j < n ∧ u = .dat (.int (lo + (j : Int))) := by
  unfold rangeU at h
  rw [List.getElem?_map] at h
  obtain ⟨k, h1, h2⟩ := Option.map_eq_some_iff.mp h
  obtain ⟨h3, h4⟩ := List.getElem?_eq_some_iff.mp h1
  rw [List.length_range] at h3
  rw [List.getElem_range] at h4
  subst h4 h2
  exact ⟨h3, rfl⟩
theorem range_len {lo : Int} {n : Nat} : (rangeU lo n).length = n := by
  unfold rangeU
  rw [List.length_map, List.length_range]
end Pu

namespace Pu
open PySem PySem.Spec PyProof.Rows L2 Lw
open Classical
/-! ### starred parts of a display -/
section
variable {X : Cx} {K : PySem.W.Frag} {me : ME} {m : MA} {e : Expr} {es : List Expr} {p : Pos}
def aStar (me : ME) (m : MA) : MA := fun ρ M => match me ρ M with
  | some (u, M1) => match seqOf M1 u with
    | some ws => match m ρ M1 with
      | some (us, M2) => some (ws ++ us, M2)
      | none => none
    | none => none
  | none => none
theorem sim_star {te : TE} {t : TA} (ha : SimE K te me) (hr : SimA K t m) : SimA K (StX.tStar K te t) (aStar me m) := by
  intro σ H α ρ M us M' Q R er h P
  unfold aStar at h
  split at h
  · rename_i u M1 e1
    split at h
    · rename_i ws e0
      split at h
      · rename_i zs M2 e2
        cases h
        refine ha σ H α ρ M u M1 _ R er e1 fun v α1 H1 R1 x1 r1 => ?_
        obtain ⟨p, xs, rfl, q, rs⟩ := seqOf_ok R1 r1 e0
        refine ⟨p, xs, rfl, q.symm, ?_⟩
        refine hr σ H1 α1 ρ M1 zs _ _ R1 (er.ext x1) e2 fun vs α2 H2 R2 x2 r2 => ?_
        exact P _ α2 H2 R2 (x1.trans x2) ((rs.ext x2).append r2)
      · cases h
    · cases h
  · cases h
theorem qa_star (ha : QE X e me) (hr : QA X es m) (hs : starEach (.Starred e p :: es) X.env = (true, eval e X.env) :: starEach es X.env := by rfl) : QA X (.Starred e p :: es) (aStar me m) := by
  obtain ⟨t, h1, h2⟩ := ha.ex
  obtain ⟨u, h3, h4⟩ := hr.ex
  exact ⟨_, StX.pa_star h1 h3 hs, sim_star h2 h4⟩
end
/-! ### sorted(list of data) -/
noncomputable def sortD (ds : List PyData) : List PyData := ds.mergeSort (PySem.W.dataLe false id)
def SortOk (ds : List PyData) : Prop := ds.length ≤ 1 ∨ (PySem.W.AllAlike ds ∧ PySem.W.Sortable ds ∧ ∀ d ∈ ds, d.depth ≤ 60)
def rSortD (K : PySem.W.Frag) : List V → Hp → VK → Prop := fun vs H Q => ∃ (a : Addr) (xs : List V) (G : Hp) (ds : List PyData), vs = [.ref a] ∧ SqL K H a xs ∧ Same G H ∧ DA true G xs ds ∧ SortOk ds ∧
  ∀ p ys, H p = none → p ≠ sysModules → DA true G ys (sortD ds) → Q (.ref p) (upd H p (.lst ys))
theorem each_of {G : Hp} : ∀ {xs : List V} {us : List Value} {ds : List PyData}, Vals xs us → DA true G xs ds → PySem.W.EachIs (fun u d => ∃ v, RelV v u ∧ D true G v d) us ds
  | _, _, _, .nil, .nil => .nil
  | _, _, _, .cons r t, .cons d t' => .cons ⟨_, r, d⟩ (each_of t t')
theorem of_each {G : Hp} : ∀ {us : List Value} {ds : List PyData}, PySem.W.EachIs (fun u d => ∃ v, RelV v u ∧ D true G v d) us ds → ∃ ys, Vals ys us ∧ DA true G ys ds
  | _, _, .nil => ⟨[], .nil, .nil⟩
  | _, _, .cons ⟨v, r, d⟩ t => by
    obtain ⟨ys, h1, h2⟩ := of_each t
    exact ⟨v :: ys, .cons r h1, .cons d h2⟩
theorem perm_one {α : Type} {out its : List α} (h : its.length ≤ 1) (hp : out.Perm its) : out = its := by
  match its, h, hp with
  | [], _, hp => exact List.perm_nil.mp hp
  | [x], _, hp => exact List.perm_singleton.mp hp
theorem sortD_one {ds : List PyData} (h : ds.length ≤ 1) : sortD ds = ds := by
  match ds, h with
  | [], _ => unfold sortD; simp
  | [d], _ => unfold sortD; simp
theorem call_sortD {X : Cx} {k : Nat} (room : Room k X.A) : CallR X (.builtin "sorted") (rSortD X.K) := by
  intro pins s σ H vs us Q I r h
  obtain ⟨a, xs, G, ds, rfl, hs, sg, da, ok, q⟩ := h
  obtain rfl := Vals.ref1 r
  obtain ⟨its, rv, pl, hz⟩ := I.list hs
  have e := each_of rv da
  have far : s.heap.objs.size + 1 ≠ sysModules := by
    have h1 : mainGlobals < X.base.objs.size := I.ok.mod.glob.lt
    have h2 := Nat.le_trans I.ok.bsz I.sz
    exact Nat.ne_of_gt (Nat.lt_succ_of_lt (Nat.lt_of_lt_of_le (Nat.lt_trans (by decide) h1) h2))
  have hlen : xs.length = ds.length := da.length
  have np : H (s.heap.objs.size + 1) = none := I.hok.fresh (Nat.le_succ _)
  have fin : ∀ (out : List Value) (ys : List V), Vals ys out → DA true G ys (sortD ds) → out.length ≤ sizeLine → EP X pins σ Q (.ref (s.heap.objs.size + 1)) { s with heap := sortedAll s.heap its out.toArray } := by
    intro out ys v1 d1 hl
    obtain ⟨n, hn⟩ := PyProof.Rows.sortedAll_at s.heap its out.toArray
    refine ⟨.ref _, upd H (s.heap.objs.size + 1) (.lst ys), I.laid (t' := s.toks) (fun _ _ => PyProof.Rows.sortedAll_old) (Nat.le_succ _) ⟨?_, out, n, v1, hn⟩, rfl, q _ _ np far d1⟩
    rw [v1.length]
    exact hl
  rcases ok with ok | ⟨ok1, ok2, ok3⟩
  · have hil : its.length ≤ 1 := by rw [← rv.length, hlen]; exact ok
    refine SrtO.sorted_ord (ltv := fun _ _ => false) ⟨fun _ _ h => (by cases h), fun _ _ _ _ _ => rfl⟩ pl.isList (by rw [← rv.length]; exact hz) (fun h2 => absurd h2 (by omega)) fun out h1 h2 => ?_
    rw [perm_one hil h2.perm]
    exact fin its xs rv (by rw [sortD_one ok]; exact da) (by rw [← rv.length]; exact hz)
  · have er : PySem.W.EachIs (fun v b => ∃ as, Reads s.heap v (id b) as) its ds := e.mono fun v d ⟨x, rx, hd⟩ => by
      obtain ⟨as, h1, _⟩ := D.reads I (hd.same sg) v rx
      exact ⟨as, h1⟩
    refine PySem.W.sorted_data pl.isList e er (by rw [List.map_id]; exact ok1) (by rw [List.map_id]; exact ok2) (by omega) (fun d hd => by have := room.un; have := ok3 d hd; show X.A.units + 2 + d.depth < cLine; omega) fun out hl ho => ?_
    obtain ⟨ys, v1, d1⟩ := of_each ho
    exact fin out ys v1 d1 (by omega)
noncomputable def sortF : FA := fun us M => match us with
  | [u] => match (lstOf M u).bind allDat with
    | some ds => if SortOk ds then some (.cell M.length, M ++ [.lst true ((sortD ds).map .dat)]) else none
    | none => none
  | _ => none
theorem vrs_of_da {K : PySem.W.Frag} {α : List Addr} {G : Hp} : ∀ {xs : List V} {ds : List PyData}, DA true G xs ds → VRs K α G xs (ds.map .dat)
  | _, _, .nil => .nil
  | _, _, .cons h t => .cons (.dat h) (vrs_of_da t)
theorem da_of_vrs {K : PySem.W.Frag} {α : List Addr} {G : Hp} : ∀ {xs : List V} {ds : List PyData}, VRs K α G xs (ds.map .dat) → DA true G xs ds
  | _, [], .nil => .nil
  | _, _ :: _, .cons h t => by
    cases h with
    | dat h => exact .cons h (da_of_vrs t)
theorem q_sort {X : Cx} {k : Nat} (room : Room k X.A) : QC X (.builtin "sorted") sortF := by
  refine ⟨_, call_sortD room, fun H α M xs us u M' Q R rx e P => ?_⟩
  unfold sortF at e
  split at e
  · rename_i w
    split at e
    · rename_i ds e1
      split at e
      · rename_i ok
        cases e
        obtain ⟨v, rfl, rv⟩ := vrs1 rx
        obtain ⟨ws, e2, e3⟩ := Option.bind_eq_some_iff.mp e1
        obtain ⟨p, ys, rfl, hq, r⟩ := lstOf_ok R rv e2
        rw [allDat_some e3] at r
        exact ⟨p, ys, fzH α M H, ds, rfl, SqL.of hq, fzH_le, da_of_vrs r, ok, fun l zs nl ns da => P.lstN R (vrs_of_da da) nl ns⟩
      · cases e
    · cases e
  · cases e
/-! ### a call that leaves the last parameter to its default None -/
def dfl (f : FA) : FA := fun us M => f (us ++ [.dat .none]) M
theorem vrs_app1 {K : PySem.W.Frag} {α : List Addr} {G : Hp} {vs : List V} {us : List U} (h : VRs K α G vs us) : VRs K α G (vs ++ [.non]) (us ++ [.dat .none]) := h.append (.cons (.dat .non) .nil)
theorem sim_callN {K : PySem.W.Frag} {f : FA} {t : TA} {m : MA} (ha : SimA K t m) : SimE K (tCall (spOf K f) [.non] E0 t) (eCB (dfl f) m) := by
  intro σ H α ρ M u M' Q R er e P
  unfold eCB at e
  split at e
  · rename_i us M1 e1
    refine ha σ H α ρ M us M1 _ R er e1 fun vs α' H' R' x r => ?_
    refine ⟨α', M1, us ++ [U.dat PyData.none], u, M', R', vrs_app1 r, ?_, P.after x⟩
    exact e
  · cases e
section
variable {X : Cx} {k : Nat} {g : Addr} {fd : FuncData} {ps : List Str} {f : FA} {x : Str} {p pos : Pos} {e : Expr} {es : List Expr} {m : MA}
theorem qe_callN (F : FnOk X.prog X.w X.K X.mg X.base CX0 k g fd ps (spOf X.K f)) (hr : Room k X.A) (hg : Gl X x) (hm : X.mg x = some (.ref g)) (hk : PySem.W.keepIn X.K (.ref g) = true) (hb : Binds X.K fd ps [.none])
    (ha : QA X (e :: es) m) (hdb : (x == ("__debug__" : Str)) = false := by decide) (he : starEach (e :: es) X.env = (false, eval e X.env) :: starEach es X.env := by rfl) (hpl : (backTo pos (starEach es X.env)).any (·.1) = false := by rfl) :
    QE X (.Call (.Name x p) (e :: es) [] pos) (eCB (dfl f) m) := by
  obtain ⟨t, h3, h4⟩ := ha.ex
  exact ⟨_, pe_call (E := E0) F hr hg hm hk hb (show Vals [V.non] [Value.none] from .cons (show L2.RelV .non .none from rfl) .nil) pass0 h3 hdb he hpl, sim_callN h4⟩
end
/-! ### {'k': x}, x a variable that holds data: it never changes -/
def eDctV (k : Str) (i : Nat) : ME := fun ρ M => match ρ[i]? with
  | some (some (.dat d)) => some (.dat (.dict [(.str k, d)]), M)
  | _ => none
theorem qe_dctV {X : Cx} {i : Nat} {x k : Str} {p1 p2 pos : Pos} {j} (hN : X.N[i]? = some x := by rfl) (hv : Vis X.env.scope x := by first | exact .inl rfl | exact .inr (.inl rfl) | exact .inr (.inr rfl)) (hd : (x == ("__debug__" : Str)) = false := by decide) (hcd : (x == ("__classdict__" : Str)) = false := by decide) :
    QE X (.Dict [some (.Constant (.str k) j p1)] [.Name x p2] pos) (eDctV k i) := by
  refine ⟨_, pe_disp (pps_cons pe_str (pe_var hN hv hd hcd) pps_nil) rfl rfl (by simp) (by simp), ?_⟩
  intro σ H α ρ M u M' Q R er e P p np
  unfold eDctV at e
  split at e
  · rename_i d e1
    cases e
    obtain ⟨v, e2, r⟩ := er.2 i _ e1
    refine ⟨v, e2, upd_same, [(.inr k, v)], rfl, by simp, ?_⟩
    have ee : upd (upd H p (.dK [])) p (.dK (mergeK [] [(.inr k, v)])) = upd H p (.dK [(.inr k, v)]) := by
      funext b
      by_cases h : b = p
      · subst h
        rw [upd_same, upd_same]
        rfl
      · rw [upd_ne h, upd_ne h, upd_ne h]
    rw [ee]
    obtain ⟨R3, x3, e3⟩ := R.newFix (o := .dK [(.inr k, v)]) np
    cases r with
    | dat hd => exact P _ α _ R3 x3 (.dat (.dct (ds := [d]) e3 (.cons (hd.same x3.same) .nil)))
  · cases e
/-! ### a text several times -/
def repS (z : Str) (k : Nat) : Str := ⟨(List.replicate k z.cps).foldl (· ++ ·) #[]⟩
def mulSN : F2 := fun a b M => match a, b with
  | .dat (.str z), .dat (.int j) => if 2 ≤ j ∧ j ≤ 1000 ∧ 1 ≤ z.length ∧ z.length ≤ 1000 then some (.dat (.str (repS z j.toNat)), M) else none
  | _, _ => none
def rMulSN : R2 := fun x y H Q => ∃ (z : Str) (j : Int), x = .str z ∧ y = .int j ∧ (2 ≤ j ∧ j ≤ 1000 ∧ 1 ≤ z.length ∧ z.length ≤ 1000) ∧ Q (.str (repS z j.toNat)) H
theorem op_mulSN {X : Cx} : OpR X (binaryOp .Mult) rMulSN := by
  intro pins s σ H x y v u Q I rx ry h
  obtain ⟨z, j, rfl, rfl, ⟨h1, h2, h3, h4⟩, q⟩ := h
  obtain ⟨t, rfl⟩ := rx
  obtain ⟨t', rfl⟩ := ry
  have hn : (j == 1 || z.length == 0) = false := by
    simp only [Bool.or_eq_false_iff, beq_eq_false_iff_ne]
    exact ⟨by omega, by omega⟩
  have hp : z.length * j.toNat ≤ 1000000 := Nat.mul_le_mul h4 (show j.toNat ≤ 1000 by omega)
  have hl : PySem.Builtin.Str.tooLong (z.length * j.toNat) = false := by
    unfold PySem.Builtin.Str.tooLong
    have : 1000000 ≤ sizeLine := by decide
    simp only [decide_eq_false_iff_not]
    omega
  refine PySem.P.mul_str (by rw [decide_eq_false (by omega), decide_eq_false (by omega)]; rfl) (fun _ _ => ?_) (fun _ _ => hl) ?_
  · have : (1000 : Int) ≤ (2 ^ 63 - 1) / j := by
      rw [Int.le_ediv_iff_mul_le (by omega)]
      omega
    omega
  · rw [if_neg (by omega), hn, if_neg (by decide)]
    exact ⟨fits_reps hl, .str (repS z j.toNat), H, I.tok _, ⟨_, rfl⟩, q⟩
theorem q_mulSN {X : Cx} : QOp X (binaryOp .Mult) mulSN := by
  refine ⟨_, op_mulSN, ?_⟩
  intro H α M x y a b u M' Q R rx ry e P
  unfold mulSN at e
  split at e
  · split at e
    · rename_i hz
      cases e
      exact ⟨_, _, vr_str rx, vr_int ry, hz, P.here R (.dat (.str _))⟩
    · cases e
  · cases e
noncomputable def mulZ : F2 := orF mulU mulSN
theorem q_mulZ {X : Cx} : QOp X (binaryOp .Mult) mulZ := q_mul.or q_mulSN
/-! ### a tuple that is unpacked at once: its lists aren't frozen -/
def eTupN (m : MA) : ME := fun ρ M => match m ρ M with
  | some (us, M1) => if us.length ≤ sizeLine then some (.tupc us, M1) else none
  | none => none
theorem qe_tupN {X : Cx} {es : List Expr} {m : MA} {pos : Pos} {x1} (h : QA X es m) : QE X (.Tuple es x1 pos) (eTupN m) := by
  obtain ⟨t, h1, h2⟩ := h.ex
  refine ⟨_, pe_tup h1, ?_⟩
  intro σ H α ρ M w M' Q R er e P
  unfold eTupN at e
  split at e
  · rename_i us M1 e1
    split at e
    · rename_i hz
      cases e
      refine h2 σ H α ρ M us _ _ R er e1 fun vs α' H' R' x r => ⟨by rw [r.length]; exact hz, fun p np => ?_⟩
      obtain ⟨R3, x3, e3⟩ := R'.newFix (o := .tup vs) np
      exact P _ α' _ R3 (x.trans x3) (.tupc e3 (r.ext x3))
    · cases e
  · cases e
end Pu

namespace Pu
open PySem PySem.Spec PyProof.Rows L2 Lw
open Classical
section
variable {ρ : Env} {M : Mem} {Q : U → Mem → Prop} {QA : List U → Mem → Prop}
theorem w_star {me : ME} {m : MA} : W (aStar me m ρ M) QA ↔ W (me ρ M) fun u M1 => ∃ ws, seqOf M1 u = some ws ∧ W (m ρ M1) fun us M2 => QA (ws ++ us) M2 := by
  unfold aStar
  constructor
  · rintro ⟨w, M', e, q⟩
    split at e
    · rename_i u M1 e1
      split at e
      · rename_i ws e2
        split at e
        · rename_i us M2 e3
          cases e
          exact ⟨u, M1, e1, ws, e2, us, _, e3, q⟩
        · cases e
      · cases e
    · cases e
  · rintro ⟨u, M1, e1, ws, e2, us, M2, e3, q⟩
    rw [e1]
    simp only [e2, e3]
    exact ⟨_, _, rfl, q⟩
theorem w_dctv {k : Str} {i : Nat} : W (eDctV k i ρ M) Q ↔ ∃ d, ρ[i]? = some (some (.dat d)) ∧ Q (.dat (.dict [(.str k, d)])) M := by
  unfold eDctV
  constructor
  · rintro ⟨w, M', e, q⟩
    split at e
    · rename_i d e1
      cases e
      exact ⟨d, e1, q⟩
    · cases e
  · rintro ⟨d, e1, q⟩
    rw [e1]
    exact ⟨_, _, rfl, q⟩
theorem w_tupn {m : MA} : W (eTupN m ρ M) Q ↔ W (m ρ M) fun us M1 => us.length ≤ sizeLine ∧ Q (.tupc us) M1 := by
  unfold eTupN
  constructor
  · rintro ⟨w, M', e, q⟩
    split at e
    · rename_i us M1 e1
      split at e
      · rename_i h
        cases e
        exact ⟨us, _, e1, h, q⟩
      · cases e
    · cases e
  · rintro ⟨us, M1, e1, h, q⟩
    rw [e1]
    simp only [if_pos h]
    exact ⟨_, _, rfl, q⟩
theorem w_for0 {wt : Mem → Prop} {g : MG} {b : MS} {Q : Out → Mem → Prop} : W (forM wt g b [] ρ M) Q ↔ Q (.nx ρ) M := w_some
theorem w_forc {wt : Mem → Prop} {g : MG} {b : MS} {u : U} {us : List U} {Q : Out → Mem → Prop} : W (forM wt g b (u :: us) ρ M) Q ↔ W (g u ρ M) fun ρ1 M1 => W (b ρ1 M1) fun o M2 => match o with
    | .nx ρ2 => wt M2 ∧ W (forM wt g b us ρ2 M2) Q
    | .ct ρ2 => wt M2 ∧ W (forM wt g b us ρ2 M2) Q
    | .bk ρ2 => Q (.nx ρ2) M2
    | .rt v => Q (.rt v) M2 := by
  constructor
  · rintro ⟨o, M', e, q⟩
    unfold forM at e
    split at e
    · rename_i ρ1 M1 e1
      refine ⟨ρ1, M1, e1, ?_⟩
      split at e
      · rename_i ρ2 M2 e2
        split at e
        · rename_i h
          exact ⟨_, _, e2, h, _, _, e, q⟩
        · cases e
      · rename_i ρ2 M2 e2
        split at e
        · rename_i h
          exact ⟨_, _, e2, h, _, _, e, q⟩
        · cases e
      · rename_i ρ2 M2 e2
        cases e
        exact ⟨_, _, e2, q⟩
      · rename_i v M2 e2
        cases e
        exact ⟨_, _, e2, q⟩
      · cases e
    · cases e
  · rintro ⟨ρ1, M1, e1, o, M2, e2, h⟩
    unfold forM
    rw [e1]
    simp only [e2]
    cases o with
    | nx ρ2 =>
      simp only [if_pos h.1]
      exact h.2
    | ct ρ2 =>
      simp only [if_pos h.1]
      exact h.2
    | bk ρ2 => exact ⟨_, _, rfl, h⟩
    | rt v => exact ⟨_, _, rfl, h⟩
theorem ge_tt {xs ys : List PyData} : W (geU (.dat (.tuple xs)) (.dat (.tuple ys)) M) Q ↔ CmpOk (.tuple xs) (.tuple ys) ∧ Q (.dat (.bool (!PySem.W.dataLt (.tuple xs) (.tuple ys)))) M := by
  have h1 : cmpI (fun i j => decide (j ≤ i)) (.dat (.tuple xs)) (.dat (.tuple ys)) M = none := rfl
  have e : geU (.dat (.tuple xs)) (.dat (.tuple ys)) M = if CmpOk (.tuple xs) (.tuple ys) then some (.dat (.bool (!PySem.W.dataLt (.tuple xs) (.tuple ys))), M) else none := by
    unfold geU orF
    simp only [h1]
    unfold cmpD
    simp only [datOf]
  rw [e, w_if, w_some]
theorem w_dfl {f : FA} {us : List U} : W (dfl f us M) Q ↔ W (f (us ++ [.dat .none]) M) Q := Iff.rfl
theorem sort_c {c : Nat} {f : Bool} {ds : List PyData} (h : M[c]? = some (.lst f (ds.map .dat))) : W (sortF [.cell c] M) Q ↔ SortOk ds ∧ Q (.cell M.length) (M ++ [.lst true ((sortD ds).map .dat)]) := by
  have e : sortF [.cell c] M = if SortOk ds then some (.cell M.length, M ++ [.lst true ((sortD ds).map .dat)]) else none := by
    unfold sortF
    simp only [lst_cell h, Option.bind, allDat_map]
  rw [e, w_if, w_some]
theorem repr_c {c : Nat} {f : Bool} {ds : List PyData} (h : M[c]? = some (.lst f (ds.map .dat))) : W (reprF [.cell c] M) Q ↔ (Ok (.list ds) ∧ (PyData.list ds).hasDict = false) ∧ Q (.dat (.str (PyData.list ds).shown)) M := by
  have hd : datOf M (.cell c) = some (.list ds) := by
    unfold datOf
    simp only [h, allDat_map, Option.map]
  have e : reprF [.cell c] M = if Ok (.list ds) ∧ (PyData.list ds).hasDict = false then some (.dat (.str (PyData.list ds).shown), M) else none := by
    unfold reprF
    simp only [hd]
  rw [e, w_if, w_some]
theorem sl_c {c : Nat} {f : Bool} {us : List U} {lo hi : Option Int} (h : M[c]? = some (.lst f us)) : slU (.cell c) lo hi M = some (.cell M.length, M ++ [.lst false (cutU us lo hi)]) := by
  unfold slU
  simp only [tupOf, lst_cell h]
theorem w_izp {m : MA} {Q : List U × List Nat → Mem → Prop} : W (iZp m ρ M) Q ↔ W (m ρ M) fun us M1 => ∃ a b xs ys, us = [a, b] ∧ seqOf M1 a = some xs ∧ seqOf M1 b = some ys ∧ isTp a = isTp b ∧ Q (zipU xs ys, cellsOf a ++ cellsOf b) M1 := by
  unfold iZp
  constructor
  · rintro ⟨w, M', e, q⟩
    split at e
    · rename_i a b M1 e1
      split at e
      · rename_i xs ys e2 e3
        split at e
        · rename_i h
          cases e
          exact ⟨_, _, e1, a, b, xs, ys, rfl, e2, e3, h, q⟩
        · cases e
      · cases e
    · cases e
  · rintro ⟨us, M1, e1, a, b, xs, ys, rfl, e2, e3, h, q⟩
    rw [e1]
    simp only [e2, e3, if_pos h]
    exact ⟨_, _, rfl, q⟩
theorem eq_dd {d e : PyData} (hd : SeqAt.shaped d = true) (he : SeqAt.shaped e = true) (h1 : ∀ z, d ≠ .str z) (h2 : ∀ z, e ≠ .str z) (h3 : eqT0 false (.dat d) (.dat e) M = none) : eqU (.dat d) (.dat e) M = some (.dat (.bool (PyData.eqv d e)), M) := by
  have a1 : eqDS (.dat d) (.dat e) M = none := by
    unfold eqDS
    split
    · rename_i z heq
      exact absurd (U.dat.inj ‹_›) (h2 _)
    · rfl
  have a2 : eqSD (.dat d) (.dat e) M = none := by
    unfold eqSD
    split
    · exact absurd (U.dat.inj ‹_›) (h1 _)
    · rfl
  unfold eqU orF
  simp only [a1, a2, h3]
  unfold eqD
  simp only [datOf, hd, he, and_self, if_true]
/-- a comprehension with a test, all plain -/
theorem lc_filter {M1 : Mem} {ws : List Nat} {g : MG} {c : MT} {e : ME} {ρ : Env} (p : PyData → Bool) (f : PyData → PyData) (hws : ∀ c ∈ ws, c < M1.length) :
    ∀ (ds : List PyData) (M : Mem) (acc : List PyData), acc.length + ds.length ≤ sizeLine → Same0 M1 M → M[M1.length]? = some (.lst false (acc.map .dat)) →
      (∀ d ∈ ds, ∀ M, Same0 M1 M → W (g (.dat d) ρ M) fun ρ1 M2 => W (c ρ1 M2) fun b M3 => b = p d ∧ Same0 M M3 ∧ (b = true → W (e ρ1 M3) fun y M4 => y = .dat (f d) ∧ Same0 M3 M4)) →
      ∃ M2, lcM (Wt M1 ws) g c e M1.length ρ (ds.map .dat) M = some M2 ∧ Same0 M1 M2 ∧ M2[M1.length]? = some (.lst false ((acc ++ (ds.filter p).map f).map .dat))
  | [], M, acc, _, hs, hn, _ => ⟨M, rfl, hs, by rw [List.filter_nil, List.map_nil, List.append_nil]; exact hn⟩
  | d :: ds, M, acc, hl, hs, hn, he => by
    obtain ⟨ρ1, M2, e1, b, M3, e2, hb, s3, he3⟩ := he d List.mem_cons_self M hs
    have hs3 := hs.trans s3
    have hn3 := s3.get hn
    cases b with
    | false =>
      obtain ⟨M4, e4, s4, g4⟩ := lc_filter p f hws ds M3 acc (by simp only [List.length_cons] at hl; omega) hs3 hn3 (fun x hx => he x (List.mem_cons_of_mem _ hx))
      refine ⟨M4, ?_, s4, ?_⟩
      · rw [List.map_cons]
        unfold lcM
        rw [e1]
        simp only [e2, if_pos (hs3.wt hws)]
        exact e4
      · rw [g4, List.filter_cons_of_neg (by rw [← hb]; exact Bool.false_ne_true)]
    | true =>
      obtain ⟨y, M4, e3, rfl, s4⟩ := he3 rfl
      have hs4 := hs3.trans s4
      have hn4 := s4.get hn3
      have hz : (acc.map U.dat).length < sizeLine := by
        rw [List.length_map]
        simp only [List.length_cons] at hl
        omega
      have ha := append_d (d := f d) hn4 hz
      have hs5 := same_set (c := .lst false (acc.map U.dat ++ [.dat (f d)])) hs4
      have hn5 : (M4.set M1.length (.lst false (acc.map U.dat ++ [.dat (f d)])))[M1.length]? = some (.lst false ((acc ++ [f d]).map .dat)) := by
        rw [List.getElem?_set_self (List.getElem?_eq_some_iff.mp hn4).1, List.map_append]
        rfl
      obtain ⟨M6, e6, s6, g6⟩ := lc_filter p f hws ds _ (acc ++ [f d]) (by simp only [List.length_cons, List.length_append, List.length_nil] at hl ⊢; omega) hs5 hn5 (fun x hx => he x (List.mem_cons_of_mem _ hx))
      refine ⟨M6, ?_, s6, ?_⟩
      · rw [List.map_cons]
        unfold lcM
        rw [e1]
        simp only [e2, e3, ha, if_pos (hs5.wt hws)]
        exact e6
      · rw [g6, List.filter_cons_of_pos (by rw [← hb]), List.map_cons, List.append_assoc]
        rfl
end
end Pu

namespace Pu
open PySem PySem.Spec PyProof.Rows L2 Lw
open Classical
/-- two walks, the inner one over a list that is made anew -/
theorem lc2_gen {M1 : Mem} {ws : List Nat} {g g1 : MG} {mi1 : MI} {e : ME} {vs1 : List Nat} {ρ : Env} (F : U → List PyData) (hws : ∀ c ∈ ws, c < M1.length) :
    ∀ (items : List U) (M : Mem) (acc : List PyData), acc.length + (items.flatMap F).length ≤ sizeLine → Same0 M1 M → M[M1.length]? = some (.lst false (acc.map .dat)) →
      (∀ u ∈ items, ∀ M, Same0 M1 M → M1.length < M.length → W (g u ρ M) fun ρ1 M2 => W (mi1 ρ1 M2) fun it M3 => Same0 M M3 ∧ (∀ c ∈ it.2, c < M3.length ∧ c ≠ M1.length) ∧ it.1.length = (F u).length ∧
        ∀ (j : Nat) (w : U), it.1[j]? = some w → ∀ M', Same0 M1 M' → W (g1 w (wipeR ρ1 vs1) M') fun ρ2 M4 => W (e ρ2 M4) fun y M5 => ∃ d, (F u)[j]? = some d ∧ y = .dat d ∧ Same0 M' M5) →
      ∃ M2, lc2M (Wt M1 ws) g tYesM mi1 g1 tYesM e vs1 M1.length ρ items M = some M2 ∧ Same0 M1 M2 ∧ M2[M1.length]? = some (.lst false ((acc ++ items.flatMap F).map .dat))
  | [], M, acc, _, hs, hn, _ => ⟨M, rfl, hs, by rw [List.flatMap_nil, List.append_nil]; exact hn⟩
  | u :: items, M, acc, hl, hs, hn, he => by
    obtain ⟨ρ1, M2, e1, ⟨its, ws1⟩, M3, e3, s3, hw1, l1, hin⟩ := he u List.mem_cons_self M hs (List.getElem?_eq_some_iff.mp hn).1
    simp only at hw1 l1 hin
    rw [List.flatMap_cons, List.length_append] at hl
    obtain ⟨M4, e4, hJ4, hn4⟩ := lc_at (wt := Wt M3 ws1) (g := g1) (e := e) (n := M1.length) (ρ := wipeR ρ1 vs1) (fun M => Same0 M1 M ∧ Wt M3 ws1 M) (fun M c h => ⟨same_set h.1, fun c' hc' => by
        rw [List.getElem?_set_ne (Ne.symm (hw1 c' hc').2)]
        exact h.2 c' hc'⟩) (fun M h => h.2) its (F u) M3 acc (by omega) l1 ⟨hs.trans s3, fun c hc => rfl⟩ (s3.get hn) (fun j w M' acc' hj hJ' hn' => by
      obtain ⟨ρ2, M5, e5, y, M6, e6, d, hd, rfl, s6⟩ := hin j w hj M' hJ'.1
      refine ⟨ρ2, M5, e5, _, M6, e6, d, hd, rfl, ⟨hJ'.1.trans s6, fun c hc => ?_⟩, s6.get hn'⟩
      have h0 : M3[c]? = some (M3[c]'(hw1 c hc).1) := List.getElem?_eq_getElem _
      rw [h0]
      exact s6.get ((hJ'.2 c hc).trans h0))
    obtain ⟨M5, e5, s5, n5⟩ := lc2_gen F hws items M4 (acc ++ F u) (by rw [List.length_append]; omega) hJ4.1 hn4 (fun w hw => he w (List.mem_cons_of_mem _ hw))
    refine ⟨M5, ?_, s5, by rw [n5, List.flatMap_cons, List.append_assoc]⟩
    unfold lc2M
    rw [e1]
    simp only [tYesM]
    rw [e3]
    simp only
    rw [e4]
    simp only
    rw [if_pos (hJ4.1.wt hws)]
    exact e5
section
variable {M : Mem}
theorem ne_dd {d e : PyData} (hd : SeqAt.shaped d = true) (he : SeqAt.shaped e = true) (h1 : ∀ z, d ≠ .str z) (h3 : eqT0 true (.dat d) (.dat e) M = none) : neU (.dat d) (.dat e) M = some (.dat (.bool (!PyData.eqv d e)), M) := by
  have a1 : neSS (.dat d) (.dat e) M = none := by
    unfold neSS
    split
    · exact absurd (U.dat.inj ‹_›) (h1 _)
    · rfl
  unfold neU orF
  simp only [a1, h3]
  unfold neD
  simp only [datOf, hd, he, and_self, if_true]
end
end Pu

namespace Z
open PySem PySem.Spec PyProof.Rows L2 Lw Pu

def kb_under_0_held_bar {α : Type} : List α → List α → List α
  | [], [b0, b1] => [b0, b1]
  | _, _ => []
theorem kb_under_0_held_bar_rel {K : PySem.W.Frag} {α : List Addr} {G : Hp} {vs zs : List V} {us ws : List U} (r1 : VRs K α G vs us) (r2 : VRs K α G zs ws) : VRs K α G (kb_under_0_held_bar vs zs) (kb_under_0_held_bar us ws) := by
  by_cases h : vs.length = 0 ∧ zs.length = 2
  · match vs, us, zs, ws, r1, r2, h with
    | _, _, _, _, .nil, .cons hb0 (.cons hb1 .nil), _ => exact .cons hb0 (.cons hb1 .nil)
  · have e1 := r1.length
    have e2 := r2.length
    have z1 : kb_under_0_held_bar vs zs = [] := by
      unfold kb_under_0_held_bar
      split
      · exact absurd ⟨rfl, rfl⟩ h
      · rfl
    have z2 : kb_under_0_held_bar us ws = [] := by
      unfold kb_under_0_held_bar
      split
      · exact absurd ⟨e1, e2⟩ h
      · rfl
    rw [z1, z2]
    exact .nil
def kb_first_shadow_0_program {α : Type} : List α → List α → List α
  | [], [b0] => [b0]
  | _, _ => []
theorem kb_first_shadow_0_program_rel {K : PySem.W.Frag} {α : List Addr} {G : Hp} {vs zs : List V} {us ws : List U} (r1 : VRs K α G vs us) (r2 : VRs K α G zs ws) : VRs K α G (kb_first_shadow_0_program vs zs) (kb_first_shadow_0_program us ws) := by
  by_cases h : vs.length = 0 ∧ zs.length = 1
  · match vs, us, zs, ws, r1, r2, h with
    | _, _, _, _, .nil, .cons hb0 .nil, _ => exact .cons hb0 .nil
  · have e1 := r1.length
    have e2 := r2.length
    have z1 : kb_first_shadow_0_program vs zs = [] := by
      unfold kb_first_shadow_0_program
      split
      · exact absurd ⟨rfl, rfl⟩ h
      · rfl
    have z2 : kb_first_shadow_0_program us ws = [] := by
      unfold kb_first_shadow_0_program
      split
      · exact absurd ⟨e1, e2⟩ h
      · rfl
    rw [z1, z2]
    exact .nil
def kb_bit_deeds_0_program {α : Type} : List α → List α → List α
  | [], [b0] => [b0]
  | _, _ => []
theorem kb_bit_deeds_0_program_rel {K : PySem.W.Frag} {α : List Addr} {G : Hp} {vs zs : List V} {us ws : List U} (r1 : VRs K α G vs us) (r2 : VRs K α G zs ws) : VRs K α G (kb_bit_deeds_0_program vs zs) (kb_bit_deeds_0_program us ws) := by
  by_cases h : vs.length = 0 ∧ zs.length = 1
  · match vs, us, zs, ws, r1, r2, h with
    | _, _, _, _, .nil, .cons hb0 .nil, _ => exact .cons hb0 .nil
  · have e1 := r1.length
    have e2 := r2.length
    have z1 : kb_bit_deeds_0_program vs zs = [] := by
      unfold kb_bit_deeds_0_program
      split
      · exact absurd ⟨rfl, rfl⟩ h
      · rfl
    have z2 : kb_bit_deeds_0_program us ws = [] := by
      unfold kb_bit_deeds_0_program
      split
      · exact absurd ⟨e1, e2⟩ h
      · rfl
    rw [z1, z2]
    exact .nil
def kb_is_shadow_0_thing_program_guard {α : Type} : List α → List α → List α
  | [], [b0, b1, b2] => [b1, b0, b2]
  | _, _ => []
theorem kb_is_shadow_0_thing_program_guard_rel {K : PySem.W.Frag} {α : List Addr} {G : Hp} {vs zs : List V} {us ws : List U} (r1 : VRs K α G vs us) (r2 : VRs K α G zs ws) : VRs K α G (kb_is_shadow_0_thing_program_guard vs zs) (kb_is_shadow_0_thing_program_guard us ws) := by
  by_cases h : vs.length = 0 ∧ zs.length = 3
  · match vs, us, zs, ws, r1, r2, h with
    | _, _, _, _, .nil, .cons hb0 (.cons hb1 (.cons hb2 .nil)), _ => exact .cons hb1 (.cons hb0 (.cons hb2 .nil))
  · have e1 := r1.length
    have e2 := r2.length
    have z1 : kb_is_shadow_0_thing_program_guard vs zs = [] := by
      unfold kb_is_shadow_0_thing_program_guard
      split
      · exact absurd ⟨rfl, rfl⟩ h
      · rfl
    have z2 : kb_is_shadow_0_thing_program_guard us ws = [] := by
      unfold kb_is_shadow_0_thing_program_guard
      split
      · exact absurd ⟨e1, e2⟩ h
      · rfl
    rw [z1, z2]
    exact .nil
def kb_is_shadow_2_guard {α : Type} : List α → List α → List α
  | [a0, a1], [b0] => [a0, a1, b0]
  | _, _ => []
theorem kb_is_shadow_2_guard_rel {K : PySem.W.Frag} {α : List Addr} {G : Hp} {vs zs : List V} {us ws : List U} (r1 : VRs K α G vs us) (r2 : VRs K α G zs ws) : VRs K α G (kb_is_shadow_2_guard vs zs) (kb_is_shadow_2_guard us ws) := by
  by_cases h : vs.length = 2 ∧ zs.length = 1
  · match vs, us, zs, ws, r1, r2, h with
    | _, _, _, _, .cons ha0 (.cons ha1 .nil), .cons hb0 .nil, _ => exact .cons ha0 (.cons ha1 (.cons hb0 .nil))
  · have e1 := r1.length
    have e2 := r2.length
    have z1 : kb_is_shadow_2_guard vs zs = [] := by
      unfold kb_is_shadow_2_guard
      split
      · exact absurd ⟨rfl, rfl⟩ h
      · rfl
    have z2 : kb_is_shadow_2_guard us ws = [] := by
      unfold kb_is_shadow_2_guard
      split
      · exact absurd ⟨e1, e2⟩ h
      · rfl
    rw [z1, z2]
    exact .nil
def topS (i : Nat) : Stmt := PySem.Challenge.pw_stilltold_k19_bars_and_shadows_of_anythi.main.body.getD i (.Pass ⟨0, 0, 0, 0⟩)
abbrev s_is_whole : Stmt := topS 1
abbrev s_is_within : Stmt := topS 2
abbrev s_is_bit : Stmt := topS 3
abbrev s_is_row : Stmt := topS 4
abbrev s_free : Stmt := topS 6
abbrev s_guard_or_free : Stmt := topS 7
abbrev s_under : Stmt := topS 9
abbrev s_is_shadow : Stmt := topS 10
abbrev s_first_shadow : Stmt := topS 11
abbrev s_bit_deeds : Stmt := topS 12
abbrev s_bit_rows : Stmt := topS 13
abbrev s__law_hand : Stmt := topS 15
abbrev s__law_take : Stmt := topS 16
abbrev s__law_of : Stmt := topS 17
abbrev s__law_names : Stmt := topS 18
abbrev s__law_pick : Stmt := topS 19
abbrev s__law_prog : Stmt := topS 20
abbrev s__law_phase : Stmt := topS 21
abbrev s__law_gate : Stmt := topS 22
abbrev s__law_number : Stmt := topS 23
abbrev s__law_letters : Stmt := topS 24
abbrev s__law_all_bits : Stmt := topS 25
abbrev s__law_free : Stmt := topS 26
abbrev s__law_note : Stmt := topS 27
abbrev s__law_is_one : Stmt := topS 28
abbrev s__law_bars_right : Stmt := topS 29
abbrev s__law_below : Stmt := topS 30
abbrev s__law_is_shade : Stmt := topS 31
abbrev s__law_things : Stmt := topS 32
abbrev s_law : Stmt := topS 33
theorem sc_is_whole : FnScope ["thing"] ["thing"] (defScope s_is_whole) := ⟨rfl, rfl, rfl, by decide +kernel, rfl, by decide +kernel, by decide +kernel⟩
theorem sc_is_within : FnScope ["thing", "least", "most"] ["thing", "least", "most"] (defScope s_is_within) := ⟨rfl, rfl, rfl, by decide +kernel, rfl, by decide +kernel, by decide +kernel⟩
theorem sc_is_bit : FnScope ["thing"] ["thing"] (defScope s_is_bit) := ⟨rfl, rfl, rfl, by decide +kernel, rfl, by decide +kernel, by decide +kernel⟩
theorem sc_is_row : FnScope ["thing", "least", "most"] ["thing", "least", "most"] (defScope s_is_row) := ⟨rfl, rfl, rfl, by decide +kernel, rfl, by decide +kernel, by decide +kernel⟩
theorem sc_free : FnScope ["deeds"] ["deeds"] (defScope s_free) := ⟨rfl, rfl, rfl, by decide +kernel, rfl, by decide +kernel, by decide +kernel⟩
theorem sc_guard_or_free : FnScope ["program", "guard"] ["program", "guard"] (defScope s_guard_or_free) := ⟨rfl, rfl, rfl, by decide +kernel, rfl, by decide +kernel, by decide +kernel⟩
theorem sc_under : FnScope ["held", "bar", "thing"] ["held", "bar"] (defScope s_under) := ⟨rfl, rfl, rfl, by decide +kernel, rfl, by decide +kernel, by decide +kernel⟩
theorem sc_is_shadow : FnScope ["program", "thing", "guard", "place", "mode", "bits", "cells", "deeds", "modes", "bit"] ["program", "thing", "guard"] (defScope s_is_shadow) := ⟨rfl, rfl, rfl, by decide +kernel, rfl, by decide +kernel, by decide +kernel⟩
theorem sc_first_shadow : FnScope ["program"] ["program"] (defScope s_first_shadow) := ⟨rfl, rfl, rfl, by decide +kernel, rfl, by decide +kernel, by decide +kernel⟩
theorem sc_bit_deeds : FnScope ["program", "name", "many", "bits"] ["program"] (defScope s_bit_deeds) := ⟨rfl, rfl, rfl, by decide +kernel, rfl, by decide +kernel, by decide +kernel⟩
theorem sc_bit_rows : FnScope ["many", "rows", "place", "row", "bit"] ["many"] (defScope s_bit_rows) := ⟨rfl, rfl, rfl, by decide +kernel, rfl, by decide +kernel, by decide +kernel⟩
theorem sc__law_hand : FnScope ["_law_script", "_law_nth", "_law_cell", "_law_great"] ["_law_script", "_law_nth"] (defScope s__law_hand) := ⟨rfl, rfl, rfl, by decide +kernel, rfl, by decide +kernel, by decide +kernel⟩
theorem sc__law_take : FnScope ["_law_hand_here", "_law_upon", "_law_digit", "_law_prime", "_law_drawn"] ["_law_hand_here", "_law_upon"] (defScope s__law_take) := ⟨rfl, rfl, rfl, by decide +kernel, rfl, by decide +kernel, by decide +kernel⟩
theorem sc__law_of : FnScope ["_law_hand_here", "_law_some"] ["_law_hand_here", "_law_some"] (defScope s__law_of) := ⟨rfl, rfl, rfl, by decide +kernel, rfl, by decide +kernel, by decide +kernel⟩
theorem sc__law_names : FnScope ["_law_hand_here", "_law_count", "_law_letters_here", "_law_start", "_law_leap", "_law_long", "_law_turn", "_law_stem", "_law_cut", "_law_found", "_law_letter", "_law_word"] ["_law_hand_here", "_law_count"] (defScope s__law_names) := ⟨rfl, rfl, rfl, by decide +kernel, rfl, by decide +kernel, by decide +kernel⟩
theorem sc__law_pick : FnScope ["_law_hand_here", "_law_rooms", "_law_count", "_law_left", "_law_some", "_law_way", "_law_parts", "_law_name", "_law_number_here", "_law_turn"] ["_law_hand_here", "_law_rooms", "_law_count", "_law_left"] (defScope s__law_pick) := ⟨rfl, rfl, rfl, by decide +kernel, rfl, by decide +kernel, by decide +kernel⟩
theorem sc__law_prog : FnScope ["_law_hand_here", "_law_rooms", "_law_phases", "_law_most_came", "_law_some", "_law_names_here", "_law_count", "_law_acts", "_law_spot", "_law_turn"] ["_law_hand_here", "_law_rooms", "_law_phases", "_law_most_came"] (defScope s__law_prog) := ⟨rfl, rfl, rfl, by decide +kernel, rfl, by decide +kernel, by decide +kernel⟩
theorem sc__law_phase : FnScope ["_law_hand_here", "_law_names_here", "_law_acts", "_law_phases", "_law_rules", "_law_name", "_law_count", "_law_becomes", "_law_tells", "_law_room"] ["_law_hand_here", "_law_names_here", "_law_acts", "_law_phases"] (defScope s__law_phase) := ⟨rfl, rfl, rfl, by decide +kernel, rfl, by decide +kernel, by decide +kernel⟩
theorem sc__law_gate : FnScope ["_law_hand_here", "_law_acts", "_law_most_places", "_law_count", "_law_found", "_law_turn", "_law_act"] ["_law_hand_here", "_law_acts", "_law_most_places"] (defScope s__law_gate) := ⟨rfl, rfl, rfl, by decide +kernel, rfl, by decide +kernel, by decide +kernel⟩
theorem sc__law_number : FnScope ["_law_hand_here", "_law_way"] ["_law_hand_here"] (defScope s__law_number) := ⟨rfl, rfl, rfl, by decide +kernel, rfl, by decide +kernel, by decide +kernel⟩
theorem sc__law_letters : FnScope ["_law_acts", "_law_found", "_law_name", "_law_count", "_law_bits", "_law_line"] ["_law_acts"] (defScope s__law_letters) := ⟨rfl, rfl, rfl, by decide +kernel, rfl, by decide +kernel, by decide +kernel⟩
theorem sc__law_all_bits : FnScope ["_law_count", "_law_found", "_law_turn", "_law_line"] ["_law_count"] (defScope s__law_all_bits) := ⟨rfl, rfl, rfl, by decide +kernel, rfl, by decide +kernel, by decide +kernel⟩
theorem sc__law_free : FnScope ["_law_acts"] ["_law_acts"] (defScope s__law_free) := ⟨rfl, rfl, rfl, by decide +kernel, rfl, by decide +kernel, by decide +kernel⟩
theorem sc__law_note : FnScope ["_law_hand_here"] ["_law_hand_here"] (defScope s__law_note) := ⟨rfl, rfl, rfl, by decide +kernel, rfl, by decide +kernel, by decide +kernel⟩
theorem sc__law_is_one : FnScope ["_law_note_here", "_law_line", "_law_mine", "_law_its"] ["_law_note_here", "_law_line"] (defScope s__law_is_one) := ⟨rfl, rfl, rfl, by decide +kernel, rfl, by decide +kernel, by decide +kernel⟩
theorem sc__law_bars_right : FnScope ["_law_hand_here", "_law_some", "_law_line", "_law_seen", "_law_turn", "_law_note_here"] ["_law_hand_here"] (defScope s__law_bars_right) := ⟨rfl, rfl, rfl, by decide +kernel, rfl, by decide +kernel, by decide +kernel⟩
theorem sc__law_below : FnScope ["_law_one", "_law_most"] ["_law_one", "_law_most"] (defScope s__law_below) := ⟨rfl, rfl, rfl, by decide +kernel, rfl, by decide +kernel, by decide +kernel⟩
theorem sc__law_is_shade : FnScope ["_law_prog_here", "_law_gate_here", "_law_one", "_law_bit"] ["_law_prog_here", "_law_gate_here", "_law_one"] (defScope s__law_is_shade) := ⟨rfl, rfl, rfl, by decide +kernel, rfl, by decide +kernel, by decide +kernel⟩
theorem sc__law_things : FnScope ["_law_hand_here", "_law_prog_here", "_law_gate_here", "_law_steads", "_law_phases", "_law_bits", "_law_one", "_law_some", "_law_name", "_law_odd"] ["_law_hand_here", "_law_prog_here", "_law_gate_here"] (defScope s__law_things) := ⟨rfl, rfl, rfl, by decide +kernel, rfl, by decide +kernel, by decide +kernel⟩
theorem sc_law : FnScope ["_law_script", "_law_nth", "_law_hand_here", "_law_prog_here", "_law_gate_here", "_law_zero", "_law_one", "_law_kept", "_law_due", "_law_seen", "_law_lone", "_law_bits", "_law_turn"] ["_law_script"] (defScope s_law) := ⟨rfl, rfl, rfl, by decide +kernel, rfl, by decide +kernel, by decide +kernel⟩
structure Txt (K : PySem.W.Frag) (mg : Str → Option Value) where
  f_is_whole : Addr
  fd_is_whole : FuncData
  F_is_whole : Fun K "is_whole" "is_whole" s_is_whole f_is_whole fd_is_whole
  g_is_whole : mg "is_whole" = some (.ref f_is_whole)
  b_is_whole : Binds K fd_is_whole ["thing"] []
  f_is_within : Addr
  fd_is_within : FuncData
  F_is_within : Fun K "is_within" "is_within" s_is_within f_is_within fd_is_within
  g_is_within : mg "is_within" = some (.ref f_is_within)
  b_is_within : Binds K fd_is_within ["thing", "least", "most"] []
  f_is_bit : Addr
  fd_is_bit : FuncData
  F_is_bit : Fun K "is_bit" "is_bit" s_is_bit f_is_bit fd_is_bit
  g_is_bit : mg "is_bit" = some (.ref f_is_bit)
  b_is_bit : Binds K fd_is_bit ["thing"] []
  f_is_row : Addr
  fd_is_row : FuncData
  F_is_row : Fun K "is_row" "is_row" s_is_row f_is_row fd_is_row
  g_is_row : mg "is_row" = some (.ref f_is_row)
  b_is_row : Binds K fd_is_row ["thing", "least", "most"] []
  f_free : Addr
  fd_free : FuncData
  F_free : Fun K "free" "free" s_free f_free fd_free
  g_free : mg "free" = some (.ref f_free)
  b_free : Binds K fd_free ["deeds"] []
  f_guard_or_free : Addr
  fd_guard_or_free : FuncData
  F_guard_or_free : Fun K "guard_or_free" "guard_or_free" s_guard_or_free f_guard_or_free fd_guard_or_free
  g_guard_or_free : mg "guard_or_free" = some (.ref f_guard_or_free)
  b_guard_or_free : Binds K fd_guard_or_free ["program", "guard"] []
  f_under : Addr
  fd_under : FuncData
  F_under : Fun K "under" "under" s_under f_under fd_under
  g_under : mg "under" = some (.ref f_under)
  b_under : Binds K fd_under ["held", "bar"] []
  f_is_shadow : Addr
  fd_is_shadow : FuncData
  F_is_shadow : Fun K "is_shadow" "is_shadow" s_is_shadow f_is_shadow fd_is_shadow
  g_is_shadow : mg "is_shadow" = some (.ref f_is_shadow)
  bd_is_shadow : Binds K fd_is_shadow ["program", "thing", "guard"] [.none]
  f_first_shadow : Addr
  fd_first_shadow : FuncData
  F_first_shadow : Fun K "first_shadow" "first_shadow" s_first_shadow f_first_shadow fd_first_shadow
  g_first_shadow : mg "first_shadow" = some (.ref f_first_shadow)
  b_first_shadow : Binds K fd_first_shadow ["program"] []
  f_bit_deeds : Addr
  fd_bit_deeds : FuncData
  F_bit_deeds : Fun K "bit_deeds" "bit_deeds" s_bit_deeds f_bit_deeds fd_bit_deeds
  g_bit_deeds : mg "bit_deeds" = some (.ref f_bit_deeds)
  b_bit_deeds : Binds K fd_bit_deeds ["program"] []
  f_bit_rows : Addr
  fd_bit_rows : FuncData
  F_bit_rows : Fun K "bit_rows" "bit_rows" s_bit_rows f_bit_rows fd_bit_rows
  g_bit_rows : mg "bit_rows" = some (.ref f_bit_rows)
  b_bit_rows : Binds K fd_bit_rows ["many"] []
  f__law_hand : Addr
  fd__law_hand : FuncData
  F__law_hand : Fun K "_law_hand" "_law_hand" s__law_hand f__law_hand fd__law_hand
  g__law_hand : mg "_law_hand" = some (.ref f__law_hand)
  b__law_hand : Binds K fd__law_hand ["_law_script", "_law_nth"] []
  f__law_take : Addr
  fd__law_take : FuncData
  F__law_take : Fun K "_law_take" "_law_take" s__law_take f__law_take fd__law_take
  g__law_take : mg "_law_take" = some (.ref f__law_take)
  b__law_take : Binds K fd__law_take ["_law_hand_here", "_law_upon"] []
  f__law_of : Addr
  fd__law_of : FuncData
  F__law_of : Fun K "_law_of" "_law_of" s__law_of f__law_of fd__law_of
  g__law_of : mg "_law_of" = some (.ref f__law_of)
  b__law_of : Binds K fd__law_of ["_law_hand_here", "_law_some"] []
  f__law_names : Addr
  fd__law_names : FuncData
  F__law_names : Fun K "_law_names" "_law_names" s__law_names f__law_names fd__law_names
  g__law_names : mg "_law_names" = some (.ref f__law_names)
  b__law_names : Binds K fd__law_names ["_law_hand_here", "_law_count"] []
  f__law_pick : Addr
  fd__law_pick : FuncData
  F__law_pick : Fun K "_law_pick" "_law_pick" s__law_pick f__law_pick fd__law_pick
  g__law_pick : mg "_law_pick" = some (.ref f__law_pick)
  b__law_pick : Binds K fd__law_pick ["_law_hand_here", "_law_rooms", "_law_count", "_law_left"] []
  f__law_prog : Addr
  fd__law_prog : FuncData
  F__law_prog : Fun K "_law_prog" "_law_prog" s__law_prog f__law_prog fd__law_prog
  g__law_prog : mg "_law_prog" = some (.ref f__law_prog)
  b__law_prog : Binds K fd__law_prog ["_law_hand_here", "_law_rooms", "_law_phases", "_law_most_came"] []
  f__law_phase : Addr
  fd__law_phase : FuncData
  F__law_phase : Fun K "_law_phase" "_law_phase" s__law_phase f__law_phase fd__law_phase
  g__law_phase : mg "_law_phase" = some (.ref f__law_phase)
  b__law_phase : Binds K fd__law_phase ["_law_hand_here", "_law_names_here", "_law_acts", "_law_phases"] []
  f__law_gate : Addr
  fd__law_gate : FuncData
  F__law_gate : Fun K "_law_gate" "_law_gate" s__law_gate f__law_gate fd__law_gate
  g__law_gate : mg "_law_gate" = some (.ref f__law_gate)
  b__law_gate : Binds K fd__law_gate ["_law_hand_here", "_law_acts", "_law_most_places"] []
  f__law_number : Addr
  fd__law_number : FuncData
  F__law_number : Fun K "_law_number" "_law_number" s__law_number f__law_number fd__law_number
  g__law_number : mg "_law_number" = some (.ref f__law_number)
  b__law_number : Binds K fd__law_number ["_law_hand_here"] []
  f__law_letters : Addr
  fd__law_letters : FuncData
  F__law_letters : Fun K "_law_letters" "_law_letters" s__law_letters f__law_letters fd__law_letters
  g__law_letters : mg "_law_letters" = some (.ref f__law_letters)
  b__law_letters : Binds K fd__law_letters ["_law_acts"] []
  f__law_all_bits : Addr
  fd__law_all_bits : FuncData
  F__law_all_bits : Fun K "_law_all_bits" "_law_all_bits" s__law_all_bits f__law_all_bits fd__law_all_bits
  g__law_all_bits : mg "_law_all_bits" = some (.ref f__law_all_bits)
  b__law_all_bits : Binds K fd__law_all_bits ["_law_count"] []
  f__law_free : Addr
  fd__law_free : FuncData
  F__law_free : Fun K "_law_free" "_law_free" s__law_free f__law_free fd__law_free
  g__law_free : mg "_law_free" = some (.ref f__law_free)
  b__law_free : Binds K fd__law_free ["_law_acts"] []
  f__law_note : Addr
  fd__law_note : FuncData
  F__law_note : Fun K "_law_note" "_law_note" s__law_note f__law_note fd__law_note
  g__law_note : mg "_law_note" = some (.ref f__law_note)
  b__law_note : Binds K fd__law_note ["_law_hand_here"] []
  f__law_is_one : Addr
  fd__law_is_one : FuncData
  F__law_is_one : Fun K "_law_is_one" "_law_is_one" s__law_is_one f__law_is_one fd__law_is_one
  g__law_is_one : mg "_law_is_one" = some (.ref f__law_is_one)
  b__law_is_one : Binds K fd__law_is_one ["_law_note_here", "_law_line"] []
  f__law_bars_right : Addr
  fd__law_bars_right : FuncData
  F__law_bars_right : Fun K "_law_bars_right" "_law_bars_right" s__law_bars_right f__law_bars_right fd__law_bars_right
  g__law_bars_right : mg "_law_bars_right" = some (.ref f__law_bars_right)
  b__law_bars_right : Binds K fd__law_bars_right ["_law_hand_here"] []
  f__law_below : Addr
  fd__law_below : FuncData
  F__law_below : Fun K "_law_below" "_law_below" s__law_below f__law_below fd__law_below
  g__law_below : mg "_law_below" = some (.ref f__law_below)
  b__law_below : Binds K fd__law_below ["_law_one", "_law_most"] []
  f__law_is_shade : Addr
  fd__law_is_shade : FuncData
  F__law_is_shade : Fun K "_law_is_shade" "_law_is_shade" s__law_is_shade f__law_is_shade fd__law_is_shade
  g__law_is_shade : mg "_law_is_shade" = some (.ref f__law_is_shade)
  b__law_is_shade : Binds K fd__law_is_shade ["_law_prog_here", "_law_gate_here", "_law_one"] []
  f__law_things : Addr
  fd__law_things : FuncData
  F__law_things : Fun K "_law_things" "_law_things" s__law_things f__law_things fd__law_things
  g__law_things : mg "_law_things" = some (.ref f__law_things)
  b__law_things : Binds K fd__law_things ["_law_hand_here", "_law_prog_here", "_law_gate_here"] []
  f_law : Addr
  fd_law : FuncData
  F_law : Fun K "law" "law" s_law f_law fd_law
  g_law : mg "law" = some (.ref f_law)
  b_law : Binds K fd_law ["_law_script"] []
  kb_kb_under_0_held_bar : KBinds K fd_under ["held", "bar"] ["held", "bar"] kb_under_0_held_bar kb_under_0_held_bar
  kb_kb_first_shadow_0_program : KBinds K fd_first_shadow ["program"] ["program"] kb_first_shadow_0_program kb_first_shadow_0_program
  kb_kb_bit_deeds_0_program : KBinds K fd_bit_deeds ["program"] ["program"] kb_bit_deeds_0_program kb_bit_deeds_0_program
  kb_kb_is_shadow_0_thing_program_guard : KBinds K fd_is_shadow ["program", "thing", "guard"] ["thing", "program", "guard"] kb_is_shadow_0_thing_program_guard kb_is_shadow_0_thing_program_guard
  kb_kb_is_shadow_2_guard : KBinds K fd_is_shadow ["program", "thing", "guard"] ["guard"] kb_is_shadow_2_guard kb_is_shadow_2_guard
  m_abs : mg "abs" = none
  m_all : mg "all" = none
  m_bool : mg "bool" = none
  m_int : mg "int" = none
  m_isinstance : mg "isinstance" = none
  m_len : mg "len" = none
  m_list : mg "list" = none
  m_max : mg "max" = none
  m_min : mg "min" = none
  m_range : mg "range" = none
  m_repr : mg "repr" = none
  m_sorted : mg "sorted" = none
  m_tuple : mg "tuple" = none
  m_zip : mg "zip" = none
theorem Txt.k_is_whole {K : PySem.W.Frag} {mg : Str → Option Value} (T : Txt K mg) : PySem.W.keepIn K (.ref T.f_is_whole) = true := T.F_is_whole.kp
theorem Txt.k_is_within {K : PySem.W.Frag} {mg : Str → Option Value} (T : Txt K mg) : PySem.W.keepIn K (.ref T.f_is_within) = true := T.F_is_within.kp
theorem Txt.k_is_bit {K : PySem.W.Frag} {mg : Str → Option Value} (T : Txt K mg) : PySem.W.keepIn K (.ref T.f_is_bit) = true := T.F_is_bit.kp
theorem Txt.k_is_row {K : PySem.W.Frag} {mg : Str → Option Value} (T : Txt K mg) : PySem.W.keepIn K (.ref T.f_is_row) = true := T.F_is_row.kp
theorem Txt.k_free {K : PySem.W.Frag} {mg : Str → Option Value} (T : Txt K mg) : PySem.W.keepIn K (.ref T.f_free) = true := T.F_free.kp
theorem Txt.k_guard_or_free {K : PySem.W.Frag} {mg : Str → Option Value} (T : Txt K mg) : PySem.W.keepIn K (.ref T.f_guard_or_free) = true := T.F_guard_or_free.kp
theorem Txt.k_under {K : PySem.W.Frag} {mg : Str → Option Value} (T : Txt K mg) : PySem.W.keepIn K (.ref T.f_under) = true := T.F_under.kp
theorem Txt.k_is_shadow {K : PySem.W.Frag} {mg : Str → Option Value} (T : Txt K mg) : PySem.W.keepIn K (.ref T.f_is_shadow) = true := T.F_is_shadow.kp
theorem Txt.k_first_shadow {K : PySem.W.Frag} {mg : Str → Option Value} (T : Txt K mg) : PySem.W.keepIn K (.ref T.f_first_shadow) = true := T.F_first_shadow.kp
theorem Txt.k_bit_deeds {K : PySem.W.Frag} {mg : Str → Option Value} (T : Txt K mg) : PySem.W.keepIn K (.ref T.f_bit_deeds) = true := T.F_bit_deeds.kp
theorem Txt.k_bit_rows {K : PySem.W.Frag} {mg : Str → Option Value} (T : Txt K mg) : PySem.W.keepIn K (.ref T.f_bit_rows) = true := T.F_bit_rows.kp
theorem Txt.k__law_hand {K : PySem.W.Frag} {mg : Str → Option Value} (T : Txt K mg) : PySem.W.keepIn K (.ref T.f__law_hand) = true := T.F__law_hand.kp
theorem Txt.k__law_take {K : PySem.W.Frag} {mg : Str → Option Value} (T : Txt K mg) : PySem.W.keepIn K (.ref T.f__law_take) = true := T.F__law_take.kp
theorem Txt.k__law_of {K : PySem.W.Frag} {mg : Str → Option Value} (T : Txt K mg) : PySem.W.keepIn K (.ref T.f__law_of) = true := T.F__law_of.kp
theorem Txt.k__law_names {K : PySem.W.Frag} {mg : Str → Option Value} (T : Txt K mg) : PySem.W.keepIn K (.ref T.f__law_names) = true := T.F__law_names.kp
theorem Txt.k__law_pick {K : PySem.W.Frag} {mg : Str → Option Value} (T : Txt K mg) : PySem.W.keepIn K (.ref T.f__law_pick) = true := T.F__law_pick.kp
theorem Txt.k__law_prog {K : PySem.W.Frag} {mg : Str → Option Value} (T : Txt K mg) : PySem.W.keepIn K (.ref T.f__law_prog) = true := T.F__law_prog.kp
theorem Txt.k__law_phase {K : PySem.W.Frag} {mg : Str → Option Value} (T : Txt K mg) : PySem.W.keepIn K (.ref T.f__law_phase) = true := T.F__law_phase.kp
theorem Txt.k__law_gate {K : PySem.W.Frag} {mg : Str → Option Value} (T : Txt K mg) : PySem.W.keepIn K (.ref T.f__law_gate) = true := T.F__law_gate.kp
theorem Txt.k__law_number {K : PySem.W.Frag} {mg : Str → Option Value} (T : Txt K mg) : PySem.W.keepIn K (.ref T.f__law_number) = true := T.F__law_number.kp
theorem Txt.k__law_letters {K : PySem.W.Frag} {mg : Str → Option Value} (T : Txt K mg) : PySem.W.keepIn K (.ref T.f__law_letters) = true := T.F__law_letters.kp
theorem Txt.k__law_all_bits {K : PySem.W.Frag} {mg : Str → Option Value} (T : Txt K mg) : PySem.W.keepIn K (.ref T.f__law_all_bits) = true := T.F__law_all_bits.kp
theorem Txt.k__law_free {K : PySem.W.Frag} {mg : Str → Option Value} (T : Txt K mg) : PySem.W.keepIn K (.ref T.f__law_free) = true := T.F__law_free.kp
theorem Txt.k__law_note {K : PySem.W.Frag} {mg : Str → Option Value} (T : Txt K mg) : PySem.W.keepIn K (.ref T.f__law_note) = true := T.F__law_note.kp
theorem Txt.k__law_is_one {K : PySem.W.Frag} {mg : Str → Option Value} (T : Txt K mg) : PySem.W.keepIn K (.ref T.f__law_is_one) = true := T.F__law_is_one.kp
theorem Txt.k__law_bars_right {K : PySem.W.Frag} {mg : Str → Option Value} (T : Txt K mg) : PySem.W.keepIn K (.ref T.f__law_bars_right) = true := T.F__law_bars_right.kp
theorem Txt.k__law_below {K : PySem.W.Frag} {mg : Str → Option Value} (T : Txt K mg) : PySem.W.keepIn K (.ref T.f__law_below) = true := T.F__law_below.kp
theorem Txt.k__law_is_shade {K : PySem.W.Frag} {mg : Str → Option Value} (T : Txt K mg) : PySem.W.keepIn K (.ref T.f__law_is_shade) = true := T.F__law_is_shade.kp
theorem Txt.k__law_things {K : PySem.W.Frag} {mg : Str → Option Value} (T : Txt K mg) : PySem.W.keepIn K (.ref T.f__law_things) = true := T.F__law_things.kp
theorem Txt.k_law {K : PySem.W.Frag} {mg : Str → Option Value} (T : Txt K mg) : PySem.W.keepIn K (.ref T.f_law) = true := T.F_law.kp
end Z

namespace Z
open PySem PySem.Spec PyProof.Rows L2 Lw Pu
noncomputable def m_is_whole : FA := mkFn 1 1 (sRet (eAnd (eCB isiF (aCons (eVar 0) (aCons (eK (.ty "int")) aNil))) (eNot (eCB isiF (aCons (eVar 0) (aCons (eK (.ty "bool")) aNil))))))
noncomputable def m_is_within : FA := mkFn 3 3 (sRet (eAnd (eCB m_is_whole (aCons (eVar 0) aNil)) (eChain leU leU (eVar 1) (eVar 0) (eVar 2))))
noncomputable def m_is_bit : FA := mkFn 1 1 (sRet (eCB m_is_within (aCons (eVar 0) (aCons (eC (.int 0)) (aCons (eC (.int 1)) aNil)))))
noncomputable def m_is_row : FA := mkFn 3 3 (sRet (eAnd (eCB isiF (aCons (eVar 0) (aCons (eK (.ty "tuple")) aNil))) (eChain leU leU (eVar 1) (eCB lenF (aCons (eVar 0) aNil)) (eVar 2))))
noncomputable def m_free : FA := mkFn 1 1 (sRet (eTup (aCons (eOp mulU (eTup (aCons (eC (.int 0)) aNil)) (eCB lenF (aCons (eVar 0) aNil))) aNil)))
noncomputable def m_guard_or_free : FA := mkFn 2 2 (sRet (eIf (tOf (eOp (isF false) (eVar 1) (eC .none))) (eCB m_free (aCons (eOp ixU (eVar 0) (eC (.int 1))) aNil)) (eVar 1)))
noncomputable def m_under : FA := mkFn 2 3 (sRet (eCB tupleF (aCons (eLc (iSeq (eVar 0)) (gNm 2) tYesM (eIf (tOf (eOp geU (eVar 2) (eVar 1))) (eC (.int 1)) (eC (.int 0))) [2]) aNil)))
noncomputable def m_is_shadow : FA := mkFn 3 10 (sSeq (sIf (tNotM (tOf (eCB m_is_row (aCons (eVar 1) (aCons (eC (.int 3)) (aCons (eC (.int 3)) aNil))))))
  (sRet (eC (.bool false)))
  sNil)
  (sSeq (sAsg (eVar 1) (gTp 3 (gCn (gNm 3) (gCn (gNm 4) (gCn (gNm 5) gN0)))))
  (sSeq (sAsg (eVar 0) (gTp 3 (gCn (gNm 6) (gCn (gNm 7) (gCn (gNm 8) gN0)))))
  (sSeq (sIf (tOrM (tNotM (tOf (eCB m_is_within (aCons (eVar 3) (aCons (eC (.int 0)) (aCons (eOp subU (eCB lenF (aCons (eCB m_guard_or_free (aCons (eVar 0) (aCons (eVar 2) aNil))) aNil)) (eC (.int 1))) aNil)))))) (tNotM (tOf (eCB m_is_within (aCons (eVar 4) (aCons (eC (.int 0)) (aCons (eOp subU (eCB lenF (aCons (eVar 8) aNil)) (eC (.int 1))) aNil)))))))
  (sRet (eC (.bool false)))
  sNil)
  (sRet (eAnd (eCB m_is_row (aCons (eVar 5) (aCons (eCB lenF (aCons (eVar 6) aNil)) (aCons (eCB lenF (aCons (eVar 6) aNil)) aNil)))) (eCB allF (aCons (eLc (iSeq (eVar 5)) (gNm 9) tYesM (eCB m_is_bit (aCons (eVar 9) aNil)) [9]) aNil))))))))
noncomputable def m_first_shadow : FA := mkFn 1 1 (sRet (eTup (aCons (eC (.int 0)) (aCons (eC (.int 0)) (aCons (eOp mulU (eTup (aCons (eC (.int 0)) aNil)) (eCB lenF (aCons (eOp ixU (eVar 0) (eC (.int 0))) aNil))) aNil)))))
noncomputable def m_bit_rows : FA := mkFn 1 5 (sSeq (sAsg (eLst (aCons (eTup aNil) aNil)) (gNm 1))
  (sSeq (sFor (iRg1 (aCons (eVar 0) aNil)) (gNm 2)
  (sAsg (eLc2 (iSeq (eVar 1)) (gNm 3) tYesM (iSeq (eTup (aCons (eC (.int 0)) (aCons (eC (.int 1)) aNil)))) (gNm 4) tYesM (eTup (aStar (eVar 3) (aCons (eVar 4) aNil))) [3, 4] [4]) (gNm 1)))
  (sRet (eVar 1))))
noncomputable def m_bit_deeds : FA := mkFn 1 4 (sRet (eCB tupleF (aCons (eCB sortF (aCons (eLc2 (iSeq (eOp ixU (eVar 0) (eC (.int 1)))) (gTp 2 (gCn (gNm 1) (gCn (gNm 2) gN0))) tYesM (iSeq (eCB m_bit_rows (aCons (eVar 2) aNil))) (gNm 3) tYesM (eTup (aCons (eVar 1) (aStar (eVar 3) aNil))) [1, 2, 3] [3]) aNil)) aNil)))
noncomputable def m__law_hand : FA := mkFn 2 4 (sSeq (sAsg (eIf (tOf (eOp ltU (eVar 1) (eCB lenF (aCons (eVar 0) aNil)))) (eOp ixU (eVar 0) (eVar 1)) (eOp addU (eOp mulU (eC (.int 3)) (eVar 1)) (eC (.int 5)))) (gNm 2))
  (sSeq (sAsg (eOp mulU (eOp modU (eCB absF (aCons (eVar 2) aNil)) (eOp powU (eOp powU (eC (.int 10)) (eC (.int 60))) (eC (.int 15)))) (eCB intF (aCons (eOp geU (eCB absF (aCons (eVar 2) aNil)) (eOp powU (eC (.int 10)) (eC (.int 18)))) aNil))) (gNm 3))
  (sRet (eLst (aCons (eVar 3) (aCons (eOp modU (eOp mulU (eOp addU (eOp addU (eOp modU (eVar 2) (eC (.int 2305843009213693951))) (eOp mulU (eOp mulU (eC (.int 104729)) (eVar 1)) (eVar 1))) (eC (.int 13))) (eC (.int 48271))) (eC (.int 2305843009213693921))) (aCons (eC (.int 0)) aNil)))))))
noncomputable def m__law_take : FA := mkFn 2 5 (sSeq (sIf (tOf (eOp gtU (eOp ixU (eVar 0) (eC (.int 0))) (eC (.int 0))))
  (sSeq (sAsg (eOp modU (eOp ixU (eVar 0) (eC (.int 0))) (eVar 1)) (gNm 2))
  (sSeq (sAsg (eOp fdivU (eOp ixU (eVar 0) (eC (.int 0))) (eVar 1)) (gSb (eVar 0) (eC (.int 0))))
  (sRet (eVar 2))))
  sNil)
  (sSeq (sAsg (eOp addU (eOp ixU (eVar 0) (eC (.int 2))) (eC (.int 1))) (gSb (eVar 0) (eC (.int 2))))
  (sSeq (sAsg (eOp ixU (eLst (aCons (eC (.int 2147483629)) (aCons (eC (.int 2147483587)) (aCons (eC (.int 2147483579)) (aCons (eC (.int 2147483563)) (aCons (eC (.int 2147483549)) (aCons (eC (.int 2147483543)) (aCons (eC (.int 2147483497)) aNil)))))))) (eOp modU (eOp ixU (eVar 0) (eC (.int 2))) (eC (.int 7)))) (gNm 3))
  (sSeq (sAsg (eOp modU (eOp powU (eOp addU (eOp ixU (eVar 0) (eC (.int 1))) (eOp mulU (eC (.int 7919)) (eOp ixU (eVar 0) (eC (.int 2))))) (eC (.int 3))) (eVar 3)) (gNm 4))
  (sRet (eOp modU (eOp fdivU (eOp modU (eOp mulU (eVar 4) (eOp addU (eOp modU (eVar 4) (eC (.int 1009))) (eOp ixU (eVar 0) (eC (.int 2))))) (eVar 3)) (eC (.int 11))) (eVar 1)))))))
noncomputable def m__law_of : FA := mkFn 2 2 (sRet (eOp ixU (eVar 1) (eCB m__law_take (aCons (eVar 0) (aCons (eCB lenF (aCons (eVar 1) aNil)) aNil)))))
noncomputable def m__law_names : FA := mkFn 2 12 (sSeq (sAsg (eC (.str (Str.ofString "abcdefghijklmnopqrstuvwxyz"))) (gNm 2))
  (sSeq (sPar 3 4 (aCons (eCB m__law_take (aCons (eVar 0) (aCons (eC (.int 26)) aNil))) (aCons (eCB m__law_of (aCons (eVar 0) (aCons (eLst (aCons (eC (.int 1)) (aCons (eC (.int 3)) (aCons (eC (.int 5)) (aCons (eC (.int 7)) (aCons (eC (.int 9)) (aCons (eC (.int 11)) aNil))))))) aNil))) aNil)))
  (sSeq (sAsg (eCB m__law_of (aCons (eVar 0) (aCons (eLst (aCons (eC (.int 0)) (aCons (eC (.int 0)) (aCons (eC (.int 1)) (aCons (eC (.int 2)) (aCons (eC (.int 3)) (aCons (eC (.int 6)) aNil))))))) aNil))) (gNm 5))
  (sSeq (sAsg (eMt "str" joinF (eC (.str (Str.ofString ""))) (aCons (eLc (iRg1 (aCons (eVar 5) aNil)) (gNm 6) tYesM (eCB m__law_of (aCons (eVar 0) (aCons (eVar 2) aNil))) [6]) aNil)) (gNm 7))
  (sSeq (sPar 8 9 (aCons (eCB m__law_take (aCons (eVar 0) (aCons (eOp addU (eVar 5) (eC (.int 1))) aNil))) (aCons (eLst aNil) aNil)))
  (sSeq (sFor (iRg1 (aCons (eVar 1) aNil)) (gNm 6)
  (sSeq (sAsg (eOp ixU (eVar 2) (eOp modU (eOp addU (eVar 3) (eOp mulU (eVar 4) (eVar 6))) (eC (.int 26)))) (gNm 10))
  (sSeq (sAsg (eOp addU (eOp addU (eSl (eVar 7) oNone (oSome (eVar 8))) (eVar 10)) (eSl (eVar 7) (oSome (eVar 8)) oNone)) (gNm 11))
  (sDrop (eMt "list" appendF (eVar 9) (aCons (eOp addU (eVar 11) (eOp mulU (eC (.str (Str.ofString "x"))) (eCB intF (aCons (eOp (inU false) (eVar 11) (eTup (aCons (eC (.str (Str.ofString "none"))) (aCons (eC (.str (Str.ofString "cell"))) (aCons (eC (.str (Str.ofString "came"))) (aCons (eC (.str (Str.ofString "kth"))) (aCons (eC (.str (Str.ofString "least"))) aNil))))))) aNil)))) aNil))))))
  (sRet (eVar 9))))))))
noncomputable def m__law_pick : Nat → FA
  | 0 => noFn
  | k + 1 => mkFn 4 10 (sSeq (sAsg (eOp addU (eLc (iSeq (eVar 1)) (gNm 7) tYesM (eTup (aCons (eC (.str (Str.ofString "cell"))) (aCons (eVar 7) aNil))) [7]) (eLc (iRg1 (aCons (eVar 2) aNil)) (gNm 8) tYesM (eTup (aCons (eC (.str (Str.ofString "came"))) (aCons (eVar 8) aNil))) [8])) (gNm 4))
  (sSeq (sAsg (eIf (tOf (eOp gtU (eVar 3) (eC (.int 0)))) (eCB m__law_take (aCons (eVar 0) (aCons (eC (.int 7)) aNil))) (eC (.int 0))) (gNm 5))
  (sSeq (sIf (tOf (eOp ltU (eVar 5) (eC (.int 2))))
  (sRet (eCB m__law_of (aCons (eVar 0) (aCons (eOp addU (eOp addU (eVar 4) (eVar 4)) (eLst (aCons (eTup (aCons (eC (.str (Str.ofString "none"))) aNil)) aNil))) aNil))))
  sNil)
  (sSeq (sAsg (eCB tupleF (aCons (eLc (iRg1 (aCons (eOp addU (eC (.int 1)) (eCB m__law_take (aCons (eVar 0) (aCons (eC (.int 3)) aNil)))) aNil)) (gNm 9) tYesM (eCB (m__law_pick k) (aCons (eVar 0) (aCons (eVar 1) (aCons (eVar 2) (aCons (eOp subU (eVar 3) (eC (.int 1))) aNil))))) [9]) aNil)) (gNm 6))
  (sSeq (sIf (tOf (eOp eqU (eVar 5) (eC (.int 6))))
  (sRet (eTup (aCons (eC (.str (Str.ofString "kth"))) (aCons (eOp addU (eC (.int 1)) (eCB m__law_take (aCons (eVar 0) (aCons (eCB lenF (aCons (eVar 6) aNil)) aNil)))) (aCons (eVar 6) aNil)))))
  sNil)
  (sRet (eTup (aCons (eOp ixU (eLst (aCons (eC (.str (Str.ofString "greatest"))) (aCons (eC (.str (Str.ofString "least"))) aNil))) (eOp modU (eVar 5) (eC (.int 2)))) (aCons (eVar 6) aNil)))))))))
noncomputable def m__law_phase : FA := mkFn 4 10 (sSeq (sAsg (eLst aNil) (gNm 4))
  (sSeq (sFor (iSeq (eVar 2)) (gTp 2 (gCn (gNm 5) (gCn (gNm 6) gN0)))
  (sSeq (sPar 7 8 (aCons (eLst aNil) (aCons (eC .none) aNil)))
  (sSeq (sFor (iSeq (eVar 1)) (gNm 9)
  (sDrop (eMt "list" appendF (eVar 7) (aCons (eIf (tOf (eOp eqU (eCB m__law_take (aCons (eVar 0) (aCons (eC (.int 3)) aNil))) (eC (.int 0)))) (eC .none) (eCB (m__law_pick 4) (aCons (eVar 0) (aCons (eVar 1) (aCons (eVar 6) (aCons (eC (.int 2)) aNil)))))) aNil))))
  (sSeq (sIf (tOf (eOp gtU (eCB m__law_take (aCons (eVar 0) (aCons (eC (.int 4)) aNil))) (eC (.int 0))))
  (sAsg (eCB (m__law_pick 4) (aCons (eVar 0) (aCons (eVar 1) (aCons (eVar 6) (aCons (eC (.int 2)) aNil))))) (gNm 8))
  sNil)
  (sDrop (eMt "list" appendF (eVar 4) (aCons (eTup (aCons (eCB m__law_take (aCons (eVar 0) (aCons (eVar 3) aNil))) (aCons (eCB tupleF (aCons (eVar 7) aNil)) (aCons (eVar 8) aNil)))) aNil)))))))
  (sRet (eCB tupleF (aCons (eVar 4) aNil)))))
noncomputable def m__law_prog : FA := mkFn 4 10 (sSeq (sAsg (eCB m__law_names (aCons (eVar 0) (aCons (eOp addU (eVar 1) (eC (.int 4))) aNil))) (gNm 4))
  (sSeq (sAsg (eTup (aCons (eCB tupleF (aCons (eSl (eVar 4) oNone (oSome (eCB m__law_take (aCons (eVar 0) (aCons (eOp addU (eVar 1) (eC (.int 1))) aNil))))) aNil)) (aCons (eOp addU (eC (.int 1)) (eCB m__law_take (aCons (eVar 0) (aCons (eVar 2) aNil)))) aNil))) (gTp 2 (gCn (gNm 5) (gCn (gNm 6) gN0))))
  (sSeq (sAsg (eCB tupleF (aCons (eLc (iRg1 (aCons (eOp addU (eC (.int 1)) (eCB m__law_take (aCons (eVar 0) (aCons (eC (.int 4)) aNil)))) aNil)) (gNm 8) tYesM (eTup (aCons (eOp ixU (eVar 4) (eOp addU (eVar 1) (eVar 8))) (aCons (eCB m__law_take (aCons (eVar 0) (aCons (eOp addU (eVar 3) (eC (.int 1))) aNil))) aNil))) [8]) aNil)) (gNm 7))
  (sRet (eTup (aCons (eVar 5) (aCons (eVar 7) (aCons (eCB tupleF (aCons (eLc (iRg1 (aCons (eVar 6) aNil)) (gNm 9) tYesM (eCB m__law_phase (aCons (eVar 0) (aCons (eVar 5) (aCons (eVar 7) (aCons (eVar 6) aNil))))) [9]) aNil)) aNil))))))))
noncomputable def m__law_gate : FA := mkFn 3 7 (sSeq (sAsg (eTupN (aCons (eOp addU (eC (.int 1)) (eCB m__law_take (aCons (eVar 0) (aCons (eVar 2) aNil)))) (aCons (eLst aNil) aNil))) (gTp 2 (gCn (gNm 3) (gCn (gNm 4) gN0))))
  (sSeq (sFor (iRg1 (aCons (eVar 3) aNil)) (gNm 5)
  (sDrop (eMt "list" appendF (eVar 4) (aCons (eCB tupleF (aCons (eLc (iSeq (eVar 1)) (gNm 6) tYesM (eIf (tOf (eOp eqU (eCB m__law_take (aCons (eVar 0) (aCons (eC (.int 5)) aNil))) (eC (.int 0)))) (eC .none) (eCB m__law_take (aCons (eVar 0) (aCons (eVar 3) aNil)))) [6]) aNil)) aNil))))
  (sRet (eCB tupleF (aCons (eVar 4) aNil)))))
noncomputable def m__law_number : FA := mkFn 1 2 (sSeq (sAsg (eCB m__law_take (aCons (eVar 0) (aCons (eC (.int 9)) aNil))) (gNm 1))
  (sSeq (sIf (tOf (eOp ltU (eVar 1) (eC (.int 7))))
  (sRet (eCB m__law_take (aCons (eVar 0) (aCons (eC (.int 6)) aNil))))
  sNil)
  (sRet (eOp ixU (eLst (aCons (eCB m__law_take (aCons (eVar 0) (aCons (eOp powU (eC (.int 10)) (eC (.int 59))) aNil))) (aCons (eOp subU (eNeg (eC (.int 1))) (eCB m__law_take (aCons (eVar 0) (aCons (eC (.int 9)) aNil)))) aNil))) (eOp subU (eVar 1) (eC (.int 7)))))))
noncomputable def m__law_letters : FA := mkFn 1 6 (sSeq (sAsg (eLst aNil) (gNm 1))
  (sSeq (sFor (iSeq (eVar 0)) (gTp 2 (gCn (gNm 2) (gCn (gNm 3) gN0)))
  (sSeq (sAsg (eOp ixU (eLst (aCons (eLst (aCons (eTup aNil) aNil)) (aCons (eLst (aCons (eTup (aCons (eC (.int 0)) aNil)) (aCons (eTup (aCons (eC (.int 1)) aNil)) aNil))) (aCons (eLst (aCons (eTup (aCons (eC (.int 0)) (aCons (eC (.int 0)) aNil))) (aCons (eTup (aCons (eC (.int 0)) (aCons (eC (.int 1)) aNil))) (aCons (eTup (aCons (eC (.int 1)) (aCons (eC (.int 0)) aNil))) (aCons (eTup (aCons (eC (.int 1)) (aCons (eC (.int 1)) aNil))) aNil))))) aNil)))) (eVar 3)) (gNm 4))
  (sDrop (eMt "list" extendF (eVar 1) (aCons (eLc (iSeq (eVar 4)) (gNm 5) tYesM (eOp addU (eTup (aCons (eVar 2) aNil)) (eVar 5)) [5]) aNil)))))
  (sRet (eCB sortF (aCons (eVar 1) aNil)))))
noncomputable def m__law_all_bits : FA := mkFn 1 4 (sSeq (sAsg (eLst (aCons (eTup aNil) aNil)) (gNm 1))
  (sSeq (sFor (iRg1 (aCons (eVar 0) aNil)) (gNm 2)
  (sAsg (eOp addU (eLc (iSeq (eVar 1)) (gNm 3) tYesM (eOp addU (eVar 3) (eTup (aCons (eC (.int 0)) aNil))) [3]) (eLc (iSeq (eVar 1)) (gNm 3) tYesM (eOp addU (eVar 3) (eTup (aCons (eC (.int 1)) aNil))) [3])) (gNm 1)))
  (sRet (eCB sortF (aCons (eVar 1) aNil)))))
noncomputable def m__law_free : FA := mkFn 1 1 (sRet (eTup (aCons (eOp mulU (eTup (aCons (eC (.int 0)) aNil)) (eCB lenF (aCons (eVar 0) aNil))) aNil)))
noncomputable def m__law_note : FA := mkFn 1 1 (sSeq (sIf (tOf (eOp eqU (eCB m__law_take (aCons (eVar 0) (aCons (eC (.int 4)) aNil))) (eC (.int 0))))
  (sRet (eTup aNil))
  sNil)
  (sRet (eTup (aCons (eCB m__law_number (aCons (eVar 0) aNil)) (aCons (eCB m__law_of (aCons (eVar 0) (aCons (eLst (aCons (eC (.int 0)) (aCons (eC (.int 1)) (aCons (eC (.int 2)) (aCons (eC (.int 7)) (aCons (eC (.int 299)) aNil)))))) aNil))) (aCons (eCB m__law_take (aCons (eVar 0) (aCons (eC (.int 2)) aNil))) aNil))))))
noncomputable def m__law_is_one : FA := mkFn 2 4 (sSeq (sIf (tOf (eOp eqU (eVar 0) (eTup aNil)))
  (sRet (eC (.int 0)))
  sNil)
  (sSeq (sFor (iZp (aCons (eVar 0) (aCons (eVar 1) aNil))) (gTp 2 (gCn (gNm 2) (gCn (gNm 3) gN0)))
  (sIf (tOf (eOp neU (eVar 2) (eVar 3)))
  (sRet (eCB intF (aCons (eOp gtU (eVar 2) (eVar 3)) aNil)))
  sNil))
  (sRet (eC (.int 1)))))
noncomputable def m__law_bars_right : FA := mkFn 1 6 (sSeq (sAsg (eCB tupleF (aCons (eLc (iRg1 (aCons (eCB m__law_take (aCons (eVar 0) (aCons (eC (.int 7)) aNil))) aNil)) (gNm 4) tYesM (eCB m__law_note (aCons (eVar 0) aNil)) [4]) aNil)) (gNm 1))
  (sSeq (sAsg (eCB m__law_of (aCons (eVar 0) (aCons (eOp addU (eLc (iSeq (eVar 1)) (gNm 5) (tOf (eOp neU (eVar 5) (eTup aNil))) (eVar 5) [5]) (eLst (aCons (eTup (aCons (eCB m__law_number (aCons (eVar 0) aNil)) (aCons (eCB m__law_take (aCons (eVar 0) (aCons (eC (.int 4)) aNil))) (aCons (eC (.int 1)) aNil)))) aNil))) aNil))) (gNm 2))
  (sSeq (sAsg (eCB m_under (aCons (eVar 1) (aCons (eVar 2) aNil))) (gNm 3))
  (sRet (eAnd (eOp eqU (eCB reprF (aCons (eVar 3) aNil)) (eCB reprF (aCons (eCB tupleF (aCons (eLc (iSeq (eVar 1)) (gNm 5) tYesM (eCB m__law_is_one (aCons (eVar 5) (aCons (eVar 2) aNil))) [5]) aNil)) aNil))) (eOp eqU (eCK m_under kb_under_0_held_bar aNil (aCons (eVar 1) (aCons (eVar 2) aNil))) (eVar 3)))))))
noncomputable def m__law_below : FA := mkFn 2 2 (sRet (eAnd (eCB isiF (aCons (eVar 0) (aCons (eK (.ty "int")) aNil))) (eAnd (eNot (eCB isiF (aCons (eVar 0) (aCons (eK (.ty "bool")) aNil)))) (eChain leU ltU (eC (.int 0)) (eVar 0) (eVar 1)))))
noncomputable def m__law_is_shade : FA := mkFn 3 4 (sSeq (sIf (tOrM (tNotM (tOf (eCB isiF (aCons (eVar 2) (aCons (eK (.ty "tuple")) aNil))))) (tOf (eOp neU (eCB lenF (aCons (eVar 2) aNil)) (eC (.int 3)))))
  (sRet (eC (.bool false)))
  sNil)
  (sSeq (sIf (tOrM (tNotM (tOf (eCB m__law_below (aCons (eOp ixU (eVar 2) (eC (.int 0))) (aCons (eCB lenF (aCons (eVar 1) aNil)) aNil))))) (tNotM (tOf (eCB m__law_below (aCons (eOp ixU (eVar 2) (eC (.int 1))) (aCons (eCB lenF (aCons (eOp ixU (eVar 0) (eC (.int 2))) aNil)) aNil))))))
  (sRet (eC (.bool false)))
  sNil)
  (sSeq (sIf (tOrM (tNotM (tOf (eCB isiF (aCons (eOp ixU (eVar 2) (eC (.int 2))) (aCons (eK (.ty "tuple")) aNil))))) (tOf (eOp neU (eCB lenF (aCons (eOp ixU (eVar 2) (eC (.int 2))) aNil)) (eCB lenF (aCons (eOp ixU (eVar 0) (eC (.int 0))) aNil)))))
  (sRet (eC (.bool false)))
  sNil)
  (sRet (eCB allF (aCons (eLc (iSeq (eOp ixU (eVar 2) (eC (.int 2)))) (gNm 3) tYesM (eCB m__law_below (aCons (eVar 3) (aCons (eC (.int 2)) aNil))) [3]) aNil))))))
noncomputable def m__law_things : FA := mkFn 3 10 (sSeq (sPar 3 4 (aCons (eCB lenF (aCons (eVar 2) aNil)) (aCons (eCB lenF (aCons (eOp ixU (eVar 1) (eC (.int 2))) aNil)) aNil)))
  (sSeq (sAsg (eCB tupleF (aCons (eLc (iSeq (eOp ixU (eVar 1) (eC (.int 0)))) (gNm 8) tYesM (eCB m__law_take (aCons (eVar 0) (aCons (eC (.int 2)) aNil))) [8]) aNil)) (gNm 5))
  (sSeq (sAsg (eTup (aCons (eCB m__law_take (aCons (eVar 0) (aCons (eVar 3) aNil))) (aCons (eCB m__law_take (aCons (eVar 0) (aCons (eVar 4) aNil))) (aCons (eVar 5) aNil)))) (gNm 6))
  (sSeq (sAsg (eLst (aCons (eVar 6) (aCons (eOp addU (eTup (aCons (eVar 3) aNil)) (eSl (eVar 6) (oSome (eC (.int 1))) oNone)) (aCons (eOp addU (eTup (aCons (eNeg (eC (.int 1))) aNil)) (eSl (eVar 6) (oSome (eC (.int 1))) oNone)) (aCons (eTup (aCons (eOp ixU (eVar 6) (eC (.int 0))) (aCons (eVar 4) (aCons (eVar 5) aNil)))) (aCons (eTup (aCons (eOp ixU (eVar 6) (eC (.int 0))) (aCons (eNeg (eC (.int 1))) (aCons (eVar 5) aNil)))) (aCons (eSl (eVar 6) oNone (oSome (eC (.int 2)))) (aCons (eOp addU (eVar 6) (eTup (aCons (eC (.int 0)) aNil))) aNil)))))))) (gNm 7))
  (sSeq (sAsg (eOp addU (eVar 7) (eLst (aCons (eOp addU (eSl (eVar 6) oNone (oSome (eC (.int 2)))) (eTup (aCons (eOp addU (eVar 5) (eTup (aCons (eC (.int 0)) aNil))) aNil))) (aCons (eOp addU (eSl (eVar 6) oNone (oSome (eC (.int 2)))) (eTup (aCons (eSl (eVar 5) oNone (oSome (eNeg (eC (.int 1))))) aNil))) (aCons (eOp addU (eSl (eVar 6) oNone (oSome (eC (.int 2)))) (eTup (aCons (eCB listF (aCons (eVar 5) aNil)) aNil))) (aCons (eCB listF (aCons (eVar 6) aNil)) (aCons (eTup (aCons (eVar 6) aNil)) (aCons (eLst (aCons (eVar 6) aNil)) aNil)))))))) (gNm 7))
  (sSeq (sAsg (eOp addU (eVar 7) (eLst (aCons (eOp addU (eTup (aCons (eC (.bool false)) aNil)) (eSl (eVar 6) (oSome (eC (.int 1))) oNone)) (aCons (eTup (aCons (eOp ixU (eVar 6) (eC (.int 0))) (aCons (eC (.bool false)) (aCons (eVar 5) aNil)))) (aCons (eOp addU (eTup (aCons (eC (.str (Str.ofString "0"))) aNil)) (eSl (eVar 6) (oSome (eC (.int 1))) oNone)) (aCons (eC .none) (aCons (eC (.str (Str.ofString ""))) (aCons (eC (.int 0)) (aCons (eTup aNil) (aCons eDct0 aNil)))))))))) (gNm 7))
  (sSeq (sAsg (eOp addU (eVar 7) (eLc (iSeq (eTup (aCons (eC (.int 2)) (aCons (eNeg (eC (.int 1))) (aCons (eC (.bool true)) (aCons (eC .none) (aCons (eC (.str (Str.ofString "0"))) (aCons (eTup (aCons (eC (.int 0)) aNil)) aNil)))))))) (gNm 9) tYesM (eOp addU (eSl (eVar 6) oNone (oSome (eC (.int 2)))) (eTup (aCons (eOp addU (eTup (aCons (eVar 9) aNil)) (eSl (eVar 5) (oSome (eC (.int 1))) oNone)) aNil))) [9])) (gNm 7))
  (sRet (eOp addU (eVar 7) (eLst (aCons (eOp addU (eSl (eVar 6) oNone (oSome (eC (.int 2)))) (eTup (aCons (eOp mulZ (eC (.str (Str.ofString "0"))) (eCB lenF (aCons (eVar 5) aNil))) aNil))) (aCons (eTup (aCons (eC .none) (aCons (eC .none) (aCons (eC .none) aNil)))) (aCons (eTup (aCons (eTup (aCons (eC (.int 0)) (aCons (eC (.int 0)) aNil))) (aCons (eVar 6) aNil))) (aCons (eDctV (Str.ofString "shadow") 6) (aCons (eLst (aCons (eLst (aCons (eLst (aCons (eVar 6) aNil)) aNil)) aNil)) aNil)))))))))))))))
noncomputable def m_law : FA := mkFn 1 13 (sSeq (sFor (iRg1 (aCons (eCB max2F (aCons (eC (.int 1)) (aCons (eCB min2F (aCons (eC (.int 2)) (aCons (eCB lenF (aCons (eVar 0) aNil)) aNil))) aNil))) aNil)) (gNm 1)
  (sSeq (sAsg (eCB m__law_hand (aCons (eVar 0) (aCons (eVar 1) aNil))) (gNm 2))
  (sSeq (sAsg (eCB m__law_prog (aCons (eVar 2) (aCons (eC (.int 3)) (aCons (eC (.int 3)) (aCons (eC (.int 2)) aNil))))) (gNm 3))
  (sSeq (sAsg (eCB m__law_gate (aCons (eVar 2) (aCons (eOp ixU (eVar 3) (eC (.int 1))) (aCons (eC (.int 3)) aNil)))) (gNm 4))
  (sSeq (sIf (tNotM (tOf (eCB allF (aCons (eLc (iRg1 (aCons (eC (.int 6)) aNil)) (gNm 12) tYesM (eCB m__law_bars_right (aCons (eVar 2) aNil)) [12]) aNil))))
  (sRet (eC (.bool false)))
  sNil)
  (sSeq (sAsg (eCB reprF (aCons (eTup (aCons (eC (.int 0)) (aCons (eC (.int 0)) (aCons (eOp mulU (eTup (aCons (eC (.int 0)) aNil)) (eCB lenF (aCons (eOp ixU (eVar 3) (eC (.int 0))) aNil))) aNil)))) aNil)) (gNm 5))
  (sSeq (sIf (tOrM (tOf (eOp neU (eCB reprF (aCons (eCB m_first_shadow (aCons (eVar 3) aNil)) aNil)) (eVar 5))) (tOf (eOp neU (eCB reprF (aCons (eCK m_first_shadow kb_first_shadow_0_program aNil (aCons (eVar 3) aNil)) aNil)) (eVar 5))))
  (sRet (eC (.bool false)))
  sNil)
  (sSeq (sIf (tOrM (tOf (eOp neU (eCB reprF (aCons (eCB m_bit_deeds (aCons (eVar 3) aNil)) aNil)) (eCB reprF (aCons (eCB tupleF (aCons (eCB m__law_letters (aCons (eOp ixU (eVar 3) (eC (.int 1))) aNil)) aNil)) aNil)))) (tOf (eOp neU (eCK m_bit_deeds kb_bit_deeds_0_program aNil (aCons (eVar 3) aNil)) (eCB m_bit_deeds (aCons (eVar 3) aNil)))))
  (sRet (eC (.bool false)))
  sNil)
  (sFor (iSeq (eOp addU (eCB m__law_things (aCons (eVar 2) (aCons (eVar 3) (aCons (eVar 4) aNil)))) (eLc (iSeq (eCB m__law_all_bits (aCons (eCB lenF (aCons (eOp ixU (eVar 3) (eC (.int 0))) aNil)) aNil))) (gNm 11) tYesM (eTup (aCons (eC (.int 0)) (aCons (eC (.int 0)) (aCons (eVar 11) aNil)))) [11]))) (gNm 6)
  (sSeq (sPar 7 8 (aCons (eCB reprF (aCons (eVar 6) aNil)) (aCons (eCB m__law_is_shade (aCons (eVar 3) (aCons (eVar 4) (aCons (eVar 6) aNil)))) aNil)))
  (sSeq (sAsg (eLst (aCons (eCK m_is_shadow kb_is_shadow_2_guard (aCons (eVar 3) (aCons (eVar 6) aNil)) (aCons (eVar 4) aNil)) (aCons (eCK m_is_shadow kb_is_shadow_0_thing_program_guard aNil (aCons (eVar 6) (aCons (eVar 3) (aCons (eVar 4) aNil)))) aNil))) (gNm 9))
  (sSeq (sIf (tOf (eOp neU (eCB reprF (aCons (eVar 9) aNil)) (eCB reprF (aCons (eLst (aCons (eVar 8) (aCons (eVar 8) aNil))) aNil))))
  (sRet (eC (.bool false)))
  sNil)
  (sSeq (sAsg (eCB m__law_is_shade (aCons (eVar 3) (aCons (eCB m__law_free (aCons (eOp ixU (eVar 3) (eC (.int 1))) aNil)) (aCons (eVar 6) aNil)))) (gNm 10))
  (sIf (tOrM (tOf (eOp neU (eCB reprF (aCons (eCB (dfl m_is_shadow) (aCons (eVar 3) (aCons (eVar 6) aNil))) aNil)) (eCB reprF (aCons (eVar 10) aNil)))) (tOf (eOp neU (eCB reprF (aCons (eVar 6) aNil)) (eVar 7))))
  (sRet (eC (.bool false)))
  sNil))))))))))))))
  (sRet (eC (.bool true))))
end Z

namespace Z
open PySem PySem.Spec PyProof.Rows L2 Lw Pu
section
variable {P : Program} {w : World} {K : PySem.W.Frag} {mg : Str → Option Value} {base : Heap}
theorem ok_is_whole (T : Txt K mg) : FnOk P w K mg base CX0 1 T.f_is_whole T.fd_is_whole ["thing"] (spOf K m_is_whole) := fn_ok (k := 0) T.F_is_whole sc_is_whole rfl rfl (fun cdv A outer s H E hr => (qss_one (qs_ret (qe_and (qe_callB q_isi (by rfl) T.m_isinstance (by decide +kernel) (qa_cons (qe_var (i := 0)) (qa_cons (qe_ty (n := "int") (by rfl) T.m_int (by decide +kernel)) qa_nil))) (qe_one (qe_not (qe_callB q_isi (by rfl) T.m_isinstance (by decide +kernel) (qa_cons (qe_var (i := 0)) (qa_cons (qe_ty (n := "bool") (by rfl) T.m_bool (by decide +kernel)) qa_nil)))))))))
theorem ok_is_within (T : Txt K mg) : FnOk P w K mg base CX0 2 T.f_is_within T.fd_is_within ["thing", "least", "most"] (spOf K m_is_within) := fn_ok (k := 1) T.F_is_within sc_is_within rfl rfl (fun cdv A outer s H E hr => (qss_one (qs_ret (qe_and (qe_call (ok_is_whole T) (hr.mono (by decide)) (by rfl) T.g_is_whole T.k_is_whole T.b_is_whole (qa_cons (qe_var (i := 0)) qa_nil)) (qe_one (qe_chain (q_le hr) (q_le hr) (qe_var (i := 1)) (qe_var (i := 0)) (qe_var (i := 2))))))))
theorem ok_is_bit (T : Txt K mg) : FnOk P w K mg base CX0 3 T.f_is_bit T.fd_is_bit ["thing"] (spOf K m_is_bit) := fn_ok (k := 2) T.F_is_bit sc_is_bit rfl rfl (fun cdv A outer s H E hr => (qss_one (qs_ret (qe_call (ok_is_within T) (hr.mono (by decide)) (by rfl) T.g_is_within T.k_is_within T.b_is_within (qa_cons (qe_var (i := 0)) (qa_cons qe_int (qa_cons qe_int qa_nil)))))))
theorem ok_is_row (T : Txt K mg) : FnOk P w K mg base CX0 1 T.f_is_row T.fd_is_row ["thing", "least", "most"] (spOf K m_is_row) := fn_ok (k := 0) T.F_is_row sc_is_row rfl rfl (fun cdv A outer s H E hr => (qss_one (qs_ret (qe_and (qe_callB q_isi (by rfl) T.m_isinstance (by decide +kernel) (qa_cons (qe_var (i := 0)) (qa_cons (qe_ty (n := "tuple") (by rfl) T.m_tuple (by decide +kernel)) qa_nil))) (qe_one (qe_chain (q_le hr) (q_le hr) (qe_var (i := 1)) (qe_callB q_len (by rfl) T.m_len (by decide +kernel) (qa_cons (qe_var (i := 0)) qa_nil)) (qe_var (i := 2))))))))
theorem ok_free (T : Txt K mg) : FnOk P w K mg base CX0 1 T.f_free T.fd_free ["deeds"] (spOf K m_free) := fn_ok (k := 0) T.F_free sc_free rfl rfl (fun cdv A outer s H E hr => (qss_one (qs_ret (qe_tup (qa_cons (qe_op q_mul (qe_tup (qa_cons qe_int qa_nil)) (qe_callB q_len (by rfl) T.m_len (by decide +kernel) (qa_cons (qe_var (i := 0)) qa_nil))) qa_nil)))))
theorem ok_guard_or_free (T : Txt K mg) : FnOk P w K mg base CX0 2 T.f_guard_or_free T.fd_guard_or_free ["program", "guard"] (spOf K m_guard_or_free) := fn_ok (k := 1) T.F_guard_or_free sc_guard_or_free rfl rfl (fun cdv A outer s H E hr => (qss_one (qs_ret (qe_ifExp (qt_cmp q_is (qe_var (i := 1)) qe_non) (qe_call (ok_free T) (hr.mono (by decide)) (by rfl) T.g_free T.k_free T.b_free (qa_cons (qe_ix (qe_var (i := 0)) qe_int) qa_nil)) (qe_var (i := 1))))))
theorem ok_under (T : Txt K mg) : FnOk P w K mg base CX0 1 T.f_under T.fd_under ["held", "bar"] (spOf K m_under) := fn_ok (k := 0) T.F_under sc_under rfl rfl (fun cdv A outer s H E hr => (qss_one (qs_ret (qe_callTy q_tuple (by rfl) T.m_tuple (by decide +kernel) (qa_cons (qe_lc (own := [("thing", 2)]) rfl sc_under.nd (qi_seq (qe_var (i := 0))) ws_seq (blkOk_by (N := ["held", "bar", "thing"]) (sc := defScope s_under) (by decide +kernel)) (len_nm 2) (by decide) (fun _ _ _ _ _ => (qg_name (i := 2) sc_under.nd rfl (Or.inl rfl))) (fun _ _ _ _ _ => qts_nil) (fun _ _ _ _ _ => (qe_ifExp (qt_cmp (q_ge hr) (qe_var (i := 2)) (qe_var (i := 1))) qe_int qe_int))) qa_nil)))))
theorem ok_is_shadow (T : Txt K mg) : FnOk P w K mg base CX0 4 T.f_is_shadow T.fd_is_shadow ["program", "thing", "guard"] (spOf K m_is_shadow) := fn_ok (k := 3) T.F_is_shadow sc_is_shadow rfl rfl (fun cdv A outer s H E hr => (qss_cons (qs_if (qt_not (qt_val (qe_call (ok_is_row T) (hr.mono (by decide)) (by rfl) T.g_is_row T.k_is_row T.b_is_row (qa_cons (qe_var (i := 1)) (qa_cons qe_int (qa_cons qe_int qa_nil)))))) (qss_one (qs_ret qe_bl)) qss_nil)
      (qss_cons (qs_asg (qe_var (i := 1)) (qg_tup rfl (qgs_cons (qg_name (i := 3) sc_is_shadow.nd rfl (.inl rfl)) (qgs_cons (qg_name (i := 4) sc_is_shadow.nd rfl (.inl rfl)) (qgs_cons (qg_name (i := 5) sc_is_shadow.nd rfl (.inl rfl)) qgs_nil)))))
      (qss_cons (qs_asg (qe_var (i := 0)) (qg_tup rfl (qgs_cons (qg_name (i := 6) sc_is_shadow.nd rfl (.inl rfl)) (qgs_cons (qg_name (i := 7) sc_is_shadow.nd rfl (.inl rfl)) (qgs_cons (qg_name (i := 8) sc_is_shadow.nd rfl (.inl rfl)) qgs_nil)))))
      (qss_cons (qs_if (QW.pt (qw_or (qt_not (qt_val (qe_call (ok_is_within T) (hr.mono (by decide)) (by rfl) T.g_is_within T.k_is_within T.b_is_within (qa_cons (qe_var (i := 3)) (qa_cons qe_int (qa_cons (qe_op q_sub (qe_callB q_len (by rfl) T.m_len (by decide +kernel) (qa_cons (qe_call (ok_guard_or_free T) (hr.mono (by decide)) (by rfl) T.g_guard_or_free T.k_guard_or_free T.b_guard_or_free (qa_cons (qe_var (i := 0)) (qa_cons (qe_var (i := 2)) qa_nil))) qa_nil)) qe_int) qa_nil)))))) (qw_or1 (qt_not (qt_val (qe_call (ok_is_within T) (hr.mono (by decide)) (by rfl) T.g_is_within T.k_is_within T.b_is_within (qa_cons (qe_var (i := 4)) (qa_cons qe_int (qa_cons (qe_op q_sub (qe_callB q_len (by rfl) T.m_len (by decide +kernel) (qa_cons (qe_var (i := 8)) qa_nil)) qe_int) qa_nil))))))))) (qss_one (qs_ret qe_bl)) qss_nil)
      (qss_one (qs_ret (qe_and (qe_call (ok_is_row T) (hr.mono (by decide)) (by rfl) T.g_is_row T.k_is_row T.b_is_row (qa_cons (qe_var (i := 5)) (qa_cons (qe_callB q_len (by rfl) T.m_len (by decide +kernel) (qa_cons (qe_var (i := 6)) qa_nil)) (qa_cons (qe_callB q_len (by rfl) T.m_len (by decide +kernel) (qa_cons (qe_var (i := 6)) qa_nil)) qa_nil)))) (qe_one (qe_callB (q_all rfl) (by rfl) T.m_all (by decide +kernel) (qa_cons (qe_lc (own := [("bit", 9)]) rfl sc_is_shadow.nd (qi_seq (qe_var (i := 5))) ws_seq (blkOk_by (N := ["program", "thing", "guard", "place", "mode", "bits", "cells", "deeds", "modes", "bit"]) (sc := defScope s_is_shadow) (by decide +kernel)) (len_nm 9) (by decide) (fun _ _ _ _ _ => (qg_name (i := 9) sc_is_shadow.nd rfl (Or.inl rfl))) (fun _ _ _ _ _ => qts_nil) (fun _ _ _ _ _ => (qe_call (ok_is_bit T) (hr.mono (by decide)) (by rfl) T.g_is_bit T.k_is_bit T.b_is_bit (qa_cons (qe_var (i := 9)) qa_nil)))) qa_nil)))))))))))
theorem ok_first_shadow (T : Txt K mg) : FnOk P w K mg base CX0 1 T.f_first_shadow T.fd_first_shadow ["program"] (spOf K m_first_shadow) := fn_ok (k := 0) T.F_first_shadow sc_first_shadow rfl rfl (fun cdv A outer s H E hr => (qss_one (qs_ret (qe_tup (qa_cons qe_int (qa_cons qe_int (qa_cons (qe_op q_mul (qe_tup (qa_cons qe_int qa_nil)) (qe_callB q_len (by rfl) T.m_len (by decide +kernel) (qa_cons (qe_ix (qe_var (i := 0)) qe_int) qa_nil))) qa_nil)))))))
theorem ok_bit_rows (T : Txt K mg) : FnOk P w K mg base CX0 1 T.f_bit_rows T.fd_bit_rows ["many"] (spOf K m_bit_rows) := fn_ok (k := 0) T.F_bit_rows sc_bit_rows rfl rfl (fun cdv A outer s H E hr => (qss_cons (qs_set (i := 1) sc_bit_rows.nd rfl (.inl rfl) (qe_lst (qa_cons (qe_tup qa_nil) qa_nil)))
      (qss_cons (qs_for PassesOwn.never rfl (qi_range1 (by rfl) T.m_range (qa_cons (qe_var (i := 0)) qa_nil)) (qg_name (i := 2) sc_bit_rows.nd rfl (.inl rfl)) (qss_one (qs_setLc2 (i := 1) (own := [("row", 3), ("bit", 4)]) (vs1 := [4]) rfl sc_bit_rows.nd rfl rfl (sw_true rfl rfl rfl (by decide +kernel)) (qi_seq (qe_var (i := 1))) ws_seq (blkOk_by (N := ["many", "rows", "place", "row", "bit"]) (sc := defScope s_bit_rows) (by decide +kernel)) (by decide) (len_nm 3) (by decide) (len_nm 4) (by decide) (fun _ _ _ _ _ => (qg_name (i := 3) sc_bit_rows.nd rfl (Or.inl rfl))) (fun _ _ _ _ _ => qts_nil) (fun _ _ _ _ _ => (qi_seq (qe_tup (qa_cons qe_int (qa_cons qe_int qa_nil))))) (fun _ _ _ _ _ => (qg_name (i := 4) sc_bit_rows.nd rfl (Or.inl rfl))) (fun _ _ _ _ _ => qts_nil) (fun _ _ _ _ _ => (qe_tup (qa_star (qe_var (i := 3)) (qa_cons (qe_var (i := 4)) qa_nil)))))))
      (qss_one (qs_ret (qe_var (i := 1)))))))
theorem ok_bit_deeds (T : Txt K mg) : FnOk P w K mg base CX0 2 T.f_bit_deeds T.fd_bit_deeds ["program"] (spOf K m_bit_deeds) := fn_ok (k := 1) T.F_bit_deeds sc_bit_deeds rfl rfl (fun cdv A outer s H E hr => (qss_one (qs_ret (qe_callTy q_tuple (by rfl) T.m_tuple (by decide +kernel) (qa_cons (qe_callB (q_sort hr) (by rfl) T.m_sorted (by decide +kernel) (qa_cons (qe_lc2 (own := [("name", 1), ("many", 2), ("bits", 3)]) (vs1 := [3]) rfl sc_bit_deeds.nd (qi_seq (qe_ix (qe_var (i := 0)) qe_int)) ws_seq (blkOk_by (N := ["program", "name", "many", "bits"]) (sc := defScope s_bit_deeds) (by decide +kernel)) (by decide) (len_tp (len_cn (len_nm 1) (len_cn (len_nm 2) len_n0))) (by decide) (len_nm 3) (by decide) (fun _ _ _ _ _ => (qg_tup rfl (qgs_cons (qg_name (i := 1) sc_bit_deeds.nd rfl (Or.inl rfl)) (qgs_cons (qg_name (i := 2) sc_bit_deeds.nd rfl (Or.inl rfl)) qgs_nil)))) (fun _ _ _ _ _ => qts_nil) (fun _ _ _ _ _ => (qi_seq (qe_call (ok_bit_rows T) (hr.mono (by decide)) (by rfl) T.g_bit_rows T.k_bit_rows T.b_bit_rows (qa_cons (qe_var (i := 2)) qa_nil)))) (fun _ _ _ _ _ => (qg_name (i := 3) sc_bit_deeds.nd rfl (Or.inl rfl))) (fun _ _ _ _ _ => qts_nil) (fun _ _ _ _ _ => (qe_tup (qa_cons (qe_var (i := 1)) (qa_star (qe_var (i := 3)) qa_nil))))) qa_nil)) qa_nil)))))
theorem ok__law_hand (T : Txt K mg) : FnOk P w K mg base CX0 1 T.f__law_hand T.fd__law_hand ["_law_script", "_law_nth"] (spOf K m__law_hand) := fn_ok (k := 0) T.F__law_hand sc__law_hand rfl rfl (fun cdv A outer s H E hr => (qss_cons (qs_set (i := 2) sc__law_hand.nd rfl (.inl rfl) (qe_ifExp (qt_cmp (q_lt hr) (qe_var (i := 1)) (qe_callB q_len (by rfl) T.m_len (by decide +kernel) (qa_cons (qe_var (i := 0)) qa_nil))) (qe_ix (qe_var (i := 0)) (qe_var (i := 1))) (qe_op q_add (qe_op q_mul qe_int (qe_var (i := 1))) qe_int)))
      (qss_cons (qs_set (i := 3) sc__law_hand.nd rfl (.inl rfl) (qe_op q_mul (qe_op q_mod (qe_callB q_abs (by rfl) T.m_abs (by decide +kernel) (qa_cons (qe_var (i := 2)) qa_nil)) (qe_op q_pow (qe_op q_pow qe_int qe_int) qe_int)) (qe_callTy q_int (by rfl) T.m_int (by decide +kernel) (qa_cons (qe_cmp (q_ge hr) (qe_callB q_abs (by rfl) T.m_abs (by decide +kernel) (qa_cons (qe_var (i := 2)) qa_nil)) (qe_op q_pow qe_int qe_int)) qa_nil))))
      (qss_one (qs_ret (qe_lst (qa_cons (qe_var (i := 3)) (qa_cons (qe_op q_mod (qe_op q_mul (qe_op q_add (qe_op q_add (qe_op q_mod (qe_var (i := 2)) qe_int) (qe_op q_mul (qe_op q_mul qe_int (qe_var (i := 1))) (qe_var (i := 1)))) qe_int) qe_int) qe_int) (qa_cons qe_int qa_nil)))))))))
theorem ok__law_take (T : Txt K mg) : FnOk P w K mg base CX0 1 T.f__law_take T.fd__law_take ["_law_hand_here", "_law_upon"] (spOf K m__law_take) := fn_ok (k := 0) T.F__law_take sc__law_take rfl rfl (fun cdv A outer s H E hr => (qss_cons (qs_if (qt_cmp (q_gt hr) (qe_ix (qe_var (i := 0)) qe_int) qe_int) (qss_cons (qs_set (i := 2) sc__law_take.nd rfl (.inl rfl) (qe_op q_mod (qe_ix (qe_var (i := 0)) qe_int) (qe_var (i := 1))))
      (qss_cons (qs_asg (qe_op q_fdiv (qe_ix (qe_var (i := 0)) qe_int) (qe_var (i := 1))) (qg_sub (qe_var (i := 0)) qe_int))
      (qss_one (qs_ret (qe_var (i := 2)))))) qss_nil)
      (qss_cons (qs_asg (qe_op q_add (qe_ix (qe_var (i := 0)) qe_int) qe_int) (qg_sub (qe_var (i := 0)) qe_int))
      (qss_cons (qs_set (i := 3) sc__law_take.nd rfl (.inl rfl) (qe_ix (qe_lst (qa_cons qe_int (qa_cons qe_int (qa_cons qe_int (qa_cons qe_int (qa_cons qe_int (qa_cons qe_int (qa_cons qe_int qa_nil)))))))) (qe_op q_mod (qe_ix (qe_var (i := 0)) qe_int) qe_int)))
      (qss_cons (qs_set (i := 4) sc__law_take.nd rfl (.inl rfl) (qe_op q_mod (qe_op q_pow (qe_op q_add (qe_ix (qe_var (i := 0)) qe_int) (qe_op q_mul qe_int (qe_ix (qe_var (i := 0)) qe_int))) qe_int) (qe_var (i := 3))))
      (qss_one (qs_ret (qe_op q_mod (qe_op q_fdiv (qe_op q_mod (qe_op q_mul (qe_var (i := 4)) (qe_op q_add (qe_op q_mod (qe_var (i := 4)) qe_int) (qe_ix (qe_var (i := 0)) qe_int))) (qe_var (i := 3))) qe_int) (qe_var (i := 1))))))))))
theorem ok__law_of (T : Txt K mg) : FnOk P w K mg base CX0 2 T.f__law_of T.fd__law_of ["_law_hand_here", "_law_some"] (spOf K m__law_of) := fn_ok (k := 1) T.F__law_of sc__law_of rfl rfl (fun cdv A outer s H E hr => (qss_one (qs_ret (qe_ix (qe_var (i := 1)) (qe_call (ok__law_take T) (hr.mono (by decide)) (by rfl) T.g__law_take T.k__law_take T.b__law_take (qa_cons (qe_var (i := 0)) (qa_cons (qe_callB q_len (by rfl) T.m_len (by decide +kernel) (qa_cons (qe_var (i := 1)) qa_nil)) qa_nil)))))))
theorem ok__law_names (T : Txt K mg) : FnOk P w K mg base CX0 3 T.f__law_names T.fd__law_names ["_law_hand_here", "_law_count"] (spOf K m__law_names) := fn_ok (k := 2) T.F__law_names sc__law_names rfl rfl (fun cdv A outer s H E hr => (qss_cons (qs_set (i := 2) sc__law_names.nd rfl (.inr rfl) qe_str)
      (qss_cons (qs_par (i := 3) (j := 4) rfl sc__law_names.nd rfl rfl (by decide) rfl rfl (qa_cons (qe_call (ok__law_take T) (hr.mono (by decide)) (by rfl) T.g__law_take T.k__law_take T.b__law_take (qa_cons (qe_var (i := 0)) (qa_cons qe_int qa_nil))) (qa_cons (qe_call (ok__law_of T) (hr.mono (by decide)) (by rfl) T.g__law_of T.k__law_of T.b__law_of (qa_cons (qe_var (i := 0)) (qa_cons (qe_lst (qa_cons qe_int (qa_cons qe_int (qa_cons qe_int (qa_cons qe_int (qa_cons qe_int (qa_cons qe_int qa_nil))))))) qa_nil))) qa_nil)) (by rfl))
      (qss_cons (qs_set (i := 5) sc__law_names.nd rfl (.inl rfl) (qe_call (ok__law_of T) (hr.mono (by decide)) (by rfl) T.g__law_of T.k__law_of T.b__law_of (qa_cons (qe_var (i := 0)) (qa_cons (qe_lst (qa_cons qe_int (qa_cons qe_int (qa_cons qe_int (qa_cons qe_int (qa_cons qe_int (qa_cons qe_int qa_nil))))))) qa_nil))))
      (qss_cons (qs_set (i := 7) sc__law_names.nd rfl (.inl rfl) (qe_bm PySem.F.plainAttrs_str PySem.F.slot_str_join PySem.F.type_str_join q_join qe_str (qa_cons (qe_lc (own := [("_law_turn", 6)]) rfl sc__law_names.nd (qi_range1 (by rfl) T.m_range (qa_cons (qe_var (i := 5)) qa_nil)) ws_rg1 (blkOk_by (N := ["_law_hand_here", "_law_count", "_law_letters_here", "_law_start", "_law_leap", "_law_long", "_law_turn", "_law_stem", "_law_cut", "_law_found", "_law_letter", "_law_word"]) (sc := defScope s__law_names) (by decide +kernel)) (len_nm 6) (by decide) (fun _ _ _ _ _ => (qg_name (i := 6) sc__law_names.nd rfl (Or.inl rfl))) (fun _ _ _ _ _ => qts_nil) (fun _ _ _ _ _ => (qe_call (ok__law_of T) (hr.mono (by decide)) (by rfl) T.g__law_of T.k__law_of T.b__law_of (qa_cons (qe_var (i := 0)) (qa_cons (qe_var (i := 2)) qa_nil))))) qa_nil)))
      (qss_cons (qs_par (i := 8) (j := 9) rfl sc__law_names.nd rfl rfl (by decide) rfl rfl (qa_cons (qe_call (ok__law_take T) (hr.mono (by decide)) (by rfl) T.g__law_take T.k__law_take T.b__law_take (qa_cons (qe_var (i := 0)) (qa_cons (qe_op q_add (qe_var (i := 5)) qe_int) qa_nil))) (qa_cons (qe_lst qa_nil) qa_nil)) (by rfl))
      (qss_cons (qs_for PassesOwn.never rfl (qi_range1 (by rfl) T.m_range (qa_cons (qe_var (i := 1)) qa_nil)) (qg_name (i := 6) sc__law_names.nd rfl (.inl rfl)) (qss_cons (qs_set (i := 10) sc__law_names.nd rfl (.inl rfl) (qe_ix (qe_var (i := 2)) (qe_op q_mod (qe_op q_add (qe_var (i := 3)) (qe_op q_mul (qe_var (i := 4)) (qe_var (i := 6)))) qe_int)))
      (qss_cons (qs_set (i := 11) sc__law_names.nd rfl (.inl rfl) (qe_op q_add (qe_op q_add (qe_slice (qe_var (i := 7)) qo_none (qo_some (qe_var (i := 8)))) (qe_var (i := 10))) (qe_slice (qe_var (i := 7)) (qo_some (qe_var (i := 8))) qo_none)))
      (qss_one (qs_expr (qe_bm PySem.F.plainAttrs_list PySem.F.slot_list_append PySem.F.type_list_append q_append (qe_var (i := 9)) (qa_cons (qe_op q_add (qe_var (i := 11)) (qe_op q_mul qe_str (qe_callTy q_int (by rfl) T.m_int (by decide +kernel) (qa_cons (qe_cmp (q_in hr) (qe_var (i := 11)) (qe_tup (qa_cons qe_str (qa_cons qe_str (qa_cons qe_str (qa_cons qe_str (qa_cons qe_str qa_nil))))))) qa_nil)))) qa_nil)))))))
      (qss_one (qs_ret (qe_var (i := 9)))))))))))
theorem okg__law_pick (T : Txt K mg) : ∀ n : Nat, (FnOk P w K mg base CX0 (2 + n) T.f__law_pick T.fd__law_pick ["_law_hand_here", "_law_rooms", "_law_count", "_law_left"] (spOf K (m__law_pick n)))
  | 0 => fn_never
  | k + 1 => by
    have ih__law_pick := okg__law_pick T k
    exact fn_ok (k := 2 + k) T.F__law_pick sc__law_pick rfl rfl (fun cdv A outer s H E hr => (qss_cons (qs_set (i := 4) sc__law_pick.nd rfl (.inl rfl) (qe_op q_add (qe_lc (own := [("_law_name", 7)]) rfl sc__law_pick.nd (qi_seq (qe_var (i := 1))) ws_seq (blkOk_by (N := ["_law_hand_here", "_law_rooms", "_law_count", "_law_left", "_law_some", "_law_way", "_law_parts", "_law_name", "_law_number_here", "_law_turn"]) (sc := defScope s__law_pick) (by decide +kernel)) (len_nm 7) (by decide) (fun _ _ _ _ _ => (qg_name (i := 7) sc__law_pick.nd rfl (Or.inl rfl))) (fun _ _ _ _ _ => qts_nil) (fun _ _ _ _ _ => (qe_tup (qa_cons qe_str (qa_cons (qe_var (i := 7)) qa_nil))))) (qe_lc (own := [("_law_number_here", 8)]) rfl sc__law_pick.nd (qi_range1 (by rfl) T.m_range (qa_cons (qe_var (i := 2)) qa_nil)) ws_rg1 (blkOk_by (N := ["_law_hand_here", "_law_rooms", "_law_count", "_law_left", "_law_some", "_law_way", "_law_parts", "_law_name", "_law_number_here", "_law_turn"]) (sc := defScope s__law_pick) (by decide +kernel)) (len_nm 8) (by decide) (fun _ _ _ _ _ => (qg_name (i := 8) sc__law_pick.nd rfl (Or.inl rfl))) (fun _ _ _ _ _ => qts_nil) (fun _ _ _ _ _ => (qe_tup (qa_cons qe_str (qa_cons (qe_var (i := 8)) qa_nil)))))))
      (qss_cons (qs_set (i := 5) sc__law_pick.nd rfl (.inl rfl) (qe_ifExp (qt_cmp (q_gt hr) (qe_var (i := 3)) qe_int) (qe_call (ok__law_take T) (hr.mono (by omega)) (by rfl) T.g__law_take T.k__law_take T.b__law_take (qa_cons (qe_var (i := 0)) (qa_cons qe_int qa_nil))) qe_int))
      (qss_cons (qs_if (qt_cmp (q_lt hr) (qe_var (i := 5)) qe_int) (qss_one (qs_ret (qe_call (ok__law_of T) (hr.mono (by omega)) (by rfl) T.g__law_of T.k__law_of T.b__law_of (qa_cons (qe_var (i := 0)) (qa_cons (qe_op q_add (qe_op q_add (qe_var (i := 4)) (qe_var (i := 4))) (qe_lst (qa_cons (qe_tup (qa_cons qe_str qa_nil)) qa_nil))) qa_nil))))) qss_nil)
      (qss_cons (qs_set (i := 6) sc__law_pick.nd rfl (.inl rfl) (qe_callTy q_tuple (by rfl) T.m_tuple (by decide +kernel) (qa_cons (qe_lc (own := [("_law_turn", 9)]) rfl sc__law_pick.nd (qi_range1 (by rfl) T.m_range (qa_cons (qe_op q_add qe_int (qe_call (ok__law_take T) (hr.mono (by omega)) (by rfl) T.g__law_take T.k__law_take T.b__law_take (qa_cons (qe_var (i := 0)) (qa_cons qe_int qa_nil)))) qa_nil)) ws_rg1 (blkOk_by (N := ["_law_hand_here", "_law_rooms", "_law_count", "_law_left", "_law_some", "_law_way", "_law_parts", "_law_name", "_law_number_here", "_law_turn"]) (sc := defScope s__law_pick) (by decide +kernel)) (len_nm 9) (by decide) (fun _ _ _ _ _ => (qg_name (i := 9) sc__law_pick.nd rfl (Or.inl rfl))) (fun _ _ _ _ _ => qts_nil) (fun _ _ _ _ _ => (qe_call (ih__law_pick) hr (by rfl) T.g__law_pick T.k__law_pick T.b__law_pick (qa_cons (qe_var (i := 0)) (qa_cons (qe_var (i := 1)) (qa_cons (qe_var (i := 2)) (qa_cons (qe_op q_sub (qe_var (i := 3)) qe_int) qa_nil))))))) qa_nil)))
      (qss_cons (qs_if (qt_cmp (q_eq hr) (qe_var (i := 5)) qe_int) (qss_one (qs_ret (qe_tup (qa_cons qe_str (qa_cons (qe_op q_add qe_int (qe_call (ok__law_take T) (hr.mono (by omega)) (by rfl) T.g__law_take T.k__law_take T.b__law_take (qa_cons (qe_var (i := 0)) (qa_cons (qe_callB q_len (by rfl) T.m_len (by decide +kernel) (qa_cons (qe_var (i := 6)) qa_nil)) qa_nil)))) (qa_cons (qe_var (i := 6)) qa_nil)))))) qss_nil)
      (qss_one (qs_ret (qe_tup (qa_cons (qe_ix (qe_lst (qa_cons qe_str (qa_cons qe_str qa_nil))) (qe_op q_mod (qe_var (i := 5)) qe_int)) (qa_cons (qe_var (i := 6)) qa_nil)))))))))))

theorem ok__law_pick (T : Txt K mg) (n : Nat) : FnOk P w K mg base CX0 (2 + n) T.f__law_pick T.fd__law_pick ["_law_hand_here", "_law_rooms", "_law_count", "_law_left"] (spOf K (m__law_pick n)) := okg__law_pick T n
theorem ok__law_phase (T : Txt K mg) : FnOk P w K mg base CX0 7 T.f__law_phase T.fd__law_phase ["_law_hand_here", "_law_names_here", "_law_acts", "_law_phases"] (spOf K m__law_phase) := fn_ok (k := 6) T.F__law_phase sc__law_phase rfl rfl (fun cdv A outer s H E hr => (qss_cons (qs_set (i := 4) sc__law_phase.nd rfl (.inl rfl) (qe_lst qa_nil))
      (qss_cons (qs_for PassesOwn.never rfl (qi_seq (qe_var (i := 2))) (qg_tup rfl (qgs_cons (qg_name (i := 5) sc__law_phase.nd rfl (.inl rfl)) (qgs_cons (qg_name (i := 6) sc__law_phase.nd rfl (.inl rfl)) qgs_nil))) (qss_cons (qs_par (i := 7) (j := 8) rfl sc__law_phase.nd rfl rfl (by decide) rfl rfl (qa_cons (qe_lst qa_nil) (qa_cons qe_non qa_nil)) (by rfl))
      (qss_cons (qs_for PassesOwn.never rfl (qi_seq (qe_var (i := 1))) (qg_name (i := 9) sc__law_phase.nd rfl (.inl rfl)) (qss_one (qs_expr (qe_bm PySem.F.plainAttrs_list PySem.F.slot_list_append PySem.F.type_list_append q_append (qe_var (i := 7)) (qa_cons (qe_ifExp (qt_cmp (q_eq hr) (qe_call (ok__law_take T) (hr.mono (by decide)) (by rfl) T.g__law_take T.k__law_take T.b__law_take (qa_cons (qe_var (i := 0)) (qa_cons qe_int qa_nil))) qe_int) qe_non (qe_call (ok__law_pick T 4) (hr.mono (by decide)) (by rfl) T.g__law_pick T.k__law_pick T.b__law_pick (qa_cons (qe_var (i := 0)) (qa_cons (qe_var (i := 1)) (qa_cons (qe_var (i := 6)) (qa_cons qe_int qa_nil)))))) qa_nil)))))
      (qss_cons (qs_if (qt_cmp (q_gt hr) (qe_call (ok__law_take T) (hr.mono (by decide)) (by rfl) T.g__law_take T.k__law_take T.b__law_take (qa_cons (qe_var (i := 0)) (qa_cons qe_int qa_nil))) qe_int) (qss_one (qs_set (i := 8) sc__law_phase.nd rfl (.inl rfl) (qe_call (ok__law_pick T 4) (hr.mono (by decide)) (by rfl) T.g__law_pick T.k__law_pick T.b__law_pick (qa_cons (qe_var (i := 0)) (qa_cons (qe_var (i := 1)) (qa_cons (qe_var (i := 6)) (qa_cons qe_int qa_nil))))))) qss_nil)
      (qss_one (qs_expr (qe_bm PySem.F.plainAttrs_list PySem.F.slot_list_append PySem.F.type_list_append q_append (qe_var (i := 4)) (qa_cons (qe_tup (qa_cons (qe_call (ok__law_take T) (hr.mono (by decide)) (by rfl) T.g__law_take T.k__law_take T.b__law_take (qa_cons (qe_var (i := 0)) (qa_cons (qe_var (i := 3)) qa_nil))) (qa_cons (qe_callTy q_tuple (by rfl) T.m_tuple (by decide +kernel) (qa_cons (qe_var (i := 7)) qa_nil)) (qa_cons (qe_var (i := 8)) qa_nil)))) qa_nil))))))))
      (qss_one (qs_ret (qe_callTy q_tuple (by rfl) T.m_tuple (by decide +kernel) (qa_cons (qe_var (i := 4)) qa_nil)))))))
theorem ok__law_prog (T : Txt K mg) : FnOk P w K mg base CX0 8 T.f__law_prog T.fd__law_prog ["_law_hand_here", "_law_rooms", "_law_phases", "_law_most_came"] (spOf K m__law_prog) := fn_ok (k := 7) T.F__law_prog sc__law_prog rfl rfl (fun cdv A outer s H E hr => (qss_cons (qs_set (i := 4) sc__law_prog.nd rfl (.inr rfl) (qe_call (ok__law_names T) (hr.mono (by decide)) (by rfl) T.g__law_names T.k__law_names T.b__law_names (qa_cons (qe_var (i := 0)) (qa_cons (qe_op q_add (qe_var (i := 1)) qe_int) qa_nil))))
      (qss_cons (qs_asg (qe_tup (qa_cons (qe_callTy q_tuple (by rfl) T.m_tuple (by decide +kernel) (qa_cons (qe_slice (qe_var (i := 4)) qo_none (qo_some (qe_call (ok__law_take T) (hr.mono (by decide)) (by rfl) T.g__law_take T.k__law_take T.b__law_take (qa_cons (qe_var (i := 0)) (qa_cons (qe_op q_add (qe_var (i := 1)) qe_int) qa_nil))))) qa_nil)) (qa_cons (qe_op q_add qe_int (qe_call (ok__law_take T) (hr.mono (by decide)) (by rfl) T.g__law_take T.k__law_take T.b__law_take (qa_cons (qe_var (i := 0)) (qa_cons (qe_var (i := 2)) qa_nil)))) qa_nil))) (qg_tup rfl (qgs_cons (qg_name (i := 5) sc__law_prog.nd rfl (.inr rfl)) (qgs_cons (qg_name (i := 6) sc__law_prog.nd rfl (.inr rfl)) qgs_nil))))
      (qss_cons (qs_set (i := 7) sc__law_prog.nd rfl (.inr rfl) (qe_callTy q_tuple (by rfl) T.m_tuple (by decide +kernel) (qa_cons (qe_lc (own := [("_law_spot", 8)]) rfl sc__law_prog.nd (qi_range1 (by rfl) T.m_range (qa_cons (qe_op q_add qe_int (qe_call (ok__law_take T) (hr.mono (by decide)) (by rfl) T.g__law_take T.k__law_take T.b__law_take (qa_cons (qe_var (i := 0)) (qa_cons qe_int qa_nil)))) qa_nil)) ws_rg1 (blkOk_by (N := ["_law_hand_here", "_law_rooms", "_law_phases", "_law_most_came", "_law_some", "_law_names_here", "_law_count", "_law_acts", "_law_spot", "_law_turn"]) (sc := defScope s__law_prog) (by decide +kernel)) (len_nm 8) (by decide) (fun _ _ _ _ _ => (qg_name (i := 8) sc__law_prog.nd rfl (Or.inl rfl))) (fun _ _ _ _ _ => qts_nil) (fun _ _ _ _ _ => (qe_tup (qa_cons (qe_ix (qe_var (i := 4)) (qe_op q_add (qe_var (i := 1)) (qe_var (i := 8)))) (qa_cons (qe_call (ok__law_take T) (hr.mono (by decide)) (by rfl) T.g__law_take T.k__law_take T.b__law_take (qa_cons (qe_var (i := 0)) (qa_cons (qe_op q_add (qe_var (i := 3)) qe_int) qa_nil))) qa_nil))))) qa_nil)))
      (qss_one (qs_ret (qe_tup (qa_cons (qe_var (i := 5)) (qa_cons (qe_var (i := 7)) (qa_cons (qe_callTy q_tuple (by rfl) T.m_tuple (by decide +kernel) (qa_cons (qe_lc (own := [("_law_turn", 9)]) rfl sc__law_prog.nd (qi_range1 (by rfl) T.m_range (qa_cons (qe_var (i := 6)) qa_nil)) ws_rg1 (blkOk_by (N := ["_law_hand_here", "_law_rooms", "_law_phases", "_law_most_came", "_law_some", "_law_names_here", "_law_count", "_law_acts", "_law_spot", "_law_turn"]) (sc := defScope s__law_prog) (by decide +kernel)) (len_nm 9) (by decide) (fun _ _ _ _ _ => (qg_name (i := 9) sc__law_prog.nd rfl (Or.inl rfl))) (fun _ _ _ _ _ => qts_nil) (fun _ _ _ _ _ => (qe_call (ok__law_phase T) (hr.mono (by decide)) (by rfl) T.g__law_phase T.k__law_phase T.b__law_phase (qa_cons (qe_var (i := 0)) (qa_cons (qe_var (i := 5)) (qa_cons (qe_var (i := 7)) (qa_cons (qe_var (i := 6)) qa_nil))))))) qa_nil)) qa_nil))))))))))
theorem ok__law_gate (T : Txt K mg) : FnOk P w K mg base CX0 2 T.f__law_gate T.fd__law_gate ["_law_hand_here", "_law_acts", "_law_most_places"] (spOf K m__law_gate) := fn_ok (k := 1) T.F__law_gate sc__law_gate rfl rfl (fun cdv A outer s H E hr => (qss_cons (qs_asg (qe_tupN (qa_cons (qe_op q_add qe_int (qe_call (ok__law_take T) (hr.mono (by decide)) (by rfl) T.g__law_take T.k__law_take T.b__law_take (qa_cons (qe_var (i := 0)) (qa_cons (qe_var (i := 2)) qa_nil)))) (qa_cons (qe_lst qa_nil) qa_nil))) (qg_tup rfl (qgs_cons (qg_name (i := 3) sc__law_gate.nd rfl (.inr rfl)) (qgs_cons (qg_name (i := 4) sc__law_gate.nd rfl (.inl rfl)) qgs_nil))))
      (qss_cons (qs_for PassesOwn.never rfl (qi_range1 (by rfl) T.m_range (qa_cons (qe_var (i := 3)) qa_nil)) (qg_name (i := 5) sc__law_gate.nd rfl (.inl rfl)) (qss_one (qs_expr (qe_bm PySem.F.plainAttrs_list PySem.F.slot_list_append PySem.F.type_list_append q_append (qe_var (i := 4)) (qa_cons (qe_callTy q_tuple (by rfl) T.m_tuple (by decide +kernel) (qa_cons (qe_lc (own := [("_law_act", 6)]) rfl sc__law_gate.nd (qi_seq (qe_var (i := 1))) ws_seq (blkOk_by (N := ["_law_hand_here", "_law_acts", "_law_most_places", "_law_count", "_law_found", "_law_turn", "_law_act"]) (sc := defScope s__law_gate) (by decide +kernel)) (len_nm 6) (by decide) (fun _ _ _ _ _ => (qg_name (i := 6) sc__law_gate.nd rfl (Or.inl rfl))) (fun _ _ _ _ _ => qts_nil) (fun _ _ _ _ _ => (qe_ifExp (qt_cmp (q_eq hr) (qe_call (ok__law_take T) (hr.mono (by decide)) (by rfl) T.g__law_take T.k__law_take T.b__law_take (qa_cons (qe_var (i := 0)) (qa_cons qe_int qa_nil))) qe_int) qe_non (qe_call (ok__law_take T) (hr.mono (by decide)) (by rfl) T.g__law_take T.k__law_take T.b__law_take (qa_cons (qe_var (i := 0)) (qa_cons (qe_var (i := 3)) qa_nil)))))) qa_nil)) qa_nil)))))
      (qss_one (qs_ret (qe_callTy q_tuple (by rfl) T.m_tuple (by decide +kernel) (qa_cons (qe_var (i := 4)) qa_nil)))))))
theorem ok__law_number (T : Txt K mg) : FnOk P w K mg base CX0 2 T.f__law_number T.fd__law_number ["_law_hand_here"] (spOf K m__law_number) := fn_ok (k := 1) T.F__law_number sc__law_number rfl rfl (fun cdv A outer s H E hr => (qss_cons (qs_set (i := 1) sc__law_number.nd rfl (.inl rfl) (qe_call (ok__law_take T) (hr.mono (by decide)) (by rfl) T.g__law_take T.k__law_take T.b__law_take (qa_cons (qe_var (i := 0)) (qa_cons qe_int qa_nil))))
      (qss_cons (qs_if (qt_cmp (q_lt hr) (qe_var (i := 1)) qe_int) (qss_one (qs_ret (qe_call (ok__law_take T) (hr.mono (by decide)) (by rfl) T.g__law_take T.k__law_take T.b__law_take (qa_cons (qe_var (i := 0)) (qa_cons qe_int qa_nil))))) qss_nil)
      (qss_one (qs_ret (qe_ix (qe_lst (qa_cons (qe_call (ok__law_take T) (hr.mono (by decide)) (by rfl) T.g__law_take T.k__law_take T.b__law_take (qa_cons (qe_var (i := 0)) (qa_cons (qe_op q_pow qe_int qe_int) qa_nil))) (qa_cons (qe_op q_sub (qe_neg qe_int) (qe_call (ok__law_take T) (hr.mono (by decide)) (by rfl) T.g__law_take T.k__law_take T.b__law_take (qa_cons (qe_var (i := 0)) (qa_cons qe_int qa_nil)))) qa_nil))) (qe_op q_sub (qe_var (i := 1)) qe_int)))))))
theorem ok__law_letters (T : Txt K mg) : FnOk P w K mg base CX0 1 T.f__law_letters T.fd__law_letters ["_law_acts"] (spOf K m__law_letters) := fn_ok (k := 0) T.F__law_letters sc__law_letters rfl rfl (fun cdv A outer s H E hr => (qss_cons (qs_set (i := 1) sc__law_letters.nd rfl (.inl rfl) (qe_lst qa_nil))
      (qss_cons (qs_for PassesOwn.never rfl (qi_seq (qe_var (i := 0))) (qg_tup rfl (qgs_cons (qg_name (i := 2) sc__law_letters.nd rfl (.inr rfl)) (qgs_cons (qg_name (i := 3) sc__law_letters.nd rfl (.inl rfl)) qgs_nil))) (qss_cons (qs_set (i := 4) sc__law_letters.nd rfl (.inl rfl) (qe_ix (qe_lst (qa_cons (qe_lst (qa_cons (qe_tup qa_nil) qa_nil)) (qa_cons (qe_lst (qa_cons (qe_tup (qa_cons qe_int qa_nil)) (qa_cons (qe_tup (qa_cons qe_int qa_nil)) qa_nil))) (qa_cons (qe_lst (qa_cons (qe_tup (qa_cons qe_int (qa_cons qe_int qa_nil))) (qa_cons (qe_tup (qa_cons qe_int (qa_cons qe_int qa_nil))) (qa_cons (qe_tup (qa_cons qe_int (qa_cons qe_int qa_nil))) (qa_cons (qe_tup (qa_cons qe_int (qa_cons qe_int qa_nil))) qa_nil))))) qa_nil)))) (qe_var (i := 3))))
      (qss_one (qs_expr (qe_bm PySem.F.plainAttrs_list PySem.F.slot_list_extend PySem.F.type_list_extend q_extend (qe_var (i := 1)) (qa_cons (qe_lc (own := [("_law_line", 5)]) rfl sc__law_letters.nd (qi_seq (qe_var (i := 4))) ws_seq (blkOk_by (N := ["_law_acts", "_law_found", "_law_name", "_law_count", "_law_bits", "_law_line"]) (sc := defScope s__law_letters) (by decide +kernel)) (len_nm 5) (by decide) (fun _ _ _ _ _ => (qg_name (i := 5) sc__law_letters.nd rfl (Or.inl rfl))) (fun _ _ _ _ _ => qts_nil) (fun _ _ _ _ _ => (qe_op q_add (qe_tup (qa_cons (qe_var (i := 2)) qa_nil)) (qe_var (i := 5))))) qa_nil))))))
      (qss_one (qs_ret (qe_callB (q_sort hr) (by rfl) T.m_sorted (by decide +kernel) (qa_cons (qe_var (i := 1)) qa_nil)))))))
theorem ok__law_all_bits (T : Txt K mg) : FnOk P w K mg base CX0 1 T.f__law_all_bits T.fd__law_all_bits ["_law_count"] (spOf K m__law_all_bits) := fn_ok (k := 0) T.F__law_all_bits sc__law_all_bits rfl rfl (fun cdv A outer s H E hr => (qss_cons (qs_set (i := 1) sc__law_all_bits.nd rfl (.inl rfl) (qe_lst (qa_cons (qe_tup qa_nil) qa_nil)))
      (qss_cons (qs_for PassesOwn.never rfl (qi_range1 (by rfl) T.m_range (qa_cons (qe_var (i := 0)) qa_nil)) (qg_name (i := 2) sc__law_all_bits.nd rfl (.inl rfl)) (qss_one (qs_set (i := 1) sc__law_all_bits.nd rfl (.inl rfl) (qe_op q_add (qe_lc (own := [("_law_line", 3)]) rfl sc__law_all_bits.nd (qi_seq (qe_var (i := 1))) ws_seq (blkOk_by (N := ["_law_count", "_law_found", "_law_turn", "_law_line"]) (sc := defScope s__law_all_bits) (by decide +kernel)) (len_nm 3) (by decide) (fun _ _ _ _ _ => (qg_name (i := 3) sc__law_all_bits.nd rfl (Or.inl rfl))) (fun _ _ _ _ _ => qts_nil) (fun _ _ _ _ _ => (qe_op q_add (qe_var (i := 3)) (qe_tup (qa_cons qe_int qa_nil))))) (qe_lc (own := [("_law_line", 3)]) rfl sc__law_all_bits.nd (qi_seq (qe_var (i := 1))) ws_seq (blkOk_by (N := ["_law_count", "_law_found", "_law_turn", "_law_line"]) (sc := defScope s__law_all_bits) (by decide +kernel)) (len_nm 3) (by decide) (fun _ _ _ _ _ => (qg_name (i := 3) sc__law_all_bits.nd rfl (Or.inl rfl))) (fun _ _ _ _ _ => qts_nil) (fun _ _ _ _ _ => (qe_op q_add (qe_var (i := 3)) (qe_tup (qa_cons qe_int qa_nil)))))))))
      (qss_one (qs_ret (qe_callB (q_sort hr) (by rfl) T.m_sorted (by decide +kernel) (qa_cons (qe_var (i := 1)) qa_nil)))))))
theorem ok__law_free (T : Txt K mg) : FnOk P w K mg base CX0 1 T.f__law_free T.fd__law_free ["_law_acts"] (spOf K m__law_free) := fn_ok (k := 0) T.F__law_free sc__law_free rfl rfl (fun cdv A outer s H E hr => (qss_one (qs_ret (qe_tup (qa_cons (qe_op q_mul (qe_tup (qa_cons qe_int qa_nil)) (qe_callB q_len (by rfl) T.m_len (by decide +kernel) (qa_cons (qe_var (i := 0)) qa_nil))) qa_nil)))))
theorem ok__law_note (T : Txt K mg) : FnOk P w K mg base CX0 3 T.f__law_note T.fd__law_note ["_law_hand_here"] (spOf K m__law_note) := fn_ok (k := 2) T.F__law_note sc__law_note rfl rfl (fun cdv A outer s H E hr => (qss_cons (qs_if (qt_cmp (q_eq hr) (qe_call (ok__law_take T) (hr.mono (by decide)) (by rfl) T.g__law_take T.k__law_take T.b__law_take (qa_cons (qe_var (i := 0)) (qa_cons qe_int qa_nil))) qe_int) (qss_one (qs_ret (qe_tup qa_nil))) qss_nil)
      (qss_one (qs_ret (qe_tup (qa_cons (qe_call (ok__law_number T) (hr.mono (by decide)) (by rfl) T.g__law_number T.k__law_number T.b__law_number (qa_cons (qe_var (i := 0)) qa_nil)) (qa_cons (qe_call (ok__law_of T) (hr.mono (by decide)) (by rfl) T.g__law_of T.k__law_of T.b__law_of (qa_cons (qe_var (i := 0)) (qa_cons (qe_lst (qa_cons qe_int (qa_cons qe_int (qa_cons qe_int (qa_cons qe_int (qa_cons qe_int qa_nil)))))) qa_nil))) (qa_cons (qe_call (ok__law_take T) (hr.mono (by decide)) (by rfl) T.g__law_take T.k__law_take T.b__law_take (qa_cons (qe_var (i := 0)) (qa_cons qe_int qa_nil))) qa_nil))))))))
theorem ok__law_is_one (T : Txt K mg) : FnOk P w K mg base CX0 1 T.f__law_is_one T.fd__law_is_one ["_law_note_here", "_law_line"] (spOf K m__law_is_one) := fn_ok (k := 0) T.F__law_is_one sc__law_is_one rfl rfl (fun cdv A outer s H E hr => (qss_cons (qs_if (qt_cmp (q_eq hr) (qe_var (i := 0)) (qe_tup qa_nil)) (qss_one (qs_ret qe_int)) qss_nil)
      (qss_cons (qs_for PassesOwn.never rfl (qi_zip (by rfl) T.m_zip (qa_cons (qe_var (i := 0)) (qa_cons (qe_var (i := 1)) qa_nil))) (qg_tup rfl (qgs_cons (qg_name (i := 2) sc__law_is_one.nd rfl (.inl rfl)) (qgs_cons (qg_name (i := 3) sc__law_is_one.nd rfl (.inl rfl)) qgs_nil))) (qss_one (qs_if (qt_cmp (q_ne hr) (qe_var (i := 2)) (qe_var (i := 3))) (qss_one (qs_ret (qe_callTy q_int (by rfl) T.m_int (by decide +kernel) (qa_cons (qe_cmp (q_gt hr) (qe_var (i := 2)) (qe_var (i := 3))) qa_nil)))) qss_nil)))
      (qss_one (qs_ret qe_int)))))
theorem ok__law_bars_right (T : Txt K mg) : FnG P w K mg base 4 T.f__law_bars_right T.fd__law_bars_right ["_law_hand_here"] (spOf K m__law_bars_right) := fn_okG (k := 3) T.F__law_bars_right sc__law_bars_right rfl rfl (fun cdv A outer s H E hgd hr => (qss_cons (qs_set (i := 1) sc__law_bars_right.nd rfl (.inl rfl) (qe_callTy q_tuple (by rfl) T.m_tuple (by decide +kernel) (qa_cons (qe_lc (own := [("_law_turn", 4)]) rfl sc__law_bars_right.nd (qi_range1 (by rfl) T.m_range (qa_cons (qe_call (ok__law_take T) (hr.mono (by decide)) (by rfl) T.g__law_take T.k__law_take T.b__law_take (qa_cons (qe_var (i := 0)) (qa_cons qe_int qa_nil))) qa_nil)) ws_rg1 (blkOk_by (N := ["_law_hand_here", "_law_some", "_law_line", "_law_seen", "_law_turn", "_law_note_here"]) (sc := defScope s__law_bars_right) (by decide +kernel)) (len_nm 4) (by decide) (fun _ _ _ _ _ => (qg_name (i := 4) sc__law_bars_right.nd rfl (Or.inl rfl))) (fun _ _ _ _ _ => qts_nil) (fun _ _ _ _ _ => (qe_call (ok__law_note T) (hr.mono (by decide)) (by rfl) T.g__law_note T.k__law_note T.b__law_note (qa_cons (qe_var (i := 0)) qa_nil)))) qa_nil)))
      (qss_cons (qs_set (i := 2) sc__law_bars_right.nd rfl (.inr rfl) (qe_call (ok__law_of T) (hr.mono (by decide)) (by rfl) T.g__law_of T.k__law_of T.b__law_of (qa_cons (qe_var (i := 0)) (qa_cons (qe_op q_add (qe_lc (own := [("_law_note_here", 5)]) rfl sc__law_bars_right.nd (qi_seq (qe_var (i := 1))) ws_seq (blkOk_by (N := ["_law_hand_here", "_law_some", "_law_line", "_law_seen", "_law_turn", "_law_note_here"]) (sc := defScope s__law_bars_right) (by decide +kernel)) (len_nm 5) (by decide) (fun _ _ _ _ _ => (qg_name (i := 5) sc__law_bars_right.nd rfl (Or.inl rfl))) (fun _ _ _ _ _ => (qts_one (qt_cmp (q_ne hr) (qe_var (i := 5)) (qe_tup qa_nil)))) (fun _ _ _ _ _ => (qe_var (i := 5)))) (qe_lst (qa_cons (qe_tup (qa_cons (qe_call (ok__law_number T) (hr.mono (by decide)) (by rfl) T.g__law_number T.k__law_number T.b__law_number (qa_cons (qe_var (i := 0)) qa_nil)) (qa_cons (qe_call (ok__law_take T) (hr.mono (by decide)) (by rfl) T.g__law_take T.k__law_take T.b__law_take (qa_cons (qe_var (i := 0)) (qa_cons qe_int qa_nil))) (qa_cons qe_int qa_nil)))) qa_nil))) qa_nil))))
      (qss_cons (qs_set (i := 3) sc__law_bars_right.nd rfl (.inl rfl) (qe_call (ok_under T) (hr.mono (by decide)) (by rfl) T.g_under T.k_under T.b_under (qa_cons (qe_var (i := 1)) (qa_cons (qe_var (i := 2)) qa_nil))))
      (qss_one (qs_ret (qe_and (qe_cmp (q_eq hr) (qe_callB (q_repr hgd hr) (by rfl) T.m_repr (by decide +kernel) (qa_cons (qe_var (i := 3)) qa_nil)) (qe_callB (q_repr hgd hr) (by rfl) T.m_repr (by decide +kernel) (qa_cons (qe_callTy q_tuple (by rfl) T.m_tuple (by decide +kernel) (qa_cons (qe_lc (own := [("_law_note_here", 5)]) rfl sc__law_bars_right.nd (qi_seq (qe_var (i := 1))) ws_seq (blkOk_by (N := ["_law_hand_here", "_law_some", "_law_line", "_law_seen", "_law_turn", "_law_note_here"]) (sc := defScope s__law_bars_right) (by decide +kernel)) (len_nm 5) (by decide) (fun _ _ _ _ _ => (qg_name (i := 5) sc__law_bars_right.nd rfl (Or.inl rfl))) (fun _ _ _ _ _ => qts_nil) (fun _ _ _ _ _ => (qe_call (ok__law_is_one T) (hr.mono (by decide)) (by rfl) T.g__law_is_one T.k__law_is_one T.b__law_is_one (qa_cons (qe_var (i := 5)) (qa_cons (qe_var (i := 2)) qa_nil))))) qa_nil)) qa_nil))) (qe_one (qe_cmp (q_eq hr) (qe_kw0 (ok_under T) (hr.mono (by decide)) (by rfl) T.g_under T.k_under T.kb_kb_under_0_held_bar kb_under_0_held_bar_rel (qk_cons (qe_var (i := 1)) (qk_cons (qe_var (i := 2)) qk_nil))) (qe_var (i := 3)))))))))))
theorem ok__law_below (T : Txt K mg) : FnOk P w K mg base CX0 1 T.f__law_below T.fd__law_below ["_law_one", "_law_most"] (spOf K m__law_below) := fn_ok (k := 0) T.F__law_below sc__law_below rfl rfl (fun cdv A outer s H E hr => (qss_one (qs_ret (qe_and (qe_callB q_isi (by rfl) T.m_isinstance (by decide +kernel) (qa_cons (qe_var (i := 0)) (qa_cons (qe_ty (n := "int") (by rfl) T.m_int (by decide +kernel)) qa_nil))) (qe_and (qe_not (qe_callB q_isi (by rfl) T.m_isinstance (by decide +kernel) (qa_cons (qe_var (i := 0)) (qa_cons (qe_ty (n := "bool") (by rfl) T.m_bool (by decide +kernel)) qa_nil)))) (qe_one (qe_chain (q_le hr) (q_lt hr) qe_int (qe_var (i := 0)) (qe_var (i := 1)))))))))
theorem ok__law_is_shade (T : Txt K mg) : FnOk P w K mg base CX0 2 T.f__law_is_shade T.fd__law_is_shade ["_law_prog_here", "_law_gate_here", "_law_one"] (spOf K m__law_is_shade) := fn_ok (k := 1) T.F__law_is_shade sc__law_is_shade rfl rfl (fun cdv A outer s H E hr => (qss_cons (qs_if (QW.pt (qw_or (qt_not (qt_val (qe_callB q_isi (by rfl) T.m_isinstance (by decide +kernel) (qa_cons (qe_var (i := 2)) (qa_cons (qe_ty (n := "tuple") (by rfl) T.m_tuple (by decide +kernel)) qa_nil))))) (qw_or1 (qt_cmp (q_ne hr) (qe_callB q_len (by rfl) T.m_len (by decide +kernel) (qa_cons (qe_var (i := 2)) qa_nil)) qe_int)))) (qss_one (qs_ret qe_bl)) qss_nil)
      (qss_cons (qs_if (QW.pt (qw_or (qt_not (qt_val (qe_call (ok__law_below T) (hr.mono (by decide)) (by rfl) T.g__law_below T.k__law_below T.b__law_below (qa_cons (qe_ix (qe_var (i := 2)) qe_int) (qa_cons (qe_callB q_len (by rfl) T.m_len (by decide +kernel) (qa_cons (qe_var (i := 1)) qa_nil)) qa_nil))))) (qw_or1 (qt_not (qt_val (qe_call (ok__law_below T) (hr.mono (by decide)) (by rfl) T.g__law_below T.k__law_below T.b__law_below (qa_cons (qe_ix (qe_var (i := 2)) qe_int) (qa_cons (qe_callB q_len (by rfl) T.m_len (by decide +kernel) (qa_cons (qe_ix (qe_var (i := 0)) qe_int) qa_nil)) qa_nil)))))))) (qss_one (qs_ret qe_bl)) qss_nil)
      (qss_cons (qs_if (QW.pt (qw_or (qt_not (qt_val (qe_callB q_isi (by rfl) T.m_isinstance (by decide +kernel) (qa_cons (qe_ix (qe_var (i := 2)) qe_int) (qa_cons (qe_ty (n := "tuple") (by rfl) T.m_tuple (by decide +kernel)) qa_nil))))) (qw_or1 (qt_cmp (q_ne hr) (qe_callB q_len (by rfl) T.m_len (by decide +kernel) (qa_cons (qe_ix (qe_var (i := 2)) qe_int) qa_nil)) (qe_callB q_len (by rfl) T.m_len (by decide +kernel) (qa_cons (qe_ix (qe_var (i := 0)) qe_int) qa_nil)))))) (qss_one (qs_ret qe_bl)) qss_nil)
      (qss_one (qs_ret (qe_callB (q_all rfl) (by rfl) T.m_all (by decide +kernel) (qa_cons (qe_lc (own := [("_law_bit", 3)]) rfl sc__law_is_shade.nd (qi_seq (qe_ix (qe_var (i := 2)) qe_int)) ws_seq (blkOk_by (N := ["_law_prog_here", "_law_gate_here", "_law_one", "_law_bit"]) (sc := defScope s__law_is_shade) (by decide +kernel)) (len_nm 3) (by decide) (fun _ _ _ _ _ => (qg_name (i := 3) sc__law_is_shade.nd rfl (Or.inl rfl))) (fun _ _ _ _ _ => qts_nil) (fun _ _ _ _ _ => (qe_call (ok__law_below T) (hr.mono (by decide)) (by rfl) T.g__law_below T.k__law_below T.b__law_below (qa_cons (qe_var (i := 3)) (qa_cons qe_int qa_nil))))) qa_nil))))))))
theorem ok__law_things (T : Txt K mg) : FnOk P w K mg base CX0 2 T.f__law_things T.fd__law_things ["_law_hand_here", "_law_prog_here", "_law_gate_here"] (spOf K m__law_things) := fn_ok (k := 1) T.F__law_things sc__law_things rfl rfl (fun cdv A outer s H E hr => (qss_cons (qs_par (i := 3) (j := 4) rfl sc__law_things.nd rfl rfl (by decide) rfl rfl (qa_cons (qe_callB q_len (by rfl) T.m_len (by decide +kernel) (qa_cons (qe_var (i := 2)) qa_nil)) (qa_cons (qe_callB q_len (by rfl) T.m_len (by decide +kernel) (qa_cons (qe_ix (qe_var (i := 1)) qe_int) qa_nil)) qa_nil)) (by rfl))
      (qss_cons (qs_set (i := 5) sc__law_things.nd rfl (.inr rfl) (qe_callTy q_tuple (by rfl) T.m_tuple (by decide +kernel) (qa_cons (qe_lc (own := [("_law_name", 8)]) rfl sc__law_things.nd (qi_seq (qe_ix (qe_var (i := 1)) qe_int)) ws_seq (blkOk_by (N := ["_law_hand_here", "_law_prog_here", "_law_gate_here", "_law_steads", "_law_phases", "_law_bits", "_law_one", "_law_some", "_law_name", "_law_odd"]) (sc := defScope s__law_things) (by decide +kernel)) (len_nm 8) (by decide) (fun _ _ _ _ _ => (qg_name (i := 8) sc__law_things.nd rfl (Or.inl rfl))) (fun _ _ _ _ _ => qts_nil) (fun _ _ _ _ _ => (qe_call (ok__law_take T) (hr.mono (by decide)) (by rfl) T.g__law_take T.k__law_take T.b__law_take (qa_cons (qe_var (i := 0)) (qa_cons qe_int qa_nil))))) qa_nil)))
      (qss_cons (qs_set (i := 6) sc__law_things.nd rfl (.inr rfl) (qe_tup (qa_cons (qe_call (ok__law_take T) (hr.mono (by decide)) (by rfl) T.g__law_take T.k__law_take T.b__law_take (qa_cons (qe_var (i := 0)) (qa_cons (qe_var (i := 3)) qa_nil))) (qa_cons (qe_call (ok__law_take T) (hr.mono (by decide)) (by rfl) T.g__law_take T.k__law_take T.b__law_take (qa_cons (qe_var (i := 0)) (qa_cons (qe_var (i := 4)) qa_nil))) (qa_cons (qe_var (i := 5)) qa_nil)))))
      (qss_cons (qs_set (i := 7) sc__law_things.nd rfl (.inl rfl) (qe_lst (qa_cons (qe_var (i := 6)) (qa_cons (qe_op q_add (qe_tup (qa_cons (qe_var (i := 3)) qa_nil)) (qe_slice (qe_var (i := 6)) (qo_some qe_int) qo_none)) (qa_cons (qe_op q_add (qe_tup (qa_cons (qe_neg qe_int) qa_nil)) (qe_slice (qe_var (i := 6)) (qo_some qe_int) qo_none)) (qa_cons (qe_tup (qa_cons (qe_ix (qe_var (i := 6)) qe_int) (qa_cons (qe_var (i := 4)) (qa_cons (qe_var (i := 5)) qa_nil)))) (qa_cons (qe_tup (qa_cons (qe_ix (qe_var (i := 6)) qe_int) (qa_cons (qe_neg qe_int) (qa_cons (qe_var (i := 5)) qa_nil)))) (qa_cons (qe_slice (qe_var (i := 6)) qo_none (qo_some qe_int)) (qa_cons (qe_op q_add (qe_var (i := 6)) (qe_tup (qa_cons qe_int qa_nil))) qa_nil)))))))))
      (qss_cons (qs_set (i := 7) sc__law_things.nd rfl (.inl rfl) (qe_op q_add (qe_var (i := 7)) (qe_lst (qa_cons (qe_op q_add (qe_slice (qe_var (i := 6)) qo_none (qo_some qe_int)) (qe_tup (qa_cons (qe_op q_add (qe_var (i := 5)) (qe_tup (qa_cons qe_int qa_nil))) qa_nil))) (qa_cons (qe_op q_add (qe_slice (qe_var (i := 6)) qo_none (qo_some qe_int)) (qe_tup (qa_cons (qe_slice (qe_var (i := 5)) qo_none (qo_some (qe_neg qe_int))) qa_nil))) (qa_cons (qe_op q_add (qe_slice (qe_var (i := 6)) qo_none (qo_some qe_int)) (qe_tup (qa_cons (qe_callTy q_list (by rfl) T.m_list (by decide +kernel) (qa_cons (qe_var (i := 5)) qa_nil)) qa_nil))) (qa_cons (qe_callTy q_list (by rfl) T.m_list (by decide +kernel) (qa_cons (qe_var (i := 6)) qa_nil)) (qa_cons (qe_tup (qa_cons (qe_var (i := 6)) qa_nil)) (qa_cons (qe_lst (qa_cons (qe_var (i := 6)) qa_nil)) qa_nil)))))))))
      (qss_cons (qs_set (i := 7) sc__law_things.nd rfl (.inl rfl) (qe_op q_add (qe_var (i := 7)) (qe_lst (qa_cons (qe_op q_add (qe_tup (qa_cons qe_bl qa_nil)) (qe_slice (qe_var (i := 6)) (qo_some qe_int) qo_none)) (qa_cons (qe_tup (qa_cons (qe_ix (qe_var (i := 6)) qe_int) (qa_cons qe_bl (qa_cons (qe_var (i := 5)) qa_nil)))) (qa_cons (qe_op q_add (qe_tup (qa_cons qe_str qa_nil)) (qe_slice (qe_var (i := 6)) (qo_some qe_int) qo_none)) (qa_cons qe_non (qa_cons qe_str (qa_cons qe_int (qa_cons (qe_tup qa_nil) (qa_cons qe_dct0 qa_nil)))))))))))
      (qss_cons (qs_set (i := 7) sc__law_things.nd rfl (.inl rfl) (qe_op q_add (qe_var (i := 7)) (qe_lc (own := [("_law_odd", 9)]) rfl sc__law_things.nd (qi_seq (qe_tup (qa_cons qe_int (qa_cons (qe_neg qe_int) (qa_cons qe_bl (qa_cons qe_non (qa_cons qe_str (qa_cons (qe_tup (qa_cons qe_int qa_nil)) qa_nil)))))))) ws_seq (blkOk_by (N := ["_law_hand_here", "_law_prog_here", "_law_gate_here", "_law_steads", "_law_phases", "_law_bits", "_law_one", "_law_some", "_law_name", "_law_odd"]) (sc := defScope s__law_things) (by decide +kernel)) (len_nm 9) (by decide) (fun _ _ _ _ _ => (qg_name (i := 9) sc__law_things.nd rfl (Or.inl rfl))) (fun _ _ _ _ _ => qts_nil) (fun _ _ _ _ _ => (qe_op q_add (qe_slice (qe_var (i := 6)) qo_none (qo_some qe_int)) (qe_tup (qa_cons (qe_op q_add (qe_tup (qa_cons (qe_var (i := 9)) qa_nil)) (qe_slice (qe_var (i := 5)) (qo_some qe_int) qo_none)) qa_nil)))))))
      (qss_one (qs_ret (qe_op q_add (qe_var (i := 7)) (qe_lst (qa_cons (qe_op q_add (qe_slice (qe_var (i := 6)) qo_none (qo_some qe_int)) (qe_tup (qa_cons (qe_op q_mulZ qe_str (qe_callB q_len (by rfl) T.m_len (by decide +kernel) (qa_cons (qe_var (i := 5)) qa_nil))) qa_nil))) (qa_cons (qe_tup (qa_cons qe_non (qa_cons qe_non (qa_cons qe_non qa_nil)))) (qa_cons (qe_tup (qa_cons (qe_tup (qa_cons qe_int (qa_cons qe_int qa_nil))) (qa_cons (qe_var (i := 6)) qa_nil))) (qa_cons (qe_dctV (i := 6)) (qa_cons (qe_lst (qa_cons (qe_lst (qa_cons (qe_lst (qa_cons (qe_var (i := 6)) qa_nil)) qa_nil)) qa_nil)) qa_nil)))))))))))))))))
theorem ok_law (T : Txt K mg) : FnG P w K mg base 9 T.f_law T.fd_law ["_law_script"] (spOf K m_law) := fn_okG (k := 8) T.F_law sc_law rfl rfl (fun cdv A outer s H E hgd hr => (qss_cons (qs_for PassesOwn.never rfl (qi_range1 (by rfl) T.m_range (qa_cons (qe_callB (q_max2 rfl) (by rfl) T.m_max (by decide +kernel) (qa_cons qe_int (qa_cons (qe_callB (q_min2 rfl) (by rfl) T.m_min (by decide +kernel) (qa_cons qe_int (qa_cons (qe_callB q_len (by rfl) T.m_len (by decide +kernel) (qa_cons (qe_var (i := 0)) qa_nil)) qa_nil))) qa_nil))) qa_nil)) (qg_name (i := 1) sc_law.nd rfl (.inl rfl)) (qss_cons (qs_set (i := 2) sc_law.nd rfl (.inr rfl) (qe_call (ok__law_hand T) (hr.mono (by decide)) (by rfl) T.g__law_hand T.k__law_hand T.b__law_hand (qa_cons (qe_var (i := 0)) (qa_cons (qe_var (i := 1)) qa_nil))))
      (qss_cons (qs_set (i := 3) sc_law.nd rfl (.inl rfl) (qe_call (ok__law_prog T) (hr.mono (by decide)) (by rfl) T.g__law_prog T.k__law_prog T.b__law_prog (qa_cons (qe_var (i := 2)) (qa_cons qe_int (qa_cons qe_int (qa_cons qe_int qa_nil))))))
      (qss_cons (qs_set (i := 4) sc_law.nd rfl (.inl rfl) (qe_call (ok__law_gate T) (hr.mono (by decide)) (by rfl) T.g__law_gate T.k__law_gate T.b__law_gate (qa_cons (qe_var (i := 2)) (qa_cons (qe_ix (qe_var (i := 3)) qe_int) (qa_cons qe_int qa_nil)))))
      (qss_cons (qs_if (qt_not (qt_val (qe_callB (q_all rfl) (by rfl) T.m_all (by decide +kernel) (qa_cons (qe_lc (own := [("_law_turn", 12)]) rfl sc_law.nd (qi_range1 (by rfl) T.m_range (qa_cons qe_int qa_nil)) ws_rg1 (blkOk_by (N := ["_law_script", "_law_nth", "_law_hand_here", "_law_prog_here", "_law_gate_here", "_law_zero", "_law_one", "_law_kept", "_law_due", "_law_seen", "_law_lone", "_law_bits", "_law_turn"]) (sc := defScope s_law) (by decide +kernel)) (len_nm 12) (by decide) (fun _ _ _ _ _ => (qg_name (i := 12) sc_law.nd rfl (Or.inl rfl))) (fun _ _ _ _ _ => qts_nil) (fun _ _ _ _ _ => (qe_callG (ok__law_bars_right T) hgd (hr.mono (by decide)) (by rfl) T.g__law_bars_right T.k__law_bars_right T.b__law_bars_right (qa_cons (qe_var (i := 2)) qa_nil)))) qa_nil)))) (qss_one (qs_ret qe_bl)) qss_nil)
      (qss_cons (qs_set (i := 5) sc_law.nd rfl (.inl rfl) (qe_callB (q_repr hgd hr) (by rfl) T.m_repr (by decide +kernel) (qa_cons (qe_tup (qa_cons qe_int (qa_cons qe_int (qa_cons (qe_op q_mul (qe_tup (qa_cons qe_int qa_nil)) (qe_callB q_len (by rfl) T.m_len (by decide +kernel) (qa_cons (qe_ix (qe_var (i := 3)) qe_int) qa_nil))) qa_nil)))) qa_nil)))
      (qss_cons (qs_if (QW.pt (qw_or (qt_cmp (q_ne hr) (qe_callB (q_repr hgd hr) (by rfl) T.m_repr (by decide +kernel) (qa_cons (qe_call (ok_first_shadow T) (hr.mono (by decide)) (by rfl) T.g_first_shadow T.k_first_shadow T.b_first_shadow (qa_cons (qe_var (i := 3)) qa_nil)) qa_nil)) (qe_var (i := 5))) (qw_or1 (qt_cmp (q_ne hr) (qe_callB (q_repr hgd hr) (by rfl) T.m_repr (by decide +kernel) (qa_cons (qe_kw0 (ok_first_shadow T) (hr.mono (by decide)) (by rfl) T.g_first_shadow T.k_first_shadow T.kb_kb_first_shadow_0_program kb_first_shadow_0_program_rel (qk_cons (qe_var (i := 3)) qk_nil)) qa_nil)) (qe_var (i := 5)))))) (qss_one (qs_ret qe_bl)) qss_nil)
      (qss_cons (qs_if (QW.pt (qw_or (qt_cmp (q_ne hr) (qe_callB (q_repr hgd hr) (by rfl) T.m_repr (by decide +kernel) (qa_cons (qe_call (ok_bit_deeds T) (hr.mono (by decide)) (by rfl) T.g_bit_deeds T.k_bit_deeds T.b_bit_deeds (qa_cons (qe_var (i := 3)) qa_nil)) qa_nil)) (qe_callB (q_repr hgd hr) (by rfl) T.m_repr (by decide +kernel) (qa_cons (qe_callTy q_tuple (by rfl) T.m_tuple (by decide +kernel) (qa_cons (qe_call (ok__law_letters T) (hr.mono (by decide)) (by rfl) T.g__law_letters T.k__law_letters T.b__law_letters (qa_cons (qe_ix (qe_var (i := 3)) qe_int) qa_nil)) qa_nil)) qa_nil))) (qw_or1 (qt_cmp (q_ne hr) (qe_kw0 (ok_bit_deeds T) (hr.mono (by decide)) (by rfl) T.g_bit_deeds T.k_bit_deeds T.kb_kb_bit_deeds_0_program kb_bit_deeds_0_program_rel (qk_cons (qe_var (i := 3)) qk_nil)) (qe_call (ok_bit_deeds T) (hr.mono (by decide)) (by rfl) T.g_bit_deeds T.k_bit_deeds T.b_bit_deeds (qa_cons (qe_var (i := 3)) qa_nil)))))) (qss_one (qs_ret qe_bl)) qss_nil)
      (qss_one (qs_for PassesOwn.never rfl (qi_seq (qe_op q_add (qe_call (ok__law_things T) (hr.mono (by decide)) (by rfl) T.g__law_things T.k__law_things T.b__law_things (qa_cons (qe_var (i := 2)) (qa_cons (qe_var (i := 3)) (qa_cons (qe_var (i := 4)) qa_nil)))) (qe_lc (own := [("_law_bits", 11)]) rfl sc_law.nd (qi_seq (qe_call (ok__law_all_bits T) (hr.mono (by decide)) (by rfl) T.g__law_all_bits T.k__law_all_bits T.b__law_all_bits (qa_cons (qe_callB q_len (by rfl) T.m_len (by decide +kernel) (qa_cons (qe_ix (qe_var (i := 3)) qe_int) qa_nil)) qa_nil))) ws_seq (blkOk_by (N := ["_law_script", "_law_nth", "_law_hand_here", "_law_prog_here", "_law_gate_here", "_law_zero", "_law_one", "_law_kept", "_law_due", "_law_seen", "_law_lone", "_law_bits", "_law_turn"]) (sc := defScope s_law) (by decide +kernel)) (len_nm 11) (by decide) (fun _ _ _ _ _ => (qg_name (i := 11) sc_law.nd rfl (Or.inl rfl))) (fun _ _ _ _ _ => qts_nil) (fun _ _ _ _ _ => (qe_tup (qa_cons qe_int (qa_cons qe_int (qa_cons (qe_var (i := 11)) qa_nil)))))))) (qg_name (i := 6) sc_law.nd rfl (.inl rfl)) (qss_cons (qs_par (i := 7) (j := 8) rfl sc_law.nd rfl rfl (by decide) rfl rfl (qa_cons (qe_callB (q_repr hgd hr) (by rfl) T.m_repr (by decide +kernel) (qa_cons (qe_var (i := 6)) qa_nil)) (qa_cons (qe_call (ok__law_is_shade T) (hr.mono (by decide)) (by rfl) T.g__law_is_shade T.k__law_is_shade T.b__law_is_shade (qa_cons (qe_var (i := 3)) (qa_cons (qe_var (i := 4)) (qa_cons (qe_var (i := 6)) qa_nil)))) qa_nil)) (by rfl))
      (qss_cons (qs_set (i := 9) sc_law.nd rfl (.inl rfl) (qe_lst (qa_cons (qe_callK (ok_is_shadow T) (hr.mono (by decide)) (by rfl) T.g_is_shadow T.k_is_shadow T.kb_kb_is_shadow_2_guard kb_is_shadow_2_guard_rel (qa_cons (qe_var (i := 3)) (qa_cons (qe_var (i := 6)) qa_nil)) (qk_cons (qe_var (i := 4)) qk_nil)) (qa_cons (qe_kw0 (ok_is_shadow T) (hr.mono (by decide)) (by rfl) T.g_is_shadow T.k_is_shadow T.kb_kb_is_shadow_0_thing_program_guard kb_is_shadow_0_thing_program_guard_rel (qk_cons (qe_var (i := 6)) (qk_cons (qe_var (i := 3)) (qk_cons (qe_var (i := 4)) qk_nil)))) qa_nil))))
      (qss_cons (qs_if (qt_cmp (q_ne hr) (qe_callB (q_repr hgd hr) (by rfl) T.m_repr (by decide +kernel) (qa_cons (qe_var (i := 9)) qa_nil)) (qe_callB (q_repr hgd hr) (by rfl) T.m_repr (by decide +kernel) (qa_cons (qe_lst (qa_cons (qe_var (i := 8)) (qa_cons (qe_var (i := 8)) qa_nil))) qa_nil))) (qss_one (qs_ret qe_bl)) qss_nil)
      (qss_cons (qs_set (i := 10) sc_law.nd rfl (.inl rfl) (qe_call (ok__law_is_shade T) (hr.mono (by decide)) (by rfl) T.g__law_is_shade T.k__law_is_shade T.b__law_is_shade (qa_cons (qe_var (i := 3)) (qa_cons (qe_call (ok__law_free T) (hr.mono (by decide)) (by rfl) T.g__law_free T.k__law_free T.b__law_free (qa_cons (qe_ix (qe_var (i := 3)) qe_int) qa_nil)) (qa_cons (qe_var (i := 6)) qa_nil)))))
      (qss_one (qs_if (QW.pt (qw_or (qt_cmp (q_ne hr) (qe_callB (q_repr hgd hr) (by rfl) T.m_repr (by decide +kernel) (qa_cons (qe_callN (ok_is_shadow T) (hr.mono (by decide)) (by rfl) T.g_is_shadow T.k_is_shadow T.bd_is_shadow (qa_cons (qe_var (i := 3)) (qa_cons (qe_var (i := 6)) qa_nil))) qa_nil)) (qe_callB (q_repr hgd hr) (by rfl) T.m_repr (by decide +kernel) (qa_cons (qe_var (i := 10)) qa_nil))) (qw_or1 (qt_cmp (q_ne hr) (qe_callB (q_repr hgd hr) (by rfl) T.m_repr (by decide +kernel) (qa_cons (qe_var (i := 6)) qa_nil)) (qe_var (i := 7)))))) (qss_one (qs_ret qe_bl)) qss_nil))))))))))))))))
      (qss_one (qs_ret qe_bl))))
end
end Z

namespace Z
open PySem PySem.Spec PyProof.Rows L2 Lw Pu
/-- the hand that draws -/
def Hand (M : Mem) (h n : Nat) : Prop := ∃ g m c : Int, M[h]? = some (.lst true [.dat (.int g), .dat (.int m), .dat (.int c)]) ∧ 0 ≤ m ∧ m < 2305843009213693921 ∧ 0 ≤ c ∧ c ≤ n
theorem log_small {i : Int} {k : Nat} (hk : 0 < k) (h : i.natAbs < 2 ^ k) : i.natAbs.log2 < k := PySem.Flt.log2_lt_of hk h
theorem cmul {i j : Int} (hi : i.natAbs < 2 ^ 4000) (hj : j.natAbs < 2 ^ 4000) : CMulW i j := by
  have h1 := log_small (by decide) hi
  have h2 := log_small (by decide) hj
  show i.natAbs.log2 + j.natAbs.log2 < 1000000
  omega
theorem small4 {i : Int} (h : i.natAbs < 2 ^ 64) : i.natAbs < 2 ^ 4000 := Nat.lt_of_lt_of_le h (Nat.pow_le_pow_right (by decide) (by decide))
theorem cmul_s {i j : Int} (hi : i.natAbs < 2 ^ 64) (hj : j.natAbs < 2 ^ 64) : CMulW i j := cmul (small4 hi) (small4 hj)
theorem cdiv {i j : Int} (h0 : 0 < j) (hj : j.natAbs < 2 ^ 64) : CDivW i j := ⟨h0, by have := log_small (by decide) hj; omega⟩
theorem bits_small {i : Int} (h : i.natAbs < 2 ^ 64) : Builtin.Int.intBits i ≤ 64 := by
  have := log_small (k := 64) (by decide) h
  unfold Builtin.Int.intBits
  split <;> omega
theorem cpow3 {i : Int} (h : i.natAbs < 2 ^ 64) : CPowW i 3 := by
  refine ⟨by decide, ?_⟩
  have := bits_small h
  omega
theorem ix_h {M : Mem} {h : Nat} {f : Bool} {a b c : U} {Q : U → Mem → Prop} (e : M[h]? = some (.lst f [a, b, c])) : (W (ixU (.cell h) (.dat (.int 0)) M) Q ↔ Q a M) ∧ (W (ixU (.cell h) (.dat (.int 1)) M) Q ↔ Q b M) ∧ (W (ixU (.cell h) (.dat (.int 2)) M) Q ↔ Q c M) := by
  have s := seq_cell e
  refine ⟨?_, ?_, ?_⟩ <;> rw [ix_seq' s] <;> constructor
  · rintro ⟨u, hu, q⟩; cases hu; exact q
  · exact fun q => ⟨_, rfl, q⟩
  · rintro ⟨u, hu, q⟩; cases hu; exact q
  · exact fun q => ⟨_, rfl, q⟩
  · rintro ⟨u, hu, q⟩; cases hu; exact q
  · exact fun q => ⟨_, rfl, q⟩
theorem get_set {M : Mem} {h : Nat} {c d : Cell} (e : M[h]? = some c) : (M.set h d)[h]? = some d := List.getElem?_set_self (List.getElem?_eq_some_iff.mp e).1
theorem get_app {M G : Mem} {h : Nat} {c : Cell} (e : M[h]? = some c) : (M ++ G)[h]? = some c := by
  rw [List.getElem?_append_left (List.getElem?_eq_some_iff.mp e).1]
  exact e
def primes : List Int := [2147483629, 2147483587, 2147483579, 2147483563, 2147483549, 2147483543, 2147483497]
theorem prime_at {c : Int} (h : 0 ≤ c) : ∃ p, atI primes (c % 7) = some p ∧ 2147483497 ≤ p ∧ p ≤ 2147483629 := by
  have h1 : 0 ≤ c % 7 := Int.emod_nonneg _ (by decide)
  have h2 : c % 7 < 7 := Int.emod_lt_of_pos _ (by decide)
  obtain ⟨k, hk⟩ : ∃ k : Nat, c % 7 = k := ⟨(c % 7).toNat, by omega⟩
  rw [hk]
  have hk7 : k < 7 := by omega
  match k, hk7 with
  | 0, _ => exact ⟨_, rfl, by decide, by decide⟩
  | 1, _ => exact ⟨_, rfl, by decide, by decide⟩
  | 2, _ => exact ⟨_, rfl, by decide, by decide⟩
  | 3, _ => exact ⟨_, rfl, by decide, by decide⟩
  | 4, _ => exact ⟨_, rfl, by decide, by decide⟩
  | 5, _ => exact ⟨_, rfl, by decide, by decide⟩
  | 6, _ => exact ⟨_, rfl, by decide, by decide⟩
theorem cdivL {i j : Int} (h0 : 0 < j) (hj : j.natAbs < 2 ^ 400) : CDivW i j := ⟨h0, by have := log_small (by decide) hj; omega⟩
theorem take_wide {M : Mem} {h n : Nat} {k : Int} {Q : U → Mem → Prop} (hh : Hand M h n) (hn : n + 1 ≤ 800000) (hk : 0 < k) (hk2 : k.natAbs < 2 ^ 400) (q : ∀ x M', 0 ≤ x → x < k → Hand M' h (n + 1) → Fr h M M' → Q (.dat (.int x)) M') :
    W (m__law_take [.cell h, .dat (.int k)] M) Q := by
  obtain ⟨g, m, c, e, m0, m1, c0, c1⟩ := hh
  simp only [m__law_take, w_fn, w_ret, w_seq, w_sif, w_of, w_trn, w_op, w_snil, w_pass, w_retn, w_asg, w_gnm, w_gsb, w_gtp, w_gcn, w_gn0, w_par, w_aug, w_drop, w_c, w_k, w_lst, w_tup, w_and, w_or, w_not, w_neg, w_ifx, w_tand, w_tor, w_tnot, w_cb, w_ck, w_mt, w_cons, w_nil, w_var, w_chain, w_sl, w_osome, w_onone, Pu.w_rev, w_dct0, w_for, w_iseq, w_irg1, w_lc, w_lc2, List.map_cons, List.map_nil, List.cons_append, List.nil_append, List.getElem?_cons_zero, List.getElem?_cons_succ, List.length_cons, List.length_nil, Option.some.injEq, exists_eq_left', w_some, List.replicate, List.set_cons_zero, List.set_cons_succ, frz_nil, frz_dat, frz_new, frz_new0, ne_ss, list_t, mk_nil, mk1, mk2, mk3, U.dat.injEq, PyData.int.injEq, PyData.bool.injEq, PyData.str.injEq, U.cell.injEq, add_ii, sub_ii, lt_ii, le_ii, gt_ii, ge_ii, eq_ii, ne_ii, eq_tt0, ne_tt0, eq_ds, sl_t, len_t, isi_int, isi_bool, isi_str, isi_tup, abs_i, min_ii, max_ii, int_i, int_b, mod_ii, fdiv_ii, mul_ii, pow_ii, add_ss, add_tt, mul_ti, repr_d, frzU_dat, and_true, true_and, and_assoc, List.cons.injEq, exists_and_left, exists_and_right, exists_eq_left, exists_eq_right, ix_t, ix_s, sl_s, len_s, is_non, Nat.reduceAdd, Nat.reduceSub, sz0, sz1, sz2, sz3, sz4, sz5, sz6, sz7, sz8, sz9, sz10, sz11, sz12, sz13, sz14, sz15, sz16, sz17, sz18, sz19, sz20, sz21, sz22, sz23, sz24, sz25, sz26, sz27, sz28, sz29, sz30]
  refine (ix_h e).1.mpr ?_
  simp only [w_fn, w_ret, w_seq, w_sif, w_of, w_trn, w_op, w_snil, w_pass, w_retn, w_asg, w_gnm, w_gsb, w_gtp, w_gcn, w_gn0, w_par, w_aug, w_drop, w_c, w_k, w_lst, w_tup, w_and, w_or, w_not, w_neg, w_ifx, w_tand, w_tor, w_tnot, w_cb, w_ck, w_mt, w_cons, w_nil, w_var, w_chain, w_sl, w_osome, w_onone, Pu.w_rev, w_dct0, w_for, w_iseq, w_irg1, w_lc, w_lc2, List.map_cons, List.map_nil, List.cons_append, List.nil_append, List.getElem?_cons_zero, List.getElem?_cons_succ, List.length_cons, List.length_nil, Option.some.injEq, exists_eq_left', w_some, List.replicate, List.set_cons_zero, List.set_cons_succ, frz_nil, frz_dat, frz_new, frz_new0, ne_ss, list_t, mk_nil, mk1, mk2, mk3, U.dat.injEq, PyData.int.injEq, PyData.bool.injEq, PyData.str.injEq, U.cell.injEq, add_ii, sub_ii, lt_ii, le_ii, gt_ii, ge_ii, eq_ii, ne_ii, eq_tt0, ne_tt0, eq_ds, sl_t, len_t, isi_int, isi_bool, isi_str, isi_tup, abs_i, min_ii, max_ii, int_i, int_b, mod_ii, fdiv_ii, mul_ii, pow_ii, add_ss, add_tt, mul_ti, repr_d, frzU_dat, and_true, true_and, and_assoc, List.cons.injEq, exists_and_left, exists_and_right, exists_eq_left, exists_eq_right, ix_t, ix_s, sl_s, len_s, is_non, Nat.reduceAdd, Nat.reduceSub, sz0, sz1, sz2, sz3, sz4, sz5, sz6, sz7, sz8, sz9, sz10, sz11, sz12, sz13, sz14, sz15, sz16, sz17, sz18, sz19, sz20, sz21, sz22, sz23, sz24, sz25, sz26, sz27, sz28, sz29, sz30]
  by_cases hg : 0 < g
  · rw [decide_eq_true hg]
    simp only
    refine (ix_h e).1.mpr ?_
    simp only [w_fn, w_ret, w_seq, w_sif, w_of, w_trn, w_op, w_snil, w_pass, w_retn, w_asg, w_gnm, w_gsb, w_gtp, w_gcn, w_gn0, w_par, w_aug, w_drop, w_c, w_k, w_lst, w_tup, w_and, w_or, w_not, w_neg, w_ifx, w_tand, w_tor, w_tnot, w_cb, w_ck, w_mt, w_cons, w_nil, w_var, w_chain, w_sl, w_osome, w_onone, Pu.w_rev, w_dct0, w_for, w_iseq, w_irg1, w_lc, w_lc2, List.map_cons, List.map_nil, List.cons_append, List.nil_append, List.getElem?_cons_zero, List.getElem?_cons_succ, List.length_cons, List.length_nil, Option.some.injEq, exists_eq_left', w_some, List.replicate, List.set_cons_zero, List.set_cons_succ, frz_nil, frz_dat, frz_new, frz_new0, ne_ss, list_t, mk_nil, mk1, mk2, mk3, U.dat.injEq, PyData.int.injEq, PyData.bool.injEq, PyData.str.injEq, U.cell.injEq, add_ii, sub_ii, lt_ii, le_ii, gt_ii, ge_ii, eq_ii, ne_ii, eq_tt0, ne_tt0, eq_ds, sl_t, len_t, isi_int, isi_bool, isi_str, isi_tup, abs_i, min_ii, max_ii, int_i, int_b, mod_ii, fdiv_ii, mul_ii, pow_ii, add_ss, add_tt, mul_ti, repr_d, frzU_dat, and_true, true_and, and_assoc, List.cons.injEq, exists_and_left, exists_and_right, exists_eq_left, exists_eq_right, ix_t, ix_s, sl_s, len_s, is_non, Nat.reduceAdd, Nat.reduceSub, sz0, sz1, sz2, sz3, sz4, sz5, sz6, sz7, sz8, sz9, sz10, sz11, sz12, sz13, sz14, sz15, sz16, sz17, sz18, sz19, sz20, sz21, sz22, sz23, sz24, sz25, sz26, sz27, sz28, sz29, sz30]
    refine ⟨hk, (ix_h e).1.mpr ?_⟩
    simp only [w_fn, w_ret, w_seq, w_sif, w_of, w_trn, w_op, w_snil, w_pass, w_retn, w_asg, w_gnm, w_gsb, w_gtp, w_gcn, w_gn0, w_par, w_aug, w_drop, w_c, w_k, w_lst, w_tup, w_and, w_or, w_not, w_neg, w_ifx, w_tand, w_tor, w_tnot, w_cb, w_ck, w_mt, w_cons, w_nil, w_var, w_chain, w_sl, w_osome, w_onone, Pu.w_rev, w_dct0, w_for, w_iseq, w_irg1, w_lc, w_lc2, List.map_cons, List.map_nil, List.cons_append, List.nil_append, List.getElem?_cons_zero, List.getElem?_cons_succ, List.length_cons, List.length_nil, Option.some.injEq, exists_eq_left', w_some, List.replicate, List.set_cons_zero, List.set_cons_succ, frz_nil, frz_dat, frz_new, frz_new0, ne_ss, list_t, mk_nil, mk1, mk2, mk3, U.dat.injEq, PyData.int.injEq, PyData.bool.injEq, PyData.str.injEq, U.cell.injEq, add_ii, sub_ii, lt_ii, le_ii, gt_ii, ge_ii, eq_ii, ne_ii, eq_tt0, ne_tt0, eq_ds, sl_t, len_t, isi_int, isi_bool, isi_str, isi_tup, abs_i, min_ii, max_ii, int_i, int_b, mod_ii, fdiv_ii, mul_ii, pow_ii, add_ss, add_tt, mul_ti, repr_d, frzU_dat, and_true, true_and, and_assoc, List.cons.injEq, exists_and_left, exists_and_right, exists_eq_left, exists_eq_right, ix_t, ix_s, sl_s, len_s, is_non, Nat.reduceAdd, Nat.reduceSub, sz0, sz1, sz2, sz3, sz4, sz5, sz6, sz7, sz8, sz9, sz10, sz11, sz12, sz13, sz14, sz15, sz16, sz17, sz18, sz19, sz20, sz21, sz22, sz23, sz24, sz25, sz26, sz27, sz28, sz29, sz30]
    refine ⟨cdivL hk hk2, true, _, e, 0, rfl, ?_⟩
    exact q _ _ (Int.emod_nonneg _ (by omega)) (Int.emod_lt_of_pos _ hk) ⟨g / k, m, c, get_set e, m0, m1, c0, by omega⟩ Fr.set
  · rw [decide_eq_false hg]
    simp only
    refine (ix_h e).2.2.mpr ?_
    simp only [w_fn, w_ret, w_seq, w_sif, w_of, w_trn, w_op, w_snil, w_pass, w_retn, w_asg, w_gnm, w_gsb, w_gtp, w_gcn, w_gn0, w_par, w_aug, w_drop, w_c, w_k, w_lst, w_tup, w_and, w_or, w_not, w_neg, w_ifx, w_tand, w_tor, w_tnot, w_cb, w_ck, w_mt, w_cons, w_nil, w_var, w_chain, w_sl, w_osome, w_onone, Pu.w_rev, w_dct0, w_for, w_iseq, w_irg1, w_lc, w_lc2, List.map_cons, List.map_nil, List.cons_append, List.nil_append, List.getElem?_cons_zero, List.getElem?_cons_succ, List.length_cons, List.length_nil, Option.some.injEq, exists_eq_left', w_some, List.replicate, List.set_cons_zero, List.set_cons_succ, frz_nil, frz_dat, frz_new, frz_new0, ne_ss, list_t, mk_nil, mk1, mk2, mk3, U.dat.injEq, PyData.int.injEq, PyData.bool.injEq, PyData.str.injEq, U.cell.injEq, add_ii, sub_ii, lt_ii, le_ii, gt_ii, ge_ii, eq_ii, ne_ii, eq_tt0, ne_tt0, eq_ds, sl_t, len_t, isi_int, isi_bool, isi_str, isi_tup, abs_i, min_ii, max_ii, int_i, int_b, mod_ii, fdiv_ii, mul_ii, pow_ii, add_ss, add_tt, mul_ti, repr_d, frzU_dat, and_true, true_and, and_assoc, List.cons.injEq, exists_and_left, exists_and_right, exists_eq_left, exists_eq_right, ix_t, ix_s, sl_s, len_s, is_non, Nat.reduceAdd, Nat.reduceSub, sz0, sz1, sz2, sz3, sz4, sz5, sz6, sz7, sz8, sz9, sz10, sz11, sz12, sz13, sz14, sz15, sz16, sz17, sz18, sz19, sz20, sz21, sz22, sz23, sz24, sz25, sz26, sz27, sz28, sz29, sz30]
    refine ⟨true, _, e, 2, rfl, ?_⟩
    have e1 := get_set (d := .lst true [.dat (.int g), .dat (.int m), .dat (.int (c + 1))]) e
    refine (ix_h (get_app e1)).2.2.mpr ?_
    simp only [w_fn, w_ret, w_seq, w_sif, w_of, w_trn, w_op, w_snil, w_pass, w_retn, w_asg, w_gnm, w_gsb, w_gtp, w_gcn, w_gn0, w_par, w_aug, w_drop, w_c, w_k, w_lst, w_tup, w_and, w_or, w_not, w_neg, w_ifx, w_tand, w_tor, w_tnot, w_cb, w_ck, w_mt, w_cons, w_nil, w_var, w_chain, w_sl, w_osome, w_onone, Pu.w_rev, w_dct0, w_for, w_iseq, w_irg1, w_lc, w_lc2, List.map_cons, List.map_nil, List.cons_append, List.nil_append, List.getElem?_cons_zero, List.getElem?_cons_succ, List.length_cons, List.length_nil, Option.some.injEq, exists_eq_left', w_some, List.replicate, List.set_cons_zero, List.set_cons_succ, frz_nil, frz_dat, frz_new, frz_new0, ne_ss, list_t, mk_nil, mk1, mk2, mk3, U.dat.injEq, PyData.int.injEq, PyData.bool.injEq, PyData.str.injEq, U.cell.injEq, add_ii, sub_ii, lt_ii, le_ii, gt_ii, ge_ii, eq_ii, ne_ii, eq_tt0, ne_tt0, eq_ds, sl_t, len_t, isi_int, isi_bool, isi_str, isi_tup, abs_i, min_ii, max_ii, int_i, int_b, mod_ii, fdiv_ii, mul_ii, pow_ii, add_ss, add_tt, mul_ti, repr_d, frzU_dat, and_true, true_and, and_assoc, List.cons.injEq, exists_and_left, exists_and_right, exists_eq_left, exists_eq_right, ix_t, ix_s, sl_s, len_s, is_non, Nat.reduceAdd, Nat.reduceSub, sz0, sz1, sz2, sz3, sz4, sz5, sz6, sz7, sz8, sz9, sz10, sz11, sz12, sz13, sz14, sz15, sz16, sz17, sz18, sz19, sz20, sz21, sz22, sz23, sz24, sz25, sz26, sz27, sz28, sz29, sz30]
    refine ⟨by decide, (ix_seq' (seq_cell (List.getElem?_concat_length ..))).mpr ?_⟩
    obtain ⟨p, hp, p1, p2⟩ := prime_at (c := c + 1) (by omega)
    have hp' : atI (primes.map fun i => U.dat (.int i)) ((c + 1) % 7) = some (.dat (.int p)) := by rw [atI_map, hp]; rfl
    refine ⟨_, hp', ?_⟩
    refine (ix_h (get_app e1)).2.1.mpr ((ix_h (get_app e1)).2.2.mpr ?_)
    simp only [w_fn, w_ret, w_seq, w_sif, w_of, w_trn, w_op, w_snil, w_pass, w_retn, w_asg, w_gnm, w_gsb, w_gtp, w_gcn, w_gn0, w_par, w_aug, w_drop, w_c, w_k, w_lst, w_tup, w_and, w_or, w_not, w_neg, w_ifx, w_tand, w_tor, w_tnot, w_cb, w_ck, w_mt, w_cons, w_nil, w_var, w_chain, w_sl, w_osome, w_onone, Pu.w_rev, w_dct0, w_for, w_iseq, w_irg1, w_lc, w_lc2, List.map_cons, List.map_nil, List.cons_append, List.nil_append, List.getElem?_cons_zero, List.getElem?_cons_succ, List.length_cons, List.length_nil, Option.some.injEq, exists_eq_left', w_some, List.replicate, List.set_cons_zero, List.set_cons_succ, frz_nil, frz_dat, frz_new, frz_new0, ne_ss, list_t, mk_nil, mk1, mk2, mk3, U.dat.injEq, PyData.int.injEq, PyData.bool.injEq, PyData.str.injEq, U.cell.injEq, add_ii, sub_ii, lt_ii, le_ii, gt_ii, ge_ii, eq_ii, ne_ii, eq_tt0, ne_tt0, eq_ds, sl_t, len_t, isi_int, isi_bool, isi_str, isi_tup, abs_i, min_ii, max_ii, int_i, int_b, mod_ii, fdiv_ii, mul_ii, pow_ii, add_ss, add_tt, mul_ti, repr_d, frzU_dat, and_true, true_and, and_assoc, List.cons.injEq, exists_and_left, exists_and_right, exists_eq_left, exists_eq_right, ix_t, ix_s, sl_s, len_s, is_non, Nat.reduceAdd, Nat.reduceSub, sz0, sz1, sz2, sz3, sz4, sz5, sz6, sz7, sz8, sz9, sz10, sz11, sz12, sz13, sz14, sz15, sz16, sz17, sz18, sz19, sz20, sz21, sz22, sz23, sz24, sz25, sz26, sz27, sz28, sz29, sz30]
    refine ⟨cmul_s (by decide) (by omega), cpow3 (by omega), by omega, ?_⟩
    generalize hX : (m + 7919 * (c + 1)) ^ (3 : Int).toNat % p = X
    have X0 : 0 ≤ X := by rw [← hX]; exact Int.emod_nonneg _ (by omega)
    have X1 : X < p := by rw [← hX]; exact Int.emod_lt_of_pos _ (by omega)
    refine ⟨by decide, (ix_h (get_app e1)).2.2.mpr ?_⟩
    simp only [w_fn, w_ret, w_seq, w_sif, w_of, w_trn, w_op, w_snil, w_pass, w_retn, w_asg, w_gnm, w_gsb, w_gtp, w_gcn, w_gn0, w_par, w_aug, w_drop, w_c, w_k, w_lst, w_tup, w_and, w_or, w_not, w_neg, w_ifx, w_tand, w_tor, w_tnot, w_cb, w_ck, w_mt, w_cons, w_nil, w_var, w_chain, w_sl, w_osome, w_onone, Pu.w_rev, w_dct0, w_for, w_iseq, w_irg1, w_lc, w_lc2, List.map_cons, List.map_nil, List.cons_append, List.nil_append, List.getElem?_cons_zero, List.getElem?_cons_succ, List.length_cons, List.length_nil, Option.some.injEq, exists_eq_left', w_some, List.replicate, List.set_cons_zero, List.set_cons_succ, frz_nil, frz_dat, frz_new, frz_new0, ne_ss, list_t, mk_nil, mk1, mk2, mk3, U.dat.injEq, PyData.int.injEq, PyData.bool.injEq, PyData.str.injEq, U.cell.injEq, add_ii, sub_ii, lt_ii, le_ii, gt_ii, ge_ii, eq_ii, ne_ii, eq_tt0, ne_tt0, eq_ds, sl_t, len_t, isi_int, isi_bool, isi_str, isi_tup, abs_i, min_ii, max_ii, int_i, int_b, mod_ii, fdiv_ii, mul_ii, pow_ii, add_ss, add_tt, mul_ti, repr_d, frzU_dat, and_true, true_and, and_assoc, List.cons.injEq, exists_and_left, exists_and_right, exists_eq_left, exists_eq_right, ix_t, ix_s, sl_s, len_s, is_non, Nat.reduceAdd, Nat.reduceSub, sz0, sz1, sz2, sz3, sz4, sz5, sz6, sz7, sz8, sz9, sz10, sz11, sz12, sz13, sz14, sz15, sz16, sz17, sz18, sz19, sz20, sz21, sz22, sz23, sz24, sz25, sz26, sz27, sz28, sz29, sz30]
    have Y0 : 0 ≤ X % 1009 := Int.emod_nonneg _ (by decide)
    have Y1 : X % 1009 < 1009 := Int.emod_lt_of_pos _ (by decide)
    refine ⟨cmul_s (by omega) (by omega), by omega, cdiv (by decide) (by decide), hk, ?_⟩
    exact q _ _ (Int.emod_nonneg _ (by omega)) (Int.emod_lt_of_pos _ hk) ⟨g, m, c + 1, get_app e1, m0, m1, by omega, by omega⟩ (Fr.set.push)
theorem take_spec {M : Mem} {h n : Nat} {k : Int} {Q : U → Mem → Prop} (hh : Hand M h n) (hn : n + 1 ≤ 800000) (hk : 0 < k) (hk2 : k < 2 ^ 60) (q : ∀ x M', 0 ≤ x → x < k → Hand M' h (n + 1) → Fr h M M' → Q (.dat (.int x)) M') :
    W (m__law_take [.cell h, .dat (.int k)] M) Q := take_wide hh hn hk (Nat.lt_of_lt_of_le (show k.natAbs < 2 ^ 60 by omega) (Nat.pow_le_pow_right (by decide) (by decide))) q
theorem of_c {M : Mem} {h n c : Nat} {f : Bool} {us : List U} {Q : U → Mem → Prop} (hh : Hand M h n) (hn : n + 1 ≤ 800000) (hc : M[c]? = some (.lst f us)) (hch : c ≠ h) (h0 : 0 < us.length) (h1 : us.length < 2 ^ 40)
    (q : ∀ u M', u ∈ us → Hand M' h (n + 1) → Fr h M M' → Q u M') : W (m__law_of [.cell h, .cell c] M) Q := by
  simp only [m__law_of, w_fn, w_ret, w_seq, w_sif, w_of, w_trn, w_op, w_snil, w_pass, w_retn, w_asg, w_gnm, w_gsb, w_gtp, w_gcn, w_gn0, w_par, w_aug, w_drop, w_c, w_k, w_lst, w_tup, w_and, w_or, w_not, w_neg, w_ifx, w_tand, w_tor, w_tnot, w_cb, w_ck, w_mt, w_cons, w_nil, w_var, w_chain, w_sl, w_osome, w_onone, Pu.w_rev, w_dct0, w_for, w_iseq, w_irg1, w_lc, w_lc2, List.map_cons, List.map_nil, List.cons_append, List.nil_append, List.getElem?_cons_zero, List.getElem?_cons_succ, List.length_cons, List.length_nil, Option.some.injEq, exists_eq_left', w_some, List.replicate, List.set_cons_zero, List.set_cons_succ, frz_nil, frz_dat, frz_new, frz_new0, ne_ss, list_t, mk_nil, mk1, mk2, mk3, U.dat.injEq, PyData.int.injEq, PyData.bool.injEq, PyData.str.injEq, U.cell.injEq, add_ii, sub_ii, lt_ii, le_ii, gt_ii, ge_ii, eq_ii, ne_ii, eq_tt0, ne_tt0, eq_ds, sl_t, len_t, isi_int, isi_bool, isi_str, isi_tup, abs_i, min_ii, max_ii, int_i, int_b, mod_ii, fdiv_ii, mul_ii, pow_ii, add_ss, add_tt, mul_ti, repr_d, frzU_dat, and_true, true_and, and_assoc, List.cons.injEq, exists_and_left, exists_and_right, exists_eq_left, exists_eq_right, ix_t, ix_s, sl_s, len_s, is_non, Nat.reduceAdd, Nat.reduceSub, sz0, sz1, sz2, sz3, sz4, sz5, sz6, sz7, sz8, sz9, sz10, sz11, sz12, sz13, sz14, sz15, sz16, sz17, sz18, sz19, sz20, sz21, sz22, sz23, sz24, sz25, sz26, sz27, sz28, sz29, sz30]
  rw [len_q (seq_cell hc), w_some]
  refine take_spec hh hn (by omega) (by omega) fun x M' x0 x1 hh' fr => ?_
  refine (ix_seq' (seq_cell (fr.at hc hch))).mpr ?_
  obtain ⟨k, hk⟩ : ∃ k : Nat, x = k := ⟨x.toNat, by omega⟩
  subst hk
  have hl : k < us.length := by omega
  exact ⟨us[k], atI_nat (List.getElem?_eq_getElem hl), q _ _ (List.getElem_mem hl) hh' fr⟩
theorem of_s {M : Mem} {h n : Nat} {z : Str} {Q : U → Mem → Prop} (hh : Hand M h n) (hn : n + 1 ≤ 800000) (h0 : 0 < z.length) (h1 : z.length ≤ 1000)
    (q : ∀ c M', c ∈ z.cps.toList → Hand M' h (n + 1) → Fr h M M' → Q (.dat (.str ⟨#[c]⟩)) M') : W (m__law_of [.cell h, .dat (.str z)] M) Q := by
  have hs : z.length ≤ sizeLine := Nat.le_trans h1 (by decide)
  simp only [m__law_of, w_fn, w_ret, w_seq, w_sif, w_of, w_trn, w_op, w_snil, w_pass, w_retn, w_asg, w_gnm, w_gsb, w_gtp, w_gcn, w_gn0, w_par, w_aug, w_drop, w_c, w_k, w_lst, w_tup, w_and, w_or, w_not, w_neg, w_ifx, w_tand, w_tor, w_tnot, w_cb, w_ck, w_mt, w_cons, w_nil, w_var, w_chain, w_sl, w_osome, w_onone, Pu.w_rev, w_dct0, w_for, w_iseq, w_irg1, w_lc, w_lc2, List.map_cons, List.map_nil, List.cons_append, List.nil_append, List.getElem?_cons_zero, List.getElem?_cons_succ, List.length_cons, List.length_nil, Option.some.injEq, exists_eq_left', w_some, List.replicate, List.set_cons_zero, List.set_cons_succ, frz_nil, frz_dat, frz_new, frz_new0, ne_ss, list_t, mk_nil, mk1, mk2, mk3, U.dat.injEq, PyData.int.injEq, PyData.bool.injEq, PyData.str.injEq, U.cell.injEq, add_ii, sub_ii, lt_ii, le_ii, gt_ii, ge_ii, eq_ii, ne_ii, eq_tt0, ne_tt0, eq_ds, sl_t, len_t, isi_int, isi_bool, isi_str, isi_tup, abs_i, min_ii, max_ii, int_i, int_b, mod_ii, fdiv_ii, mul_ii, pow_ii, add_ss, add_tt, mul_ti, repr_d, frzU_dat, and_true, true_and, and_assoc, List.cons.injEq, exists_and_left, exists_and_right, exists_eq_left, exists_eq_right, ix_t, ix_s, sl_s, len_s, is_non, Nat.reduceAdd, Nat.reduceSub, sz0, sz1, sz2, sz3, sz4, sz5, sz6, sz7, sz8, sz9, sz10, sz11, sz12, sz13, sz14, sz15, sz16, sz17, sz18, sz19, sz20, sz21, sz22, sz23, sz24, sz25, sz26, sz27, sz28, sz29, sz30]
  refine ⟨hs, take_spec hh hn (by omega) (by omega) fun x M' x0 x1 hh' fr => ?_⟩
  simp only [w_fn, w_ret, w_seq, w_sif, w_of, w_trn, w_op, w_snil, w_pass, w_retn, w_asg, w_gnm, w_gsb, w_gtp, w_gcn, w_gn0, w_par, w_aug, w_drop, w_c, w_k, w_lst, w_tup, w_and, w_or, w_not, w_neg, w_ifx, w_tand, w_tor, w_tnot, w_cb, w_ck, w_mt, w_cons, w_nil, w_var, w_chain, w_sl, w_osome, w_onone, Pu.w_rev, w_dct0, w_for, w_iseq, w_irg1, w_lc, w_lc2, List.map_cons, List.map_nil, List.cons_append, List.nil_append, List.getElem?_cons_zero, List.getElem?_cons_succ, List.length_cons, List.length_nil, Option.some.injEq, exists_eq_left', w_some, List.replicate, List.set_cons_zero, List.set_cons_succ, frz_nil, frz_dat, frz_new, frz_new0, ne_ss, list_t, mk_nil, mk1, mk2, mk3, U.dat.injEq, PyData.int.injEq, PyData.bool.injEq, PyData.str.injEq, U.cell.injEq, add_ii, sub_ii, lt_ii, le_ii, gt_ii, ge_ii, eq_ii, ne_ii, eq_tt0, ne_tt0, eq_ds, sl_t, len_t, isi_int, isi_bool, isi_str, isi_tup, abs_i, min_ii, max_ii, int_i, int_b, mod_ii, fdiv_ii, mul_ii, pow_ii, add_ss, add_tt, mul_ti, repr_d, frzU_dat, and_true, true_and, and_assoc, List.cons.injEq, exists_and_left, exists_and_right, exists_eq_left, exists_eq_right, ix_t, ix_s, sl_s, len_s, is_non, Nat.reduceAdd, Nat.reduceSub, sz0, sz1, sz2, sz3, sz4, sz5, sz6, sz7, sz8, sz9, sz10, sz11, sz12, sz13, sz14, sz15, sz16, sz17, sz18, sz19, sz20, sz21, sz22, sz23, sz24, sz25, sz26, sz27, sz28, sz29, sz30]
  obtain ⟨k, hk⟩ : ∃ k : Nat, x = k := ⟨x.toNat, by omega⟩
  subst hk
  have hl : k < z.cps.toList.length := by rw [← len_cps]; omega
  exact ⟨hs, z.cps.toList[k], atI_nat (List.getElem?_eq_getElem hl), q _ _ (List.getElem_mem hl) hh' fr⟩
theorem abs_nn (i : Int) : 0 ≤ (if i < 0 then -i else i) := by split <;> omega
theorem cpow60 : CPowW 10 60 := ⟨by decide, by decide⟩
theorem cpow18 : CPowW 10 18 := ⟨by decide, by decide⟩
theorem cpow15 : CPowW (10 ^ (60 : Int).toNat) 15 := ⟨by decide, by decide +kernel⟩
theorem hand_spec {ns : List Int} {k : Nat} {M : Mem} {Q : U → Mem → Prop} (hk : k ≤ 100) (q : ∀ G, Hand (M ++ G) M.length 0 → G.length = 1 → Q (.cell M.length) (M ++ G)) : W (m__law_hand [.scr ns, .dat (.int k)] M) Q := by
  have rest : ∀ cell : Int, W (sSeq (sAsg (eOp mulU (eOp modU (eCB absF (aCons (eVar 2) aNil)) (eOp powU (eOp powU (eC (.int 10)) (eC (.int 60))) (eC (.int 15)))) (eCB intF (aCons (eOp geU (eCB absF (aCons (eVar 2) aNil)) (eOp powU (eC (.int 10)) (eC (.int 18)))) aNil))) (gNm 3))
      (sRet (eLst (aCons (eVar 3) (aCons (eOp modU (eOp mulU (eOp addU (eOp addU (eOp modU (eVar 2) (eC (.int 2305843009213693951))) (eOp mulU (eOp mulU (eC (.int 104729)) (eVar 1)) (eVar 1))) (eC (.int 13))) (eC (.int 48271))) (eC (.int 2305843009213693921))) (aCons (eC (.int 0)) aNil))))) [some (.scr ns), some (.dat (.int k)), some (.dat (.int cell)), none] M)
      fun o M1 => match o with
      | .rt u => Q u M1
      | .nx _ => Q (.dat .none) M1
      | _ => False := by
    intro cell
    simp only [w_fn, w_ret, w_seq, w_sif, w_of, w_trn, w_op, w_snil, w_pass, w_retn, w_asg, w_gnm, w_gsb, w_gtp, w_gcn, w_gn0, w_par, w_aug, w_drop, w_c, w_k, w_lst, w_tup, w_and, w_or, w_not, w_neg, w_ifx, w_tand, w_tor, w_tnot, w_cb, w_ck, w_mt, w_cons, w_nil, w_var, w_chain, w_sl, w_osome, w_onone, Pu.w_rev, w_dct0, w_for, w_iseq, w_irg1, w_lc, w_lc2, List.map_cons, List.map_nil, List.cons_append, List.nil_append, List.getElem?_cons_zero, List.getElem?_cons_succ, List.length_cons, List.length_nil, Option.some.injEq, exists_eq_left', w_some, List.replicate, List.set_cons_zero, List.set_cons_succ, frz_nil, frz_dat, frz_new, frz_new0, ne_ss, list_t, mk_nil, mk1, mk2, mk3, U.dat.injEq, PyData.int.injEq, PyData.bool.injEq, PyData.str.injEq, U.cell.injEq, add_ii, sub_ii, lt_ii, le_ii, gt_ii, ge_ii, eq_ii, ne_ii, eq_tt0, ne_tt0, eq_ds, sl_t, len_t, isi_int, isi_bool, isi_str, isi_tup, abs_i, min_ii, max_ii, int_i, int_b, mod_ii, fdiv_ii, mul_ii, pow_ii, add_ss, add_tt, mul_ti, repr_d, frzU_dat, and_true, true_and, and_assoc, List.cons.injEq, exists_and_left, exists_and_right, exists_eq_left, exists_eq_right, ix_t, ix_s, sl_s, len_s, is_non, Nat.reduceAdd, Nat.reduceSub, sz0, sz1, sz2, sz3, sz4, sz5, sz6, sz7, sz8, sz9, sz10, sz11, sz12, sz13, sz14, sz15, sz16, sz17, sz18, sz19, sz20, sz21, sz22, sz23, sz24, sz25, sz26, sz27, sz28, sz29, sz30]
    have hm0 : (0 : Int) < (10 ^ (60 : Int).toNat) ^ (15 : Int).toNat := by decide +kernel
    have ha := abs_nn cell
    generalize (if cell < 0 then -cell else cell) = a at ha
    refine ⟨cpow60, cpow15, hm0, cpow18, ?_⟩
    have g0 := Int.emod_nonneg a (Int.ne_of_gt hm0)
    have g1 := Int.emod_lt_of_pos a hm0
    generalize a % (10 ^ (60 : Int).toNat) ^ (15 : Int).toNat = g at g0 g1
    have gb : g.natAbs < 2 ^ 4000 := by
      have e : (10 ^ (60 : Int).toNat : Int) ^ (15 : Int).toNat < 2 ^ 4000 := by decide +kernel
      have : (g.natAbs : Int) < ((2 ^ 4000 : Nat) : Int) := by
        rw [Int.natAbs_of_nonneg g0]
        exact Int.lt_trans g1 (by rw [Int.natCast_pow]; exact e)
      exact Int.ofNat_lt.mp this
    have c0 := Int.emod_nonneg cell (show (2305843009213693951 : Int) ≠ 0 by decide)
    have c1 := Int.emod_lt_of_pos cell (show (0 : Int) < 2305843009213693951 by decide)
    generalize cell % 2305843009213693951 = cc at c0 c1
    refine ⟨cmul gb (by split <;> decide), by decide, cmul_s (by decide) (by omega), cmul_s (by omega) (by omega), ?_⟩
    have kk0 : (0 : Int) ≤ 104729 * (k : Int) * (k : Int) := Int.mul_nonneg (by omega) (by omega)
    have kk1 : 104729 * (k : Int) * (k : Int) ≤ 104729 * 100 * 100 := Int.mul_le_mul (by omega) (by omega) (by omega) (by omega)
    generalize 104729 * (k : Int) * (k : Int) = kk at kk0 kk1
    refine ⟨cmul_s (by omega) (by decide), by decide, ?_⟩
    exact q [_] ⟨_, _, 0, List.getElem?_concat_length .., Int.emod_nonneg _ (by decide), Int.emod_lt_of_pos _ (by decide), by decide, by decide⟩ rfl
  rw [m__law_hand, w_fn]
  refine ⟨rfl, ?_⟩
  rw [w_seq]
  simp only [w_asg, w_ifx, w_of, w_op, w_cb, w_cons, w_nil, w_var, List.map_cons, List.map_nil, List.cons_append, List.nil_append, List.getElem?_cons_zero, List.getElem?_cons_succ, Option.some.injEq, exists_eq_left', List.replicate, w_c, w_some, w_gnm, List.set_cons_zero, List.set_cons_succ, Nat.reduceSub]
  have hs : seqOf M (.scr ns) = some (ns.map fun i => .dat (.int i)) := rfl
  rw [len_q hs, w_some]
  simp only [lt_ii, w_some, U.dat.injEq, PyData.bool.injEq, exists_eq_left', List.length_map]
  by_cases hl : (k : Int) < (ns.length : Int)
  · rw [decide_eq_true hl]
    simp only
    refine (ix_seq' hs).mpr ⟨.dat (.int (ns[k]'(by omega))), atI_nat ?_, rest _⟩
    rw [List.getElem?_map, List.getElem?_eq_getElem (by omega)]
    rfl
  · rw [decide_eq_false hl]
    simp only [mul_ii, add_ii, w_some]
    exact ⟨cmul_s (by decide) (by omega), rest _⟩
end Z

namespace Z
open PySem PySem.Spec PyProof.Rows L2 Lw Pu
/-! ### things that are not too large -/
mutual
def asc : PyData → Bool
  | .str z => z.cps.toList.all fun c => decide (c < 128)
  | .list ds => ascAll ds
  | .tuple ds => ascAll ds
  | .dict kvs => kvs.isEmpty
  | _ => true
def ascAll : List PyData → Bool
  | [] => true
  | d :: ds => asc d && ascAll ds
end
theorem ascAll_iff : ∀ {ds : List PyData}, ascAll ds = true ↔ ∀ d ∈ ds, asc d = true
  | [] => ⟨fun _ d h => (by cases h), fun _ => (by simp only [ascAll])⟩
  | d :: ds => by
    simp only [ascAll, Bool.and_eq_true, List.mem_cons, ascAll_iff (ds := ds)]
    constructor
    · rintro ⟨a, b⟩ x (rfl | h)
      · exact a
      · exact b x h
    · exact fun h => ⟨h d (.inl rfl), fun x hx => h x (.inr hx)⟩
structure Gd (n m B : Nat) (d : PyData) : Prop where
  bd : Bd n m d
  ib : inB B d = true
  as : asc d = true
structure GA (n t B : Nat) (ds : List PyData) : Prop where
  ba : BA n t ds
  ib : ∀ d ∈ ds, inB B d = true
  as : ∀ d ∈ ds, asc d = true
theorem Gd.mono {n m B n' m' B' : Nat} {d : PyData} (h : Gd n m B d) (h1 : n ≤ n') (h2 : m ≤ m') (h3 : B ≤ B') : Gd n' m' B' d := ⟨h.bd.mono h1 h2, inB_mono h3 d h.ib, h.as⟩
theorem GA.mono {n m B n' m' B' : Nat} {d : List PyData} (h : GA n m B d) (h1 : n ≤ n') (h2 : m ≤ m') (h3 : B ≤ B') : GA n' m' B' d := ⟨h.ba.mono h1 h2, fun d hd => inB_mono h3 d (h.ib d hd), h.as⟩
theorem GA.nil {n t B : Nat} : GA n t B [] := ⟨BA.nil, fun d h => (by cases h), fun d h => (by cases h)⟩
theorem GA.append {n t u B : Nat} {ds es : List PyData} (h : GA n t B ds) (g : GA n u B es) : GA n (t + u) B (ds ++ es) :=
  ⟨h.ba.append g.ba, fun d hd => (List.mem_append.mp hd).elim (h.ib d) (g.ib d), fun d hd => (List.mem_append.mp hd).elim (h.as d) (g.as d)⟩
theorem GA.one {n m B : Nat} {d : PyData} (h : Gd n m B d) : GA n (m + 1) B [d] := ⟨BA.one h.bd, fun x hx => (by rw [List.mem_singleton.mp hx]; exact h.ib), fun x hx => (by rw [List.mem_singleton.mp hx]; exact h.as)⟩
theorem GA.cons {n m t B : Nat} {d : PyData} {ds : List PyData} (h : Gd n m B d) (g : GA n t B ds) : GA n (m + 1 + t) B (d :: ds) := (GA.one h).append g
theorem GA.cut {n t B : Nat} {ds : List PyData} (h : GA n t B ds) (lo hi : Option Int) : GA n t B (Lw.cutD ds lo hi) := ⟨h.ba.cut lo hi, fun d hd => h.ib d (cutD_mem hd), fun d hd => h.as d (cutD_mem hd)⟩
theorem GA.rev {n t B : Nat} {ds : List PyData} (h : GA n t B ds) : GA n t B ds.reverse := ⟨h.ba.rev, fun d hd => h.ib d (List.mem_reverse.mp hd), fun d hd => h.as d (List.mem_reverse.mp hd)⟩
theorem GA.tuple {n t B : Nat} {ds : List PyData} (h : GA n t B ds) : Gd (n + 1) t B (.tuple ds) := ⟨h.ba.tuple, inB_tup.mpr h.ib, by simp only [asc]; exact ascAll_iff.mpr h.as⟩
theorem GA.list {n t B : Nat} {ds : List PyData} (h : GA n t B ds) : Gd (n + 1) t B (.list ds) := ⟨h.ba.list, inB_lst.mpr h.ib, by simp only [asc]; exact ascAll_iff.mpr h.as⟩
theorem Gd.ofTup {n m B : Nat} {ds : List PyData} (h : Gd n m B (.tuple ds)) : GA n m B ds ∧ ∀ x ∈ ds, Gd (n - 1) m B x := by
  have hb := h.bd.ofTup
  have hi := inB_tup.mp h.ib
  have ha := h.as
  simp only [asc] at ha
  have ha := ascAll_iff.mp ha
  exact ⟨⟨hb.1, hi, ha⟩, fun x hx => ⟨hb.2 x hx, hi x hx, ha x hx⟩⟩
theorem gd_int {n B : Nat} {i : Int} (h : i.natAbs < B) (hB : B ≤ 10 ^ 61) : Gd n 210 B (.int i) := ⟨Bd.int (Nat.lt_of_lt_of_le h (Nat.le_trans hB (by decide +kernel))), by simp only [inB, decide_eq_true_eq]; exact h, rfl⟩
theorem gd_str {n B m : Nat} {z : Str} (h : ∀ c ∈ z.cps.toList, c < 128) (hm : z.length ≤ m) : Gd n m B (.str z) :=
  ⟨bd_chars (fun c hc => Nat.lt_of_lt_of_le (h c hc) (by decide)) hm, by simp only [inB], by simp only [asc, List.all_eq_true, decide_eq_true_eq]; exact h⟩
theorem gd_flat {n m B : Nat} {d : PyData} (h : d = .none ∨ (∃ b, d = .bool b) ∨ d = .tuple [] ∨ d = .list [] ∨ d = .dict []) (hn : 1 ≤ n) (hm : 1 ≤ m) : Gd n m B d := by
  refine ⟨Bd.flat0 ?_ hn hm, ?_, ?_⟩
  · rcases h with rfl | ⟨b, rfl⟩ | rfl | rfl | rfl
    · exact .inl rfl
    · exact .inr (.inl ⟨b, rfl⟩)
    · exact .inr (.inr (.inr (.inr (.inl rfl))))
    · exact .inr (.inr (.inr (.inr (.inr (.inl rfl)))))
    · exact .inr (.inr (.inr (.inr (.inr (.inr rfl)))))
  · rcases h with rfl | ⟨b, rfl⟩ | rfl | rfl | rfl <;> simp [inB, inBAll, inBKv]
  · rcases h with rfl | ⟨b, rfl⟩ | rfl | rfl | rfl <;> simp [asc, ascAll]
theorem asc_of {z : Str} (h : asc (.str z) = true) : ∀ c ∈ z.cps.toList, c < 128 := by
  simp only [asc, List.all_eq_true, decide_eq_true_eq] at h
  exact h
theorem str_len {n m : Nat} {z : Str} (h : Bd n m (.str z)) : z.length ≤ m := h.chars.2
theorem asc_app {x y : Str} (hx : ∀ c ∈ x.cps.toList, c < 128) (hy : ∀ c ∈ y.cps.toList, c < 128) : ∀ c ∈ (x ++ y).cps.toList, c < 128 := by
  intro c hc
  rw [app_cps] at hc
  exact (List.mem_append.mp hc).elim (hx c) (hy c)
theorem upper128 : ∀ c : Fin 128, ∀ x ∈ Unicode.upperOf c.val, x < 128 := by decide +kernel
theorem asc_upper {z : Str} (h : ∀ c ∈ z.cps.toList, c < 128) : ∀ c ∈ (Txt.upper z).cps.toList, c < 128 := by
  intro c hc
  have hc' : c ∈ (z.cps.mapIdx fun i c => (Unicode.upperOf c).toArray).flatten := Array.mem_toList_iff.mp hc
  obtain ⟨a, ha, hca⟩ := Array.mem_flatten.mp hc'
  obtain ⟨i, hi, rfl⟩ := Array.mem_mapIdx.mp ha
  have hx := h z.cps[i] (by rw [Array.mem_toList_iff]; exact Array.getElem_mem hi)
  exact upper128 ⟨_, hx⟩ c (by simpa using hca)
theorem len_cutS (z : Str) (lo hi : Option Int) : (cutS z lo hi).length ≤ z.length := by
  rw [cut_len]
  omega
theorem asc_cut {z : Str} (h : ∀ c ∈ z.cps.toList, c < 128) (lo hi : Option Int) : ∀ c ∈ (cutS z lo hi).cps.toList, c < 128 := by
  intro c hc
  refine h c ?_
  have : (cutS z lo hi).cps.toList = (z.cps.toList.drop (HT.sIx z.length 0 lo)).take (HT.sIx z.length z.length hi - HT.sIx z.length 0 lo) := by
    unfold cutS
    simp
  rw [this] at hc
  exact List.mem_of_mem_drop (List.mem_of_mem_take hc)
end Z

namespace Z
open PySem PySem.Spec PyProof.Rows L2 Lw Pu
/-- all of a row are things that are not too large -/
def Gs (n m B : Nat) (us : List U) : Prop := ∀ u ∈ us, ∃ d, u = .dat d ∧ Gd n m B d
theorem Gs.nil {n m B : Nat} : Gs n m B [] := fun u h => by cases h
theorem Gs.cons {n m B : Nat} {d : PyData} {us : List U} (h : Gd n m B d) (g : Gs n m B us) : Gs n m B (.dat d :: us) := fun u hu => by
  rcases List.mem_cons.mp hu with rfl | hu
  · exact ⟨d, rfl, h⟩
  · exact g u hu
theorem Gs.app {n m B : Nat} {us ws : List U} (h : Gs n m B us) (g : Gs n m B ws) : Gs n m B (us ++ ws) := fun u hu => (List.mem_append.mp hu).elim (h u) (g u)
theorem Gs.mono {n m B n' m' B' : Nat} {us : List U} (h : Gs n m B us) (h1 : n ≤ n') (h2 : m ≤ m') (h3 : B ≤ B') : Gs n' m' B' us := fun u hu => let ⟨d, e, g⟩ := h u hu; ⟨d, e, g.mono h1 h2 h3⟩
theorem Hand.same {M M' : Mem} {h n : Nat} (hh : Hand M h n) (s : Same0 M M') : Hand M' h n := by
  obtain ⟨g, m, c, e, r⟩ := hh
  exact ⟨g, m, c, s.get e, r⟩
theorem Hand.lt {M : Mem} {h n : Nat} (hh : Hand M h n) : h < M.length := by
  obtain ⟨g, m, c, e, r⟩ := hh
  exact (List.getElem?_eq_some_iff.mp e).1
theorem Hand.set {M : Mem} {h n k : Nat} {c : Cell} (hh : Hand M h n) (hk : k ≠ h) : Hand (M.set k c) h n := by
  obtain ⟨g, m, x, e, r⟩ := hh
  exact ⟨g, m, x, by rw [List.getElem?_set_ne hk]; exact e, r⟩
theorem Hand.mono {M : Mem} {h n k : Nat} (hh : Hand M h n) (hk : n ≤ k) : Hand M h k := by
  obtain ⟨g, m, c, e, a, b, c0, c1⟩ := hh
  exact ⟨g, m, c, e, a, b, c0, by omega⟩
theorem lit_ok (s : String) (h : (s.toList.all fun c => decide (c.toNat < 128)) = true) : ∀ c ∈ (Str.ofString s).cps.toList, c < 128 := by
  intro c hc
  rw [PyProof.Rows.signs_ofString s] at hc
  obtain ⟨x, hx, rfl⟩ := List.mem_map.mp hc
  exact of_decide_eq_true (List.all_eq_true.mp h x hx)
theorem gd_lit {n m B : Nat} (s : String) (h : (s.toList.all fun c => decide (c.toNat < 128)) = true) (hm : (Str.ofString s).length ≤ m) : Gd n m B (.str (Str.ofString s)) := gd_str (lit_ok s h) hm
theorem nat_digits (n : Nat) (y : Char) (hy : y ∈ (toString n).toList) : y.toNat < 128 := by
  have e : (toString n).toList = Nat.toDigits 10 n := by
    show (Nat.repr n).toList = _
    simp [Nat.repr]
  rw [e] at hy
  have := Nat.isDigit_of_mem_toDigits (by decide) (by decide) hy
  have h2 : y.toNat ≤ 57 := by
    simp only [Char.isDigit, Bool.and_eq_true, decide_eq_true_eq] at this
    exact this.2
  omega
theorem int_digits (i : Int) (x : Char) (hx : x ∈ (toString i).toList) : x.toNat < 128 := by
  cases i with
  | ofNat n => exact nat_digits n x hx
  | negSucc n =>
    have e : (toString (Int.negSucc n)) = "-" ++ toString (n + 1) := rfl
    rw [e, String.toList_append] at hx
    rcases List.mem_append.mp hx with h | h
    · have : x = '-' := by simpa using h
      subst this
      decide
    · exact nat_digits (n + 1) x h
theorem bd_strN {i : Int} (h : i.natAbs < 10 ^ 61) : (strN (.int i)).length ≤ 64 ∧ ∀ c ∈ (strN (.int i)).cps.toList, c < 128 := by
  refine ⟨?_, ?_⟩
  · exact int_short (Nat.lt_of_lt_of_le h (by decide +kernel))
  · show ∀ c ∈ (Str.ofString (toString i)).cps.toList, c < 128
    intro c hc
    rw [PyProof.Rows.signs_ofString] at hc
    obtain ⟨x, hx, rfl⟩ := List.mem_map.mp hc
    exact int_digits i x hx
theorem log2_1920 {i : Int} (h : i.natAbs < 10 ^ 61) : i.natAbs.log2 < 1920 := by
  have := PySem.Flt.log2_lt_of (k := 206) (by decide) (Nat.lt_of_lt_of_le h (by decide +kernel))
  omega
theorem w_strf {d : PyData} {M : Mem} {Q : U → Mem → Prop} {i : Int} (hn : numD d = some i) : W (strF [.dat d] M) Q ↔ i.natAbs.log2 < 1920 ∧ Q (.dat (.str (strD d))) M := by
  have e : strF [.dat d] M = if i.natAbs.log2 < 1920 then some (.dat (.str (strD d)), M) else none := by
    unfold strF
    simp only [hn]
  rw [e, w_if, w_some]
theorem w_upper {z : Str} {M : Mem} {Q : U → Mem → Prop} : W (upperF (.dat (.str z)) [] M) Q ↔ z.length ≤ 5592405 ∧ Q (.dat (.str (Txt.upper z))) M := by
  have e : upperF (.dat (.str z)) [] M = if z.length ≤ 5592405 then some (.dat (.str (Txt.upper z)), M) else none := rfl
  rw [e, w_if, w_some]
theorem gl {M G : Mem} {c : Cell} {n : Nat} (h : n = M.length) : (M ++ c :: G)[n]? = some c := by
  subst h
  rw [List.getElem?_append_right (Nat.le_refl _)]
  simp
theorem _root_.Pu.Same0.app {M M1 G : Mem} (h : Same0 M M1) : Same0 M (M1 ++ G) := h.trans ⟨G, rfl⟩
end Z

namespace Z
open PySem PySem.Spec PyProof.Rows L2 Lw Pu
theorem Gd.inner {n m B : Nat} {ds : List PyData} (h : Gd n m B (.tuple ds)) : 1 ≤ n ∧ GA (n - 1) m B ds := by
  have h3 := h.bd.dp
  simp only [PyData.depth] at h3
  have g := h.ofTup.1
  exact ⟨by omega, ⟨⟨g.ba.lf, g.ba.sh, by omega, g.ba.wt⟩, g.ib, g.as⟩⟩
theorem GA.split {n t B : Nat} {ds es : List PyData} (h : GA n t B (ds ++ es)) : ∃ t1 t2, t1 + t2 ≤ t ∧ GA n t1 B ds ∧ GA n t2 B es := by
  have p := h.ba.parts
  have hw := h.ba.wt
  rw [wa_append] at hw
  exact ⟨_, _, hw, ⟨⟨p.1.lf, p.1.sh, p.1.dp, Nat.le_refl _⟩, fun d hd => h.ib d (List.mem_append_left _ hd), fun d hd => h.as d (List.mem_append_left _ hd)⟩, ⟨⟨p.2.lf, p.2.sh, p.2.dp, Nat.le_refl _⟩, fun d hd => h.ib d (List.mem_append_right _ hd), fun d hd => h.as d (List.mem_append_right _ hd)⟩⟩
theorem GA.head {n t B : Nat} {d : PyData} {ds : List PyData} (h : GA n t B (d :: ds)) : ∃ m t2, m + 1 + t2 ≤ t ∧ Gd n m B d ∧ GA n t2 B ds := by
  have hw := h.ba.wt
  have h1 := h.ba.lf
  have h2 := h.ba.sh
  have h3 := h.ba.dp
  simp only [PyData.weightAll] at hw
  simp only [PyData.leavesShortAll, Bool.and_eq_true] at h1
  simp only [PyData.showableAll, Bool.and_eq_true] at h2
  simp only [PyData.depthAll] at h3
  exact ⟨d.weight, PyData.weightAll ds, by omega, ⟨⟨h1.1, h2.1, by omega, Nat.le_refl _⟩, h.ib d List.mem_cons_self, h.as d List.mem_cons_self⟩, ⟨⟨h1.2, h2.2, by omega, Nat.le_refl _⟩, fun x hx => h.ib x (List.mem_cons_of_mem _ hx), fun x hx => h.as x (List.mem_cons_of_mem _ hx)⟩⟩
theorem cut_take {ds : List PyData} {k : Nat} : Lw.cutD ds none (some (k : Int)) = ds.take k := by
  unfold Lw.cutD
  rw [HT.sIx_none, HT.sIx_nat, List.drop_zero, Nat.sub_zero]
  by_cases h : k ≤ ds.length
  · rw [Nat.min_eq_left h]
  · rw [Nat.min_eq_right (by omega), List.take_of_length_le (Nat.le_refl _), List.take_of_length_le (by omega)]
theorem cut_drop {ds : List PyData} {k : Nat} : Lw.cutD ds (some (k : Int)) none = ds.drop k := by
  unfold Lw.cutD
  rw [HT.sIx_none, HT.sIx_nat]
  by_cases h : k ≤ ds.length
  · rw [Nat.min_eq_left h, List.take_of_length_le]
    rw [List.length_drop]
    exact Nat.le_refl _
  · rw [Nat.min_eq_right (by omega), Nat.sub_self, List.take_zero, List.drop_eq_nil_of_le (by omega)]
theorem GA.at {n t B k : Nat} {ds : List PyData} (h : GA n t B ds) (hk : k < ds.length) : ∃ d a m b, ds[k]? = some d ∧ a + (m + 1) + b ≤ t ∧ GA n a B (ds.take k) ∧ Gd n m B d ∧ GA n b B (ds.drop (k + 1)) := by
  have e : ds.take k ++ ds[k] :: ds.drop (k + 1) = ds := by
    rw [← List.drop_eq_getElem_cons hk, List.take_append_drop]
  have h' := h
  rw [← e] at h'
  obtain ⟨t1, t2, ht, g1, g2⟩ := h'.split
  obtain ⟨m, t3, ht3, g3, g4⟩ := g2.head
  exact ⟨ds[k], t1, m, t3, List.getElem?_eq_getElem hk, by omega, g1, g3, g4⟩
end Z

namespace Z
open PySem PySem.Spec PyProof.Rows L2 Lw Pu
def LET : Str := Str.ofString "abcdefghijklmnopqrstuvwxyz"
theorem abc_list : LET.cps.toList = (List.range 26).map (97 + ·) := by decide +kernel
theorem abc_lt : Lt LET := by
  intro c hc
  rw [abc_list] at hc
  obtain ⟨x, hx, rfl⟩ := List.mem_map.mp hc
  have := List.mem_range.mp hx
  omega
theorem abc_len : LET.length = 26 := by decide +kernel
theorem abc_at (i : Int) : ∃ c : Nat, atI LET.cps.toList (i % 26) = some c ∧ (97 ≤ c ∧ c ≤ 122) := by
  have h0 : 0 ≤ i % 26 := Int.emod_nonneg _ (by decide)
  have h1 : i % 26 < 26 := Int.emod_lt_of_pos _ (by decide)
  have e : i % 26 = (((i % 26).toNat : Nat) : Int) := by omega
  refine ⟨97 + (i % 26).toNat, ?_, ?_⟩
  · rw [abc_list]
    rw [e]
    refine atI_nat ?_
    rw [List.getElem?_map, List.getElem?_range (by omega)]
    rfl
  · omega
def five : List V := [.str "none", .str "cell", .str "came", .str "kth", .str "least"]
def Nm (w : Str) : Prop := Lt w ∧ w.length ≤ 8
theorem name_ok {word : Str} (wt : Lt word) (wl : word.length ≤ 7) (w1 : 1 ≤ word.length) : Nm (word ++ (if inV (V.str word) five = true then (Str.ofString "x") else Str.empty)) := by
  have e1 : (Str.ofString "x").length = 1 := rfl
  have e0 : Str.empty.length = 0 := rfl
  cases inV (V.str word) five with
  | true => exact ⟨lt_app wt (by intro c hc; have h : ∀ c ∈ (Str.ofString "x").cps.toList, 97 ≤ c ∧ c ≤ 122 := by decide +kernel
                                 exact h c hc), by rw [strLen_append]; show _ + (Str.ofString "x").length ≤ 8; omega⟩
  | false => exact ⟨lt_app wt lt_empty, by rw [strLen_append]; show _ + Str.empty.length ≤ 8; omega⟩
theorem in5 {z : Str} {M : Mem} : inU false (.dat (.str z)) (.dat (.tuple [.str (Str.ofString "none"), .str (Str.ofString "cell"), .str (Str.ofString "came"), .str (Str.ofString "kth"), .str (Str.ofString "least")])) M = some (.dat (.bool (inV (V.str z) five)), M) := by
  have h1 : inK false (.dat (.str z)) (.dat (.tuple [.str (Str.ofString "none"), .str (Str.ofString "cell"), .str (Str.ofString "came"), .str (Str.ofString "kth"), .str (Str.ofString "least")])) M = none := rfl
  have h2 : inFl false (.dat (.str z)) (.dat (.tuple [.str (Str.ofString "none"), .str (Str.ofString "cell"), .str (Str.ofString "came"), .str (Str.ofString "kth"), .str (Str.ofString "least")])) M = some (.dat (.bool (inV (V.str z) five)), M) := rfl
  unfold inU orF
  simp only [h1, h2]
theorem mk5 {a b c d e : PyData} : mkTup [.dat a, .dat b, .dat c, .dat d, .dat e] = .dat (.tuple [a, b, c, d, e]) := rfl
theorem mul_sb {b : Bool} {x : Str} {M : Mem} : mulU (.dat (.str x)) (.dat (.int (if b = true then 1 else 0))) M = some (.dat (.str (if b = true then x else Str.empty)), M) := by
  cases b <;> rfl
theorem strsOf_map : ∀ zs : List Str, strsOf (zs.map fun z => U.dat (.str z)) = some zs
  | [] => rfl
  | z :: zs => by
    show (strsOf (zs.map fun z => U.dat (.str z))).map (z :: ·) = _
    rw [strsOf_map zs]
    rfl
theorem join_c {c : Nat} {f : Bool} {zs : List Str} {M : Mem} {Q : U → Mem → Prop} (h : M[c]? = some (.lst f (zs.map fun z => .dat (.str z)))) (hz : (zs.map (·.length)).sum ≤ 1000) : W (joinF (.dat (.str (Str.ofString ""))) [.cell c] M) Q ↔ Q (.dat (.str (Str.join Str.empty zs))) M := by
  have e : joinF (.dat (.str (Str.ofString ""))) [.cell c] M = some (.dat (.str (Str.join Str.empty zs)), M) := by
    unfold joinF
    simp only [seq_cell h, Option.bind, strsOf_map]
    rw [if_pos ?_]
    · show some (U.dat (.str (Builtin.Str.glued (Str.ofString "") zs)), M) = _
      rw [StrLaws.glued_eq_join]
      rfl
    · rw [show (Str.ofString "").length = 0 from rfl, Nat.mul_zero]
      exact Nat.le_trans hz (by decide)
  rw [e, w_some]
def namesU (ws : List Str) : List U := ws.map fun z => U.dat (.str z)
def NmI (M : Mem) (h n c : Nat) (a2 a3 a4 a5 a7 a8 : U) (many : Int) (k : Nat) (ρ : Pu.Env) (M' : Mem) : Prop := ∃ (ws : List Str) (y6 y10 y11 : Option U), ρ = [some (.cell h), some (.dat (.int many)), some a2, some a3, some a4, some a5, y6, some a7, some a8, some (.cell c), y10, y11] ∧ M'[c]? = some (.lst true (namesU ws)) ∧ ws.length = k ∧ (∀ w ∈ ws, Nm w) ∧ Hand M' h n ∧ Fr h M M'
theorem names_spec {M : Mem} {h n k : Nat} {Q : U → Mem → Prop} (hh : Hand M h n) (hn : n + 12 ≤ 800000) (hk : k ≤ 100) (q : ∀ c ws M', M'[c]? = some (.lst true (namesU ws)) → ws.length = k → (∀ w ∈ ws, Nm w) → Hand M' h (n + 12) → Fr h M M' → Q (.cell c) M') : W (m__law_names [.cell h, .dat (.int k)] M) Q := by
  have hlt := hh.lt
  simp only [m__law_names, w_fn, w_ret, w_seq, w_sif, w_of, w_trn, w_op, w_snil, w_pass, w_retn, w_asg, w_gnm, w_gsb, w_gtp, w_gcn, w_gn0, w_par, w_aug, w_drop, w_c, w_k, w_lst, w_tup, w_and, w_or, w_not, w_neg, w_ifx, w_tand, w_tor, w_tnot, w_cb, w_ck, w_mt, w_cons, w_nil, w_var, w_chain, w_sl, w_osome, w_onone, Pu.w_rev, w_dct0, w_for, w_iseq, w_irg1, w_lc, w_lc2, List.map_cons, List.map_nil, List.cons_append, List.nil_append, List.getElem?_cons_zero, List.getElem?_cons_succ, List.length_cons, List.length_nil, Option.some.injEq, exists_eq_left', w_some, List.replicate, List.set_cons_zero, List.set_cons_succ, frz_nil, frz_dat, frz_new, frz_new0, ne_ss, list_t, mk_nil, mk1, mk2, mk3, U.dat.injEq, PyData.int.injEq, PyData.bool.injEq, PyData.str.injEq, U.cell.injEq, add_ii, sub_ii, lt_ii, le_ii, gt_ii, ge_ii, eq_ii, ne_ii, eq_tt0, ne_tt0, eq_ds, sl_t, len_t, isi_int, isi_bool, isi_str, isi_tup, abs_i, min_ii, max_ii, int_i, int_b, mod_ii, fdiv_ii, mul_ii, pow_ii, add_ss, add_tt, mul_ti, repr_d, frzU_dat, and_true, true_and, and_assoc, List.cons.injEq, exists_and_left, exists_and_right, exists_eq_left, exists_eq_right, ix_t, ix_s, sl_s, len_s, is_non, Nat.reduceAdd, Nat.reduceSub, sz0, sz1, sz2, sz3, sz4, sz5, sz6, sz7, sz8, sz9, sz10, sz11, sz12, sz13, sz14, sz15, sz16, sz17, sz18, sz19, sz20, sz21, sz22, sz23, sz24, sz25, sz26, sz27, sz28, sz29, sz30]
  refine take_spec hh (by omega) (by decide) (by decide) fun x1 M1 x10 x11 hh1 fr1 => ?_
  have l1 := fr1.len
  try simp only [w_fn, w_ret, w_seq, w_sif, w_of, w_trn, w_op, w_snil, w_pass, w_retn, w_asg, w_gnm, w_gsb, w_gtp, w_gcn, w_gn0, w_par, w_aug, w_drop, w_c, w_k, w_lst, w_tup, w_and, w_or, w_not, w_neg, w_ifx, w_tand, w_tor, w_tnot, w_cb, w_ck, w_mt, w_cons, w_nil, w_var, w_chain, w_sl, w_osome, w_onone, Pu.w_rev, w_dct0, w_for, w_iseq, w_irg1, w_lc, w_lc2, List.map_cons, List.map_nil, List.cons_append, List.nil_append, List.getElem?_cons_zero, List.getElem?_cons_succ, List.length_cons, List.length_nil, Option.some.injEq, exists_eq_left', w_some, List.replicate, List.set_cons_zero, List.set_cons_succ, frz_nil, frz_dat, frz_new, frz_new0, ne_ss, list_t, mk_nil, mk1, mk2, mk3, U.dat.injEq, PyData.int.injEq, PyData.bool.injEq, PyData.str.injEq, U.cell.injEq, add_ii, sub_ii, lt_ii, le_ii, gt_ii, ge_ii, eq_ii, ne_ii, eq_tt0, ne_tt0, eq_ds, sl_t, len_t, isi_int, isi_bool, isi_str, isi_tup, abs_i, min_ii, max_ii, int_i, int_b, mod_ii, fdiv_ii, mul_ii, pow_ii, add_ss, add_tt, mul_ti, repr_d, frzU_dat, and_true, true_and, and_assoc, List.cons.injEq, exists_and_left, exists_and_right, exists_eq_left, exists_eq_right, ix_t, ix_s, sl_s, len_s, is_non, Nat.reduceAdd, Nat.reduceSub, sz0, sz1, sz2, sz3, sz4, sz5, sz6, sz7, sz8, sz9, sz10, sz11, sz12, sz13, sz14, sz15, sz16, sz17, sz18, sz19, sz20, sz21, sz22, sz23, sz24, sz25, sz26, sz27, sz28, sz29, sz30]
  refine of_c (hh1.same ⟨_, rfl⟩) (by omega) (List.getElem?_concat_length ..) (by omega) (by simp) (by simp) fun u2 M2 hu2 hh2 fr2 => ?_
  obtain ⟨st, rfl, st0, st1⟩ : ∃ st : Int, u2 = .dat (.int st) ∧ 0 ≤ st ∧ st ≤ 11 := by
    simp only [List.mem_cons, List.not_mem_nil, or_false] at hu2
    rcases hu2 with e | e | e | e | e | e
    all_goals exact ⟨_, e, by decide, by decide⟩
  have l2 := fr2.len
  simp only [List.length_append, List.length_cons, List.length_nil] at l2
  try simp only [w_fn, w_ret, w_seq, w_sif, w_of, w_trn, w_op, w_snil, w_pass, w_retn, w_asg, w_gnm, w_gsb, w_gtp, w_gcn, w_gn0, w_par, w_aug, w_drop, w_c, w_k, w_lst, w_tup, w_and, w_or, w_not, w_neg, w_ifx, w_tand, w_tor, w_tnot, w_cb, w_ck, w_mt, w_cons, w_nil, w_var, w_chain, w_sl, w_osome, w_onone, Pu.w_rev, w_dct0, w_for, w_iseq, w_irg1, w_lc, w_lc2, List.map_cons, List.map_nil, List.cons_append, List.nil_append, List.getElem?_cons_zero, List.getElem?_cons_succ, List.length_cons, List.length_nil, Option.some.injEq, exists_eq_left', w_some, List.replicate, List.set_cons_zero, List.set_cons_succ, frz_nil, frz_dat, frz_new, frz_new0, ne_ss, list_t, mk_nil, mk1, mk2, mk3, U.dat.injEq, PyData.int.injEq, PyData.bool.injEq, PyData.str.injEq, U.cell.injEq, add_ii, sub_ii, lt_ii, le_ii, gt_ii, ge_ii, eq_ii, ne_ii, eq_tt0, ne_tt0, eq_ds, sl_t, len_t, isi_int, isi_bool, isi_str, isi_tup, abs_i, min_ii, max_ii, int_i, int_b, mod_ii, fdiv_ii, mul_ii, pow_ii, add_ss, add_tt, mul_ti, repr_d, frzU_dat, and_true, true_and, and_assoc, List.cons.injEq, exists_and_left, exists_and_right, exists_eq_left, exists_eq_right, ix_t, ix_s, sl_s, len_s, is_non, Nat.reduceAdd, Nat.reduceSub, sz0, sz1, sz2, sz3, sz4, sz5, sz6, sz7, sz8, sz9, sz10, sz11, sz12, sz13, sz14, sz15, sz16, sz17, sz18, sz19, sz20, sz21, sz22, sz23, sz24, sz25, sz26, sz27, sz28, sz29, sz30]
  refine of_c (hh2.same ⟨_, rfl⟩) (by omega) (List.getElem?_concat_length ..) (by omega) (by simp) (by simp) fun u3 M3 hu3 hh3 fr3 => ?_
  obtain ⟨more, rfl, mo1⟩ : ∃ mo : Nat, u3 = .dat (.int mo) ∧ mo ≤ 6 := by
    simp only [List.mem_cons, List.not_mem_nil, or_false] at hu3
    rcases hu3 with e | e | e | e | e | e
    · exact ⟨0, e, by decide⟩
    · exact ⟨0, e, by decide⟩
    · exact ⟨1, e, by decide⟩
    · exact ⟨2, e, by decide⟩
    · exact ⟨3, e, by decide⟩
    · exact ⟨6, e, by decide⟩
  have l3 := fr3.len
  simp only [List.length_append, List.length_cons, List.length_nil] at l3
  have fr03 : Fr h M M3 := ((fr1.trans (Fr.of0 ⟨_, rfl⟩)).trans fr2).trans ((Fr.of0 ⟨_, rfl⟩).trans fr3)
  simp only [ty_s, w_fn, w_ret, w_seq, w_sif, w_of, w_trn, w_op, w_snil, w_pass, w_retn, w_asg, w_gnm, w_gsb, w_gtp, w_gcn, w_gn0, w_par, w_aug, w_drop, w_c, w_k, w_lst, w_tup, w_and, w_or, w_not, w_neg, w_ifx, w_tand, w_tor, w_tnot, w_cb, w_ck, w_mt, w_cons, w_nil, w_var, w_chain, w_sl, w_osome, w_onone, Pu.w_rev, w_dct0, w_for, w_iseq, w_irg1, w_lc, w_lc2, List.map_cons, List.map_nil, List.cons_append, List.nil_append, List.getElem?_cons_zero, List.getElem?_cons_succ, List.length_cons, List.length_nil, Option.some.injEq, exists_eq_left', w_some, List.replicate, List.set_cons_zero, List.set_cons_succ, frz_nil, frz_dat, frz_new, frz_new0, ne_ss, list_t, mk_nil, mk1, mk2, mk3, U.dat.injEq, PyData.int.injEq, PyData.bool.injEq, PyData.str.injEq, U.cell.injEq, add_ii, sub_ii, lt_ii, le_ii, gt_ii, ge_ii, eq_ii, ne_ii, eq_tt0, ne_tt0, eq_ds, sl_t, len_t, isi_int, isi_bool, isi_str, isi_tup, abs_i, min_ii, max_ii, int_i, int_b, mod_ii, fdiv_ii, mul_ii, pow_ii, add_ss, add_tt, mul_ti, repr_d, frzU_dat, and_true, true_and, and_assoc, List.cons.injEq, exists_and_left, exists_and_right, exists_eq_left, exists_eq_right, ix_t, ix_s, sl_s, len_s, is_non, Nat.reduceAdd, Nat.reduceSub, sz0, sz1, sz2, sz3, sz4, sz5, sz6, sz7, sz8, sz9, sz10, sz11, sz12, sz13, sz14, sz15, sz16, sz17, sz18, sz19, sz20, sz21, sz22, sz23, sz24, sz25, sz26, sz27, sz28, sz29, sz30]
  refine ⟨by omega, by omega, ?_⟩
  obtain ⟨M4, ds, e4, hh4, fr4, g4, len4, r4⟩ := lc_draw (M1 := M3) (ws := []) (g := gNm 6) (e := eCB m__law_of (aCons (eVar 0) (aCons (eVar 2) aNil))) (ρ := wipeR [some (.cell h), some (.dat (.int k)), some (.dat (.str LET)), some (.dat (.int x1)), some (.dat (.int st)), some (.dat (.int more)), none, none, none, none, none, none] [6]) (items := rangeU 0 ((more : Int)).toNat)
    (fun M' j => Hand M' h (n + 3 + j)) h (fun _ d => ∃ z : Str, d = .str z ∧ Lt z ∧ z.length = 1) (fun M' j c hx => hx.set (by omega)) (fun c hc => by cases hc) (by rw [range_len]; exact Nat.le_trans (show _ ≤ 10 by omega) (by decide)) (by omega) (hh3.same ⟨_, rfl⟩) (fun j u M' hj hx fr => by
      obtain ⟨hj1, rfl⟩ := range_get hj
      simp only [wipeR, w_fn, w_ret, w_seq, w_sif, w_of, w_trn, w_op, w_snil, w_pass, w_retn, w_asg, w_gnm, w_gsb, w_gtp, w_gcn, w_gn0, w_par, w_aug, w_drop, w_c, w_k, w_lst, w_tup, w_and, w_or, w_not, w_neg, w_ifx, w_tand, w_tor, w_tnot, w_cb, w_ck, w_mt, w_cons, w_nil, w_var, w_chain, w_sl, w_osome, w_onone, Pu.w_rev, w_dct0, w_for, w_iseq, w_irg1, w_lc, w_lc2, List.map_cons, List.map_nil, List.cons_append, List.nil_append, List.getElem?_cons_zero, List.getElem?_cons_succ, List.length_cons, List.length_nil, Option.some.injEq, exists_eq_left', w_some, List.replicate, List.set_cons_zero, List.set_cons_succ, frz_nil, frz_dat, frz_new, frz_new0, ne_ss, list_t, mk_nil, mk1, mk2, mk3, U.dat.injEq, PyData.int.injEq, PyData.bool.injEq, PyData.str.injEq, U.cell.injEq, add_ii, sub_ii, lt_ii, le_ii, gt_ii, ge_ii, eq_ii, ne_ii, eq_tt0, ne_tt0, eq_ds, sl_t, len_t, isi_int, isi_bool, isi_str, isi_tup, abs_i, min_ii, max_ii, int_i, int_b, mod_ii, fdiv_ii, mul_ii, pow_ii, add_ss, add_tt, mul_ti, repr_d, frzU_dat, and_true, true_and, and_assoc, List.cons.injEq, exists_and_left, exists_and_right, exists_eq_left, exists_eq_right, ix_t, ix_s, sl_s, len_s, is_non, Nat.reduceAdd, Nat.reduceSub, sz0, sz1, sz2, sz3, sz4, sz5, sz6, sz7, sz8, sz9, sz10, sz11, sz12, sz13, sz14, sz15, sz16, sz17, sz18, sz19, sz20, sz21, sz22, sz23, sz24, sz25, sz26, sz27, sz28, sz29, sz30]
      refine of_s hx (by omega) (by rw [abc_len]; decide) (by rw [abc_len]; decide) fun c M5 hc hx5 fr5 => ?_
      exact ⟨_, rfl, ⟨_, rfl, lt_one (abc_lt c hc), rfl⟩, hx5.mono (by omega), fr5⟩)
  refine ⟨M4, e4, ?_⟩
  obtain ⟨zs, hzs, lzs, pzs⟩ : ∃ zs : List Str, ds = zs.map PyData.str ∧ zs.length = ds.length ∧ ∀ z ∈ zs, Lt z ∧ z.length = 1 := by
    have all : ∀ d ∈ ds, ∃ z : Str, d = .str z ∧ Lt z ∧ z.length = 1 := by
      intro d hd
      obtain ⟨j, hj, e⟩ := List.getElem_of_mem hd
      have hj2 : j < (rangeU 0 ((more : Int)).toNat).length := by omega
      exact r4 j _ d (List.getElem?_eq_getElem hj2) (by rw [List.getElem?_eq_getElem hj, e])
    clear e4 g4 len4 r4 fr4
    induction ds with
    | nil => exact ⟨[], rfl, rfl, fun z hz => by cases hz⟩
    | cons d ds ih =>
      obtain ⟨zs, e, l, p⟩ := ih fun d hd => all d (List.mem_cons_of_mem _ hd)
      obtain ⟨z, e1, p1⟩ := all d List.mem_cons_self
      refine ⟨z :: zs, by rw [e1, e]; rfl, by simp [l], fun y hy => ?_⟩
      rcases List.mem_cons.mp hy with rfl | hy
      · exact p1
      · exact p y hy
  subst hzs
  rw [range_len] at hh4 len4
  rw [List.map_map] at g4
  have sum1 : (zs.map (·.length)).sum = zs.length := by
    clear lzs g4 len4 e4 r4
    induction zs with
    | nil => rfl
    | cons z zs ih =>
      have h1 := (pzs z List.mem_cons_self).2
      have h2 := ih fun y hy => pzs y (List.mem_cons_of_mem _ hy)
      simp only [List.map_cons, List.sum_cons, List.length_cons]
      omega
  have lzm : zs.length ≤ 6 := by omega
  rw [join_c (zs := zs) g4 (by omega)]
  obtain ⟨pt, pl⟩ := join_lt (ys := zs) fun y hy => (pzs y hy).1
  generalize Str.join Str.empty zs = pad at pt pl
  have l4 := fr4.len
  refine take_spec (hh4.mono (k := n + 9) (by omega)) (by omega) (by omega) (by omega) fun at' M5 at0 at1 hh5 fr5 => ?_
  have l5 := fr5.len
  try simp only [w_fn, w_ret, w_seq, w_sif, w_of, w_trn, w_op, w_snil, w_pass, w_retn, w_asg, w_gnm, w_gsb, w_gtp, w_gcn, w_gn0, w_par, w_aug, w_drop, w_c, w_k, w_lst, w_tup, w_and, w_or, w_not, w_neg, w_ifx, w_tand, w_tor, w_tnot, w_cb, w_ck, w_mt, w_cons, w_nil, w_var, w_chain, w_sl, w_osome, w_onone, Pu.w_rev, w_dct0, w_for, w_iseq, w_irg1, w_lc, w_lc2, List.map_cons, List.map_nil, List.cons_append, List.nil_append, List.getElem?_cons_zero, List.getElem?_cons_succ, List.length_cons, List.length_nil, Option.some.injEq, exists_eq_left', w_some, List.replicate, List.set_cons_zero, List.set_cons_succ, frz_nil, frz_dat, frz_new, frz_new0, ne_ss, list_t, mk_nil, mk1, mk2, mk3, U.dat.injEq, PyData.int.injEq, PyData.bool.injEq, PyData.str.injEq, U.cell.injEq, add_ii, sub_ii, lt_ii, le_ii, gt_ii, ge_ii, eq_ii, ne_ii, eq_tt0, ne_tt0, eq_ds, sl_t, len_t, isi_int, isi_bool, isi_str, isi_tup, abs_i, min_ii, max_ii, int_i, int_b, mod_ii, fdiv_ii, mul_ii, pow_ii, add_ss, add_tt, mul_ti, repr_d, frzU_dat, and_true, true_and, and_assoc, List.cons.injEq, exists_and_left, exists_and_right, exists_eq_left, exists_eq_right, ix_t, ix_s, sl_s, len_s, is_non, Nat.reduceAdd, Nat.reduceSub, sz0, sz1, sz2, sz3, sz4, sz5, sz6, sz7, sz8, sz9, sz10, sz11, sz12, sz13, sz14, sz15, sz16, sz17, sz18, sz19, sz20, sz21, sz22, sz23, sz24, sz25, sz26, sz27, sz28, sz29, sz30]
  refine ⟨by omega, by omega, ?_⟩
  refine for_inv (NmI M h (n + 10) M5.length (.dat (.str LET)) (.dat (.int x1)) (.dat (.int st)) (.dat (.int more)) (.dat (.str pad)) (.dat (.int at')) k) _ 0 _ _ ⟨[], none, none, none, rfl, List.getElem?_concat_length .., rfl, (fun w hw => by cases hw), hh5.same ⟨_, rfl⟩, ((fr03.trans fr4).trans fr5).trans (Fr.of0 ⟨_, rfl⟩)⟩ ?_ ?_
  · intro j u ρ M6 hj hI
    obtain ⟨hj1, rfl⟩ := range_get hj
    obtain ⟨ws, y6, y10, y11, rfl, hc6, hl6, hw6, hh6, fr6⟩ := hI
    have s26 : (26 : Nat) ≤ sizeLine := by decide
    try simp only [w_fn, w_ret, w_seq, w_sif, w_of, w_trn, w_op, w_snil, w_pass, w_retn, w_asg, w_gnm, w_gsb, w_gtp, w_gcn, w_gn0, w_par, w_aug, w_drop, w_c, w_k, w_lst, w_tup, w_and, w_or, w_not, w_neg, w_ifx, w_tand, w_tor, w_tnot, w_cb, w_ck, w_mt, w_cons, w_nil, w_var, w_chain, w_sl, w_osome, w_onone, Pu.w_rev, w_dct0, w_for, w_iseq, w_irg1, w_lc, w_lc2, List.map_cons, List.map_nil, List.cons_append, List.nil_append, List.getElem?_cons_zero, List.getElem?_cons_succ, List.length_cons, List.length_nil, Option.some.injEq, exists_eq_left', w_some, List.replicate, List.set_cons_zero, List.set_cons_succ, frz_nil, frz_dat, frz_new, frz_new0, ne_ss, list_t, mk_nil, mk1, mk2, mk3, U.dat.injEq, PyData.int.injEq, PyData.bool.injEq, PyData.str.injEq, U.cell.injEq, add_ii, sub_ii, lt_ii, le_ii, gt_ii, ge_ii, eq_ii, ne_ii, eq_tt0, ne_tt0, eq_ds, sl_t, len_t, isi_int, isi_bool, isi_str, isi_tup, abs_i, min_ii, max_ii, int_i, int_b, mod_ii, fdiv_ii, mul_ii, pow_ii, add_ss, add_tt, mul_ti, repr_d, frzU_dat, and_true, true_and, and_assoc, List.cons.injEq, exists_and_left, exists_and_right, exists_eq_left, exists_eq_right, ix_t, ix_s, sl_s, len_s, is_non, Nat.reduceAdd, Nat.reduceSub, sz0, sz1, sz2, sz3, sz4, sz5, sz6, sz7, sz8, sz9, sz10, sz11, sz12, sz13, sz14, sz15, sz16, sz17, sz18, sz19, sz20, sz21, sz22, sz23, sz24, sz25, sz26, sz27, sz28, sz29, sz30]
    refine ⟨cmul_s (by omega) (by omega), by decide, by rw [abc_len]; exact s26, ?_⟩
    obtain ⟨c, ec, hc⟩ := abc_at (x1 + st * (0 + (j : Int)))
    have big : ∀ z : Nat, z ≤ 100 → z ≤ sizeLine := fun z hz => Nat.le_trans hz (by decide)
    obtain ⟨a, ha⟩ : ∃ a : Nat, at' = a := ⟨at'.toNat, by omega⟩
    subst ha
    have ct := cut_two pad a
    refine ⟨c, ec, big _ (by omega), big _ ?_, big _ (by omega), big _ ?_, ?_⟩
    · have : (⟨#[c]⟩ : Str).length = 1 := rfl
      omega
    · rw [strLen_append]
      have : (⟨#[c]⟩ : Str).length = 1 := rfl
      omega
    have wt : Lt (cutS pad none (some (a : Int)) ++ ⟨#[c]⟩ ++ cutS pad (some (a : Int)) none) := lt_app (lt_app (lt_cut pt _ _) (lt_one hc)) (lt_cut pt _ _)
    have wl : (cutS pad none (some (a : Int)) ++ ⟨#[c]⟩ ++ cutS pad (some (a : Int)) none).length = pad.length + 1 := by
      rw [strLen_append, strLen_append]
      have : (⟨#[c]⟩ : Str).length = 1 := rfl
      omega
    generalize cutS pad none (some (a : Int)) ++ ⟨#[c]⟩ ++ cutS pad (some (a : Int)) none = word at wt wl
    refine ⟨ty_l hc6, ?_⟩
    simp only [mk5, in5, mul_sb, w_fn, w_ret, w_seq, w_sif, w_of, w_trn, w_op, w_snil, w_pass, w_retn, w_asg, w_gnm, w_gsb, w_gtp, w_gcn, w_gn0, w_par, w_aug, w_drop, w_c, w_k, w_lst, w_tup, w_and, w_or, w_not, w_neg, w_ifx, w_tand, w_tor, w_tnot, w_cb, w_ck, w_mt, w_cons, w_nil, w_var, w_chain, w_sl, w_osome, w_onone, Pu.w_rev, w_dct0, w_for, w_iseq, w_irg1, w_lc, w_lc2, List.map_cons, List.map_nil, List.cons_append, List.nil_append, List.getElem?_cons_zero, List.getElem?_cons_succ, List.length_cons, List.length_nil, Option.some.injEq, exists_eq_left', w_some, List.replicate, List.set_cons_zero, List.set_cons_succ, frz_nil, frz_dat, frz_new, frz_new0, ne_ss, list_t, mk_nil, mk1, mk2, mk3, U.dat.injEq, PyData.int.injEq, PyData.bool.injEq, PyData.str.injEq, U.cell.injEq, add_ii, sub_ii, lt_ii, le_ii, gt_ii, ge_ii, eq_ii, ne_ii, eq_tt0, ne_tt0, eq_ds, sl_t, len_t, isi_int, isi_bool, isi_str, isi_tup, abs_i, min_ii, max_ii, int_i, int_b, mod_ii, fdiv_ii, mul_ii, pow_ii, add_ss, add_tt, mul_ti, repr_d, frzU_dat, and_true, true_and, and_assoc, List.cons.injEq, exists_and_left, exists_and_right, exists_eq_left, exists_eq_right, ix_t, ix_s, sl_s, len_s, is_non, Nat.reduceAdd, Nat.reduceSub, sz0, sz1, sz2, sz3, sz4, sz5, sz6, sz7, sz8, sz9, sz10, sz11, sz12, sz13, sz14, sz15, sz16, sz17, sz18, sz19, sz20, sz21, sz22, sz23, sz24, sz25, sz26, sz27, sz28, sz29, sz30]
    have nm := name_ok wt (by omega) (by omega)
    refine ⟨big _ ?_, ?_⟩
    · split
      · have : (Str.ofString "x").length = 1 := rfl
        omega
      · have : Str.empty.length = 0 := rfl
        omega
    generalize word ++ (if inV (V.str word) five = true then (Str.ofString "x") else Str.empty) = nm1 at nm
    rw [append_d hc6 (by unfold namesU; rw [List.length_map]; exact Nat.lt_of_le_of_lt (show _ ≤ 100 by omega) (by decide)), w_some]
    refine ⟨fun c hc => (by cases hc), ws ++ [nm1], _, _, _, rfl, ?_, ?_, ?_, ?_, ?_⟩
    · rw [get_set hc6]
      unfold namesU
      simp only [List.map_append, List.map_cons, List.map_nil]
    · simp [hl6]
    · intro w hw
      rcases List.mem_append.mp hw with hw | hw
      · exact hw6 w hw
      · rw [List.mem_singleton.mp hw]
        exact nm
    · exact hh6.set (by omega)
    · exact fr6.setNew (by omega)
  · intro ρ M6 hI
    obtain ⟨ws, y6, y10, y11, rfl, hc6, hl6, hw6, hh6, fr6⟩ := hI
    rw [range_len] at hl6
    try simp only [w_fn, w_ret, w_seq, w_sif, w_of, w_trn, w_op, w_snil, w_pass, w_retn, w_asg, w_gnm, w_gsb, w_gtp, w_gcn, w_gn0, w_par, w_aug, w_drop, w_c, w_k, w_lst, w_tup, w_and, w_or, w_not, w_neg, w_ifx, w_tand, w_tor, w_tnot, w_cb, w_ck, w_mt, w_cons, w_nil, w_var, w_chain, w_sl, w_osome, w_onone, Pu.w_rev, w_dct0, w_for, w_iseq, w_irg1, w_lc, w_lc2, List.map_cons, List.map_nil, List.cons_append, List.nil_append, List.getElem?_cons_zero, List.getElem?_cons_succ, List.length_cons, List.length_nil, Option.some.injEq, exists_eq_left', w_some, List.replicate, List.set_cons_zero, List.set_cons_succ, frz_nil, frz_dat, frz_new, frz_new0, ne_ss, list_t, mk_nil, mk1, mk2, mk3, U.dat.injEq, PyData.int.injEq, PyData.bool.injEq, PyData.str.injEq, U.cell.injEq, add_ii, sub_ii, lt_ii, le_ii, gt_ii, ge_ii, eq_ii, ne_ii, eq_tt0, ne_tt0, eq_ds, sl_t, len_t, isi_int, isi_bool, isi_str, isi_tup, abs_i, min_ii, max_ii, int_i, int_b, mod_ii, fdiv_ii, mul_ii, pow_ii, add_ss, add_tt, mul_ti, repr_d, frzU_dat, and_true, true_and, and_assoc, List.cons.injEq, exists_and_left, exists_and_right, exists_eq_left, exists_eq_right, ix_t, ix_s, sl_s, len_s, is_non, Nat.reduceAdd, Nat.reduceSub, sz0, sz1, sz2, sz3, sz4, sz5, sz6, sz7, sz8, sz9, sz10, sz11, sz12, sz13, sz14, sz15, sz16, sz17, sz18, sz19, sz20, sz21, sz22, sz23, sz24, sz25, sz26, sz27, sz28, sz29, sz30]
    exact q _ ws M6 hc6 (by omega) hw6 (hh6.mono (by omega)) fr6
end Z

namespace Z
open PySem PySem.Spec PyProof.Rows L2 Lw Pu
abbrev cellsU (ws : List Str) : U := .dat (.tuple (ws.map .str))
def wP : Nat → Nat
  | 0 => 20
  | l + 1 => 3 * wP l + 25
def pD : Nat → Nat
  | 0 => 2
  | l + 1 => 3 * pD l + 4
theorem ga_all {n m B : Nat} : ∀ {ds : List PyData}, (∀ d ∈ ds, Gd n m B d) → GA n (ds.length * (m + 1)) B ds
  | [], _ => by simpa using GA.nil
  | d :: ds, h => by
    have := GA.cons (h d List.mem_cons_self) (ga_all (ds := ds) fun x hx => h x (List.mem_cons_of_mem _ hx))
    refine this.mono (Nat.le_refl _) ?_ (Nat.le_refl _)
    rw [List.length_cons, Nat.succ_mul]
    omega
theorem gd_small {n B : Nat} {i : Int} (h : i.natAbs < 10) (hB : 10 ≤ B) : Gd n 5 B (.int i) := ⟨Bd.small (by omega), by simp only [inB, decide_eq_true_eq]; omega, rfl⟩
theorem gd_name {n B : Nat} {w : Str} (h : Nm w) : Gd n 8 B (.str w) := by
  obtain ⟨a, b⟩ := h
  exact gd_str (fun c hc => by have := (a c hc).2; omega) b
def cellF : U → PyData
  | .dat d => .tuple [.str (Str.ofString "cell"), d]
  | _ => .none
def cameF : U → PyData
  | .dat d => .tuple [.str (Str.ofString "came"), d]
  | _ => .none
theorem pick_spec {h : Nat} {ws : List Str} {many : Nat} (hws : ∀ w ∈ ws, Nm w) (hwl : ws.length ≤ 10) (hmy : many ≤ 2) : ∀ (F l n : Nat) (M : Mem) (Q : U → Mem → Prop), l + 1 ≤ F → Hand M h n → n + pD l ≤ 800000 →
    (∀ d M', Gd (2 * l + 1) (wP l) 10 d → Hand M' h (n + pD l) → Fr h M M' → Q (.dat d) M') → W (m__law_pick F [.cell h, cellsU ws, .dat (.int many), .dat (.int l)] M) Q
  | 0, l, n, M, Q, hF, _, _, _ => by omega
  | F + 1, l, n, M, Q, hF, hh, hn, q => by
    have hlt := hh.lt
    have big : ∀ z : Nat, z ≤ 100 → z ≤ sizeLine := fun z hz => Nat.le_trans hz (by decide)
    simp only [m__law_pick, w_fn, w_ret, w_seq, w_sif, w_of, w_trn, w_op, w_snil, w_pass, w_retn, w_asg, w_gnm, w_gsb, w_gtp, w_gcn, w_gn0, w_par, w_aug, w_drop, w_c, w_k, w_lst, w_tup, w_and, w_or, w_not, w_neg, w_ifx, w_tand, w_tor, w_tnot, w_cb, w_ck, w_mt, w_cons, w_nil, w_var, w_chain, w_sl, w_osome, w_onone, Pu.w_rev, w_dct0, w_for, w_iseq, w_irg1, w_lc, w_lc2, List.map_cons, List.map_nil, List.cons_append, List.nil_append, List.getElem?_cons_zero, List.getElem?_cons_succ, List.length_cons, List.length_nil, Option.some.injEq, exists_eq_left', w_some, List.replicate, List.set_cons_zero, List.set_cons_succ, frz_nil, frz_dat, frz_new, frz_new0, ne_ss, list_t, mk_nil, mk1, mk2, mk3, U.dat.injEq, PyData.int.injEq, PyData.bool.injEq, PyData.str.injEq, U.cell.injEq, add_ii, sub_ii, lt_ii, le_ii, gt_ii, ge_ii, eq_ii, ne_ii, eq_tt0, ne_tt0, eq_ds, sl_t, len_t, isi_int, isi_bool, isi_str, isi_tup, abs_i, min_ii, max_ii, int_i, int_b, mod_ii, fdiv_ii, mul_ii, pow_ii, add_ss, add_tt, mul_ti, repr_d, frzU_dat, and_true, true_and, and_assoc, List.cons.injEq, exists_and_left, exists_and_right, exists_eq_left, exists_eq_right, ix_t, ix_s, sl_s, len_s, is_non, Nat.reduceAdd, Nat.reduceSub, sz0, sz1, sz2, sz3, sz4, sz5, sz6, sz7, sz8, sz9, sz10, sz11, sz12, sz13, sz14, sz15, sz16, sz17, sz18, sz19, sz20, sz21, sz22, sz23, sz24, sz25, sz26, sz27, sz28, sz29, sz30]
    refine ⟨_, rfl, ?_⟩
    obtain ⟨M1, e1, s1, g1⟩ := lc_pure (M1 := M) (ws := cellsOf (cellsU ws)) (g := gNm 7) (e := eTup (aCons (eC (.str (Str.ofString "cell"))) (aCons (eVar 7) aNil))) (ρ := wipeR [some (.cell h), some (cellsU ws), some (.dat (.int many)), some (.dat (.int l)), none, none, none, none, none, none] [7]) (items := (ws.map PyData.str).map .dat) cellF (fun c hc => by cases hc) (by rw [List.length_map, List.length_map]; exact big _ (by omega)) (fun u hu M' s => by
      obtain ⟨d, _, rfl⟩ := List.mem_map.mp hu
      simp only [wipeR, w_fn, w_ret, w_seq, w_sif, w_of, w_trn, w_op, w_snil, w_pass, w_retn, w_asg, w_gnm, w_gsb, w_gtp, w_gcn, w_gn0, w_par, w_aug, w_drop, w_c, w_k, w_lst, w_tup, w_and, w_or, w_not, w_neg, w_ifx, w_tand, w_tor, w_tnot, w_cb, w_ck, w_mt, w_cons, w_nil, w_var, w_chain, w_sl, w_osome, w_onone, Pu.w_rev, w_dct0, w_for, w_iseq, w_irg1, w_lc, w_lc2, List.map_cons, List.map_nil, List.cons_append, List.nil_append, List.getElem?_cons_zero, List.getElem?_cons_succ, List.length_cons, List.length_nil, Option.some.injEq, exists_eq_left', w_some, List.replicate, List.set_cons_zero, List.set_cons_succ, frz_nil, frz_dat, frz_new, frz_new0, ne_ss, list_t, mk_nil, mk1, mk2, mk3, U.dat.injEq, PyData.int.injEq, PyData.bool.injEq, PyData.str.injEq, U.cell.injEq, add_ii, sub_ii, lt_ii, le_ii, gt_ii, ge_ii, eq_ii, ne_ii, eq_tt0, ne_tt0, eq_ds, sl_t, len_t, isi_int, isi_bool, isi_str, isi_tup, abs_i, min_ii, max_ii, int_i, int_b, mod_ii, fdiv_ii, mul_ii, pow_ii, add_ss, add_tt, mul_ti, repr_d, frzU_dat, and_true, true_and, and_assoc, List.cons.injEq, exists_and_left, exists_and_right, exists_eq_left, exists_eq_right, ix_t, ix_s, sl_s, len_s, is_non, Nat.reduceAdd, Nat.reduceSub, sz0, sz1, sz2, sz3, sz4, sz5, sz6, sz7, sz8, sz9, sz10, sz11, sz12, sz13, sz14, sz15, sz16, sz17, sz18, sz19, sz20, sz21, sz22, sz23, sz24, sz25, sz26, sz27, sz28, sz29, sz30]
      exact ⟨rfl, Same0.refl _⟩)
    refine ⟨M1, e1, by omega, by omega, ?_⟩
    obtain ⟨M2, e2, s2, g2⟩ := lc_pure (M1 := M1) (ws := []) (g := gNm 8) (e := eTup (aCons (eC (.str (Str.ofString "came"))) (aCons (eVar 8) aNil))) (ρ := wipeR [some (.cell h), some (cellsU ws), some (.dat (.int many)), some (.dat (.int l)), none, none, none, none, none, none] [8]) (items := rangeU 0 (many : Int).toNat) cameF (fun c hc => by cases hc) (by rw [range_len]; exact big _ (by omega)) (fun u hu M' s => by
      obtain ⟨j, hj, e⟩ := List.getElem_of_mem hu
      obtain ⟨_, rfl⟩ := range_get (show (rangeU 0 (many : Int).toNat)[j]? = some u by rw [List.getElem?_eq_getElem hj, e])
      simp only [wipeR, w_fn, w_ret, w_seq, w_sif, w_of, w_trn, w_op, w_snil, w_pass, w_retn, w_asg, w_gnm, w_gsb, w_gtp, w_gcn, w_gn0, w_par, w_aug, w_drop, w_c, w_k, w_lst, w_tup, w_and, w_or, w_not, w_neg, w_ifx, w_tand, w_tor, w_tnot, w_cb, w_ck, w_mt, w_cons, w_nil, w_var, w_chain, w_sl, w_osome, w_onone, Pu.w_rev, w_dct0, w_for, w_iseq, w_irg1, w_lc, w_lc2, List.map_cons, List.map_nil, List.cons_append, List.nil_append, List.getElem?_cons_zero, List.getElem?_cons_succ, List.length_cons, List.length_nil, Option.some.injEq, exists_eq_left', w_some, List.replicate, List.set_cons_zero, List.set_cons_succ, frz_nil, frz_dat, frz_new, frz_new0, ne_ss, list_t, mk_nil, mk1, mk2, mk3, U.dat.injEq, PyData.int.injEq, PyData.bool.injEq, PyData.str.injEq, U.cell.injEq, add_ii, sub_ii, lt_ii, le_ii, gt_ii, ge_ii, eq_ii, ne_ii, eq_tt0, ne_tt0, eq_ds, sl_t, len_t, isi_int, isi_bool, isi_str, isi_tup, abs_i, min_ii, max_ii, int_i, int_b, mod_ii, fdiv_ii, mul_ii, pow_ii, add_ss, add_tt, mul_ti, repr_d, frzU_dat, and_true, true_and, and_assoc, List.cons.injEq, exists_and_left, exists_and_right, exists_eq_left, exists_eq_right, ix_t, ix_s, sl_s, len_s, is_non, Nat.reduceAdd, Nat.reduceSub, sz0, sz1, sz2, sz3, sz4, sz5, sz6, sz7, sz8, sz9, sz10, sz11, sz12, sz13, sz14, sz15, sz16, sz17, sz18, sz19, sz20, sz21, sz22, sz23, sz24, sz25, sz26, sz27, sz28, sz29, sz30]
      exact ⟨rfl, Same0.refl _⟩)
    refine ⟨M2, e2, ?_⟩
    have gs : Gs 1 20 10 (((ws.map PyData.str).map U.dat).map (fun u => .dat (cellF u)) ++ (rangeU 0 (many : Int).toNat).map fun u => .dat (cameF u)) := by
      refine Gs.app (fun u hu => ?_) fun u hu => ?_
      · rw [List.map_map, List.map_map] at hu
        obtain ⟨w, hw, rfl⟩ := List.mem_map.mp hu
        refine ⟨_, rfl, ?_⟩
        exact (GA.cons (gd_lit "cell" (by decide) (show _ ≤ 8 by decide)) (GA.one (gd_name (hws w hw)))).tuple.mono (Nat.le_refl _) (by omega) (Nat.le_refl _)
      · obtain ⟨w, hw, rfl⟩ := List.mem_map.mp hu
        obtain ⟨j, hj, e⟩ := List.getElem_of_mem hw
        obtain ⟨hj2, rfl⟩ := range_get (show (rangeU 0 (many : Int).toNat)[j]? = some w by rw [List.getElem?_eq_getElem hj, e])
        refine ⟨_, rfl, ?_⟩
        exact (GA.cons (gd_lit "came" (by decide) (show _ ≤ 8 by decide)) (GA.one (gd_small (by omega) (Nat.le_refl _)))).tuple.mono (Nat.le_refl _) (by omega) (Nat.le_refl _)
    have gl : (((ws.map PyData.str).map U.dat).map (fun u => U.dat (cellF u)) ++ (rangeU 0 (many : Int).toNat).map fun u => U.dat (cameF u)).length ≤ 12 := by
      simp only [List.length_append, List.length_map, range_len]
      omega
    rw [add_ll (lst_cell (s2.get g1)) (lst_cell g2)]
    rw [List.length_append] at gl
    refine ⟨big _ (by omega), ?_⟩
    rw [← List.length_append] at gl
    generalize hus : ((ws.map PyData.str).map U.dat).map (fun u => U.dat (cellF u)) ++ (rangeU 0 (many : Int).toNat).map (fun u => U.dat (cameF u)) = us at gs gl
    have lM : M.length ≤ M2.length := by
      obtain ⟨G, e⟩ := s1.trans s2
      rw [e, List.length_append]
      omega
    have s3 : Same0 M (M2 ++ [.lst false us]) := (s1.trans s2).trans ⟨_, rfl⟩
    have g3 : (M2 ++ [Cell.lst false us])[M2.length]? = some (.lst false us) := List.getElem?_concat_length ..
    generalize hM3 : M2 ++ [Cell.lst false us] = M3 at s3 g3
    have leaf : ∀ (M4 : Mem) (k : Nat), M4[M2.length]? = some (.lst false us) → Hand M4 h k → k + 1 ≤ n + pD l → Fr h M M4 → W (addU (.cell M2.length) (.cell M2.length) M4) fun x M5 => W (addU x (.cell M5.length) (M5 ++ [.lst true [.dat (.tuple [.str (Str.ofString "none")])]])) fun x M6 => W (m__law_of [.cell h, x] M6) Q := by
      intro M4 k g4 h4 hk fr4
      have l4 := fr4.len
      rw [add_ll (lst_cell g4) (lst_cell g4)]
      refine ⟨big _ (by omega), ?_⟩
      rw [add_ll (lst_cell (us := us ++ us) (f := false) (by rw [List.append_assoc]; exact lst_at)) (lst_cell (us := [.dat (.tuple [.str (Str.ofString "none")])]) (f := true) (List.getElem?_concat_length ..))]
      refine ⟨big _ (by simp only [List.length_append, List.length_cons, List.length_nil]; omega), ?_⟩
      refine of_c (h4.same ((Same0.refl M4).app.app.app)) (by omega) (List.getElem?_concat_length ..) (by simp only [List.length_append, List.length_cons, List.length_nil]; omega) (by simp only [List.length_append, List.length_cons, List.length_nil]; omega) (by simp only [List.length_append, List.length_cons, List.length_nil]; omega) fun u M7 hu h7 fr7 => ?_
      have none1 : Gd 1 20 10 (.tuple [.str (Str.ofString "none")]) := (GA.one (gd_lit "none" (by decide) (show _ ≤ 8 by decide))).tuple.mono (Nat.le_refl _) (by omega) (Nat.le_refl _)
      obtain ⟨d, rfl, g⟩ := ((gs.app gs).app (Gs.cons none1 .nil)) u hu
      have w20 : 20 ≤ wP l := by cases l <;> simp only [wP] <;> omega
      exact q d M7 (g.mono (by omega) w20 (Nat.le_refl _)) (h7.mono (by omega)) ((fr4.trans (Fr.of0 ((Same0.refl M4).app.app.app))).trans fr7)
    cases l with
    | zero =>
      rw [decide_eq_false (by omega)]
      simp only [w_fn, w_ret, w_seq, w_sif, w_of, w_trn, w_op, w_snil, w_pass, w_retn, w_asg, w_gnm, w_gsb, w_gtp, w_gcn, w_gn0, w_par, w_aug, w_drop, w_c, w_k, w_lst, w_tup, w_and, w_or, w_not, w_neg, w_ifx, w_tand, w_tor, w_tnot, w_cb, w_ck, w_mt, w_cons, w_nil, w_var, w_chain, w_sl, w_osome, w_onone, Pu.w_rev, w_dct0, w_for, w_iseq, w_irg1, w_lc, w_lc2, List.map_cons, List.map_nil, List.cons_append, List.nil_append, List.getElem?_cons_zero, List.getElem?_cons_succ, List.length_cons, List.length_nil, Option.some.injEq, exists_eq_left', w_some, List.replicate, List.set_cons_zero, List.set_cons_succ, frz_nil, frz_dat, frz_new, frz_new0, ne_ss, list_t, mk_nil, mk1, mk2, mk3, U.dat.injEq, PyData.int.injEq, PyData.bool.injEq, PyData.str.injEq, U.cell.injEq, add_ii, sub_ii, lt_ii, le_ii, gt_ii, ge_ii, eq_ii, ne_ii, eq_tt0, ne_tt0, eq_ds, sl_t, len_t, isi_int, isi_bool, isi_str, isi_tup, abs_i, min_ii, max_ii, int_i, int_b, mod_ii, fdiv_ii, mul_ii, pow_ii, add_ss, add_tt, mul_ti, repr_d, frzU_dat, and_true, true_and, and_assoc, List.cons.injEq, exists_and_left, exists_and_right, exists_eq_left, exists_eq_right, ix_t, ix_s, sl_s, len_s, is_non, Nat.reduceAdd, Nat.reduceSub, sz0, sz1, sz2, sz3, sz4, sz5, sz6, sz7, sz8, sz9, sz10, sz11, sz12, sz13, sz14, sz15, sz16, sz17, sz18, sz19, sz20, sz21, sz22, sz23, sz24, sz25, sz26, sz27, sz28, sz29, sz30]
      rw [decide_eq_true (by decide)]
      simp only
      exact leaf M3 n g3 (hh.same s3) (by simp only [pD]; omega) (Fr.of0 s3)
    | succ l =>
      rw [decide_eq_true (by omega)]
      simp only [pD] at hn leaf q
      simp only
      refine take_spec (hh.same s3) (by omega) (by decide) (by decide) fun x M4 x0 x1 hh4 fr4 => ?_
      have l3 : M2.length + 1 = M3.length := by rw [← hM3, List.length_append]; rfl
      have l4 := fr4.len
      have fr04 := (Fr.of0 (h := h) s3).trans fr4
      have g4 := fr4.at g3 (by omega)
      try simp only [w_fn, w_ret, w_seq, w_sif, w_of, w_trn, w_op, w_snil, w_pass, w_retn, w_asg, w_gnm, w_gsb, w_gtp, w_gcn, w_gn0, w_par, w_aug, w_drop, w_c, w_k, w_lst, w_tup, w_and, w_or, w_not, w_neg, w_ifx, w_tand, w_tor, w_tnot, w_cb, w_ck, w_mt, w_cons, w_nil, w_var, w_chain, w_sl, w_osome, w_onone, Pu.w_rev, w_dct0, w_for, w_iseq, w_irg1, w_lc, w_lc2, List.map_cons, List.map_nil, List.cons_append, List.nil_append, List.getElem?_cons_zero, List.getElem?_cons_succ, List.length_cons, List.length_nil, Option.some.injEq, exists_eq_left', w_some, List.replicate, List.set_cons_zero, List.set_cons_succ, frz_nil, frz_dat, frz_new, frz_new0, ne_ss, list_t, mk_nil, mk1, mk2, mk3, U.dat.injEq, PyData.int.injEq, PyData.bool.injEq, PyData.str.injEq, U.cell.injEq, add_ii, sub_ii, lt_ii, le_ii, gt_ii, ge_ii, eq_ii, ne_ii, eq_tt0, ne_tt0, eq_ds, sl_t, len_t, isi_int, isi_bool, isi_str, isi_tup, abs_i, min_ii, max_ii, int_i, int_b, mod_ii, fdiv_ii, mul_ii, pow_ii, add_ss, add_tt, mul_ti, repr_d, frzU_dat, and_true, true_and, and_assoc, List.cons.injEq, exists_and_left, exists_and_right, exists_eq_left, exists_eq_right, ix_t, ix_s, sl_s, len_s, is_non, Nat.reduceAdd, Nat.reduceSub, sz0, sz1, sz2, sz3, sz4, sz5, sz6, sz7, sz8, sz9, sz10, sz11, sz12, sz13, sz14, sz15, sz16, sz17, sz18, sz19, sz20, sz21, sz22, sz23, sz24, sz25, sz26, sz27, sz28, sz29, sz30]
      by_cases hx : x < 2
      · rw [decide_eq_true hx]
        simp only
        exact leaf M4 _ g4 hh4 (by omega) fr04
      · rw [decide_eq_false hx]
        simp only
        refine take_spec hh4 (by omega) (by decide) (by decide) fun y M5 y0 y1 hh5 fr5 => ?_
        have l5 := fr5.len
        try simp only [w_fn, w_ret, w_seq, w_sif, w_of, w_trn, w_op, w_snil, w_pass, w_retn, w_asg, w_gnm, w_gsb, w_gtp, w_gcn, w_gn0, w_par, w_aug, w_drop, w_c, w_k, w_lst, w_tup, w_and, w_or, w_not, w_neg, w_ifx, w_tand, w_tor, w_tnot, w_cb, w_ck, w_mt, w_cons, w_nil, w_var, w_chain, w_sl, w_osome, w_onone, Pu.w_rev, w_dct0, w_for, w_iseq, w_irg1, w_lc, w_lc2, List.map_cons, List.map_nil, List.cons_append, List.nil_append, List.getElem?_cons_zero, List.getElem?_cons_succ, List.length_cons, List.length_nil, Option.some.injEq, exists_eq_left', w_some, List.replicate, List.set_cons_zero, List.set_cons_succ, frz_nil, frz_dat, frz_new, frz_new0, ne_ss, list_t, mk_nil, mk1, mk2, mk3, U.dat.injEq, PyData.int.injEq, PyData.bool.injEq, PyData.str.injEq, U.cell.injEq, add_ii, sub_ii, lt_ii, le_ii, gt_ii, ge_ii, eq_ii, ne_ii, eq_tt0, ne_tt0, eq_ds, sl_t, len_t, isi_int, isi_bool, isi_str, isi_tup, abs_i, min_ii, max_ii, int_i, int_b, mod_ii, fdiv_ii, mul_ii, pow_ii, add_ss, add_tt, mul_ti, repr_d, frzU_dat, and_true, true_and, and_assoc, List.cons.injEq, exists_and_left, exists_and_right, exists_eq_left, exists_eq_right, ix_t, ix_s, sl_s, len_s, is_non, Nat.reduceAdd, Nat.reduceSub, sz0, sz1, sz2, sz3, sz4, sz5, sz6, sz7, sz8, sz9, sz10, sz11, sz12, sz13, sz14, sz15, sz16, sz17, sz18, sz19, sz20, sz21, sz22, sz23, sz24, sz25, sz26, sz27, sz28, sz29, sz30]
        refine ⟨by omega, by omega, ?_⟩
        obtain ⟨c, hc⟩ : ∃ c : Nat, 1 + y = c := ⟨(1 + y).toNat, by omega⟩
        rw [hc]
        have esub : ((l + 1 : Nat) : Int) - 1 = (l : Nat) := by omega
        obtain ⟨M6, ds, e6, hh6, fr6, g6, len6, r6⟩ := lc_draw (M1 := M5) (ws := []) (g := gNm 9) (e := eCB (m__law_pick F) (aCons (eVar 0) (aCons (eVar 1) (aCons (eVar 2) (aCons (eOp subU (eVar 3) (eC (.int 1))) aNil))))) (ρ := wipeR [some (.cell h), some (cellsU ws), some (.dat (.int many)), some (.dat (.int ((l + 1 : Nat) : Int))), some (.cell M2.length), some (.dat (.int x)), none, none, none, none] [9]) (items := rangeU 0 (c : Int).toNat)
          (fun M' j => Hand M' h (n + 2 + j * pD l)) h (fun _ d => Gd (2 * l + 1) (wP l) 10 d) (fun M' j c hx => hx.set (by omega)) (fun c hc => by cases hc) (by rw [range_len]; exact big _ (by omega)) (by omega) (by simpa using hh5.same ⟨_, rfl⟩) (fun j u M' hj hx fr => by
            obtain ⟨hj1, rfl⟩ := range_get hj
            have hjj : j ≤ 2 := by omega
            have hjp : j * pD l ≤ 2 * pD l := Nat.mul_le_mul_right _ hjj
            simp only [wipeR, esub, w_fn, w_ret, w_seq, w_sif, w_of, w_trn, w_op, w_snil, w_pass, w_retn, w_asg, w_gnm, w_gsb, w_gtp, w_gcn, w_gn0, w_par, w_aug, w_drop, w_c, w_k, w_lst, w_tup, w_and, w_or, w_not, w_neg, w_ifx, w_tand, w_tor, w_tnot, w_cb, w_ck, w_mt, w_cons, w_nil, w_var, w_chain, w_sl, w_osome, w_onone, Pu.w_rev, w_dct0, w_for, w_iseq, w_irg1, w_lc, w_lc2, List.map_cons, List.map_nil, List.cons_append, List.nil_append, List.getElem?_cons_zero, List.getElem?_cons_succ, List.length_cons, List.length_nil, Option.some.injEq, exists_eq_left', w_some, List.replicate, List.set_cons_zero, List.set_cons_succ, frz_nil, frz_dat, frz_new, frz_new0, ne_ss, list_t, mk_nil, mk1, mk2, mk3, U.dat.injEq, PyData.int.injEq, PyData.bool.injEq, PyData.str.injEq, U.cell.injEq, add_ii, sub_ii, lt_ii, le_ii, gt_ii, ge_ii, eq_ii, ne_ii, eq_tt0, ne_tt0, eq_ds, sl_t, len_t, isi_int, isi_bool, isi_str, isi_tup, abs_i, min_ii, max_ii, int_i, int_b, mod_ii, fdiv_ii, mul_ii, pow_ii, add_ss, add_tt, mul_ti, repr_d, frzU_dat, and_true, true_and, and_assoc, List.cons.injEq, exists_and_left, exists_and_right, exists_eq_left, exists_eq_right, ix_t, ix_s, sl_s, len_s, is_non, Nat.reduceAdd, Nat.reduceSub, sz0, sz1, sz2, sz3, sz4, sz5, sz6, sz7, sz8, sz9, sz10, sz11, sz12, sz13, sz14, sz15, sz16, sz17, sz18, sz19, sz20, sz21, sz22, sz23, sz24, sz25, sz26, sz27, sz28, sz29, sz30]
            refine pick_spec hws hwl hmy F l _ M' _ (by omega) hx (by omega) fun d M'' g h'' fr'' => ⟨_, rfl, g, ?_, fr''⟩
            rw [show n + 2 + (j + 1) * pD l = n + 2 + j * pD l + pD l by rw [Nat.succ_mul]; omega]
            exact h'')
        refine ⟨M6, e6, ?_⟩
        rw [range_len] at hh6 len6
        have hc3 : c ≤ 3 := by omega
        have hcp : c * pD l ≤ 3 * pD l := Nat.mul_le_mul_right _ hc3
        have gds : ∀ d ∈ ds, Gd (2 * l + 1) (wP l) 10 d := by
          intro d hd
          obtain ⟨j, hj, e⟩ := List.getElem_of_mem hd
          have hj2 : j < (rangeU 0 (c : Int).toNat).length := by rw [range_len]; omega
          exact r6 j _ d (List.getElem?_eq_getElem hj2) (by rw [List.getElem?_eq_getElem hj, e])
        have gt : Gd (2 * l + 2) (3 * (wP l + 1)) 10 (.tuple ds) := (ga_all gds).tuple.mono (Nat.le_refl _) (Nat.mul_le_mul_right _ (by omega)) (Nat.le_refl _)
        rw [tup_c g6, w_some]
        have fr06 : Fr h M M6 := (fr04.trans fr5).trans fr6
        have hh6' : Hand M6 h (n + 2 + 3 * pD l) := hh6.mono (by simp only [Int.toNat_natCast]; omega)
        have l6 := fr6.len
        try simp only [w_fn, w_ret, w_seq, w_sif, w_of, w_trn, w_op, w_snil, w_pass, w_retn, w_asg, w_gnm, w_gsb, w_gtp, w_gcn, w_gn0, w_par, w_aug, w_drop, w_c, w_k, w_lst, w_tup, w_and, w_or, w_not, w_neg, w_ifx, w_tand, w_tor, w_tnot, w_cb, w_ck, w_mt, w_cons, w_nil, w_var, w_chain, w_sl, w_osome, w_onone, Pu.w_rev, w_dct0, w_for, w_iseq, w_irg1, w_lc, w_lc2, List.map_cons, List.map_nil, List.cons_append, List.nil_append, List.getElem?_cons_zero, List.getElem?_cons_succ, List.length_cons, List.length_nil, Option.some.injEq, exists_eq_left', w_some, List.replicate, List.set_cons_zero, List.set_cons_succ, frz_nil, frz_dat, frz_new, frz_new0, ne_ss, list_t, mk_nil, mk1, mk2, mk3, U.dat.injEq, PyData.int.injEq, PyData.bool.injEq, PyData.str.injEq, U.cell.injEq, add_ii, sub_ii, lt_ii, le_ii, gt_ii, ge_ii, eq_ii, ne_ii, eq_tt0, ne_tt0, eq_ds, sl_t, len_t, isi_int, isi_bool, isi_str, isi_tup, abs_i, min_ii, max_ii, int_i, int_b, mod_ii, fdiv_ii, mul_ii, pow_ii, add_ss, add_tt, mul_ti, repr_d, frzU_dat, and_true, true_and, and_assoc, List.cons.injEq, exists_and_left, exists_and_right, exists_eq_left, exists_eq_right, ix_t, ix_s, sl_s, len_s, is_non, Nat.reduceAdd, Nat.reduceSub, sz0, sz1, sz2, sz3, sz4, sz5, sz6, sz7, sz8, sz9, sz10, sz11, sz12, sz13, sz14, sz15, sz16, sz17, sz18, sz19, sz20, sz21, sz22, sz23, sz24, sz25, sz26, sz27, sz28, sz29, sz30]
        by_cases h6 : x = 6
        · rw [decide_eq_true h6]
          simp only
          refine take_spec hh6' (by omega) (by omega) (by omega) fun z M7 z0 z1 hh7 fr7 => ?_
          try simp only [w_fn, w_ret, w_seq, w_sif, w_of, w_trn, w_op, w_snil, w_pass, w_retn, w_asg, w_gnm, w_gsb, w_gtp, w_gcn, w_gn0, w_par, w_aug, w_drop, w_c, w_k, w_lst, w_tup, w_and, w_or, w_not, w_neg, w_ifx, w_tand, w_tor, w_tnot, w_cb, w_ck, w_mt, w_cons, w_nil, w_var, w_chain, w_sl, w_osome, w_onone, Pu.w_rev, w_dct0, w_for, w_iseq, w_irg1, w_lc, w_lc2, List.map_cons, List.map_nil, List.cons_append, List.nil_append, List.getElem?_cons_zero, List.getElem?_cons_succ, List.length_cons, List.length_nil, Option.some.injEq, exists_eq_left', w_some, List.replicate, List.set_cons_zero, List.set_cons_succ, frz_nil, frz_dat, frz_new, frz_new0, ne_ss, list_t, mk_nil, mk1, mk2, mk3, U.dat.injEq, PyData.int.injEq, PyData.bool.injEq, PyData.str.injEq, U.cell.injEq, add_ii, sub_ii, lt_ii, le_ii, gt_ii, ge_ii, eq_ii, ne_ii, eq_tt0, ne_tt0, eq_ds, sl_t, len_t, isi_int, isi_bool, isi_str, isi_tup, abs_i, min_ii, max_ii, int_i, int_b, mod_ii, fdiv_ii, mul_ii, pow_ii, add_ss, add_tt, mul_ti, repr_d, frzU_dat, and_true, true_and, and_assoc, List.cons.injEq, exists_and_left, exists_and_right, exists_eq_left, exists_eq_right, ix_t, ix_s, sl_s, len_s, is_non, Nat.reduceAdd, Nat.reduceSub, sz0, sz1, sz2, sz3, sz4, sz5, sz6, sz7, sz8, sz9, sz10, sz11, sz12, sz13, sz14, sz15, sz16, sz17, sz18, sz19, sz20, sz21, sz22, sz23, sz24, sz25, sz26, sz27, sz28, sz29, sz30]
          refine q _ M7 ?_ (hh7.mono (by omega)) (fr06.trans fr7)
          refine (GA.cons (gd_lit "kth" (by decide) (show _ ≤ 8 by decide)) (GA.cons (gd_small (by omega) (Nat.le_refl _)) (GA.one gt))).tuple.mono (by omega) ?_ (Nat.le_refl _)
          simp only [wP]
          omega
        · rw [decide_eq_false h6]
          simp only
          refine ⟨by decide, (ix_seq' (seq_cell (List.getElem?_concat_length ..))).mpr ?_⟩
          have x2 : x % 2 = 0 ∨ x % 2 = 1 := by omega
          have fin : ∀ s : String, (s.toList.all fun c => decide (c.toNat < 128)) = true → (Str.ofString s).length ≤ 8 → Gd (2 * (l + 1) + 1) (wP (l + 1)) 10 (.tuple [.str (Str.ofString s), .tuple ds]) := fun s h1 h2 => by
            refine (GA.cons (gd_lit s h1 h2) (GA.one gt)).tuple.mono (by omega) ?_ (Nat.le_refl _)
            simp only [wP]
            omega
          rcases x2 with e | e
          · rw [e]
            refine ⟨_, rfl, ?_⟩
            simp only [w_fn, w_ret, w_seq, w_sif, w_of, w_trn, w_op, w_snil, w_pass, w_retn, w_asg, w_gnm, w_gsb, w_gtp, w_gcn, w_gn0, w_par, w_aug, w_drop, w_c, w_k, w_lst, w_tup, w_and, w_or, w_not, w_neg, w_ifx, w_tand, w_tor, w_tnot, w_cb, w_ck, w_mt, w_cons, w_nil, w_var, w_chain, w_sl, w_osome, w_onone, Pu.w_rev, w_dct0, w_for, w_iseq, w_irg1, w_lc, w_lc2, List.map_cons, List.map_nil, List.cons_append, List.nil_append, List.getElem?_cons_zero, List.getElem?_cons_succ, List.length_cons, List.length_nil, Option.some.injEq, exists_eq_left', w_some, List.replicate, List.set_cons_zero, List.set_cons_succ, frz_nil, frz_dat, frz_new, frz_new0, ne_ss, list_t, mk_nil, mk1, mk2, mk3, U.dat.injEq, PyData.int.injEq, PyData.bool.injEq, PyData.str.injEq, U.cell.injEq, add_ii, sub_ii, lt_ii, le_ii, gt_ii, ge_ii, eq_ii, ne_ii, eq_tt0, ne_tt0, eq_ds, sl_t, len_t, isi_int, isi_bool, isi_str, isi_tup, abs_i, min_ii, max_ii, int_i, int_b, mod_ii, fdiv_ii, mul_ii, pow_ii, add_ss, add_tt, mul_ti, repr_d, frzU_dat, and_true, true_and, and_assoc, List.cons.injEq, exists_and_left, exists_and_right, exists_eq_left, exists_eq_right, ix_t, ix_s, sl_s, len_s, is_non, Nat.reduceAdd, Nat.reduceSub, sz0, sz1, sz2, sz3, sz4, sz5, sz6, sz7, sz8, sz9, sz10, sz11, sz12, sz13, sz14, sz15, sz16, sz17, sz18, sz19, sz20, sz21, sz22, sz23, sz24, sz25, sz26, sz27, sz28, sz29, sz30]
            exact q _ _ (fin _ (by decide) (by decide)) ((hh6'.same ⟨_, rfl⟩).mono (by omega)) (fr06.trans (Fr.of0 ⟨_, rfl⟩))
          · rw [e]
            refine ⟨_, rfl, ?_⟩
            simp only [w_fn, w_ret, w_seq, w_sif, w_of, w_trn, w_op, w_snil, w_pass, w_retn, w_asg, w_gnm, w_gsb, w_gtp, w_gcn, w_gn0, w_par, w_aug, w_drop, w_c, w_k, w_lst, w_tup, w_and, w_or, w_not, w_neg, w_ifx, w_tand, w_tor, w_tnot, w_cb, w_ck, w_mt, w_cons, w_nil, w_var, w_chain, w_sl, w_osome, w_onone, Pu.w_rev, w_dct0, w_for, w_iseq, w_irg1, w_lc, w_lc2, List.map_cons, List.map_nil, List.cons_append, List.nil_append, List.getElem?_cons_zero, List.getElem?_cons_succ, List.length_cons, List.length_nil, Option.some.injEq, exists_eq_left', w_some, List.replicate, List.set_cons_zero, List.set_cons_succ, frz_nil, frz_dat, frz_new, frz_new0, ne_ss, list_t, mk_nil, mk1, mk2, mk3, U.dat.injEq, PyData.int.injEq, PyData.bool.injEq, PyData.str.injEq, U.cell.injEq, add_ii, sub_ii, lt_ii, le_ii, gt_ii, ge_ii, eq_ii, ne_ii, eq_tt0, ne_tt0, eq_ds, sl_t, len_t, isi_int, isi_bool, isi_str, isi_tup, abs_i, min_ii, max_ii, int_i, int_b, mod_ii, fdiv_ii, mul_ii, pow_ii, add_ss, add_tt, mul_ti, repr_d, frzU_dat, and_true, true_and, and_assoc, List.cons.injEq, exists_and_left, exists_and_right, exists_eq_left, exists_eq_right, ix_t, ix_s, sl_s, len_s, is_non, Nat.reduceAdd, Nat.reduceSub, sz0, sz1, sz2, sz3, sz4, sz5, sz6, sz7, sz8, sz9, sz10, sz11, sz12, sz13, sz14, sz15, sz16, sz17, sz18, sz19, sz20, sz21, sz22, sz23, sz24, sz25, sz26, sz27, sz28, sz29, sz30]
            exact q _ _ (fin _ (by decide) (by decide)) ((hh6'.same ⟨_, rfl⟩).mono (by omega)) (fr06.trans (Fr.of0 ⟨_, rfl⟩))
end Z

namespace Z
open PySem PySem.Spec PyProof.Rows L2 Lw Pu
def actD (a : Str × Nat) : PyData := .tuple [.str a.1, .int a.2]
abbrev actsU (as : List (Str × Nat)) : U := .dat (.tuple (as.map actD))
def PhI (M : Mem) (h n c : Nat) (ws : List Str) (as : List (Str × Nat)) (ph : Int) (k : Nat) (ρ : Pu.Env) (M' : Mem) : Prop := ∃ (ds : List PyData) (y5 y6 y7 y8 y9 : Option U), ρ = [some (.cell h), some (cellsU ws), some (actsU as), some (.dat (.int ph)), some (.cell c), y5, y6, y7, y8, y9] ∧ M'[c]? = some (.lst true (ds.map .dat)) ∧ ds.length = k ∧ Hand M' h (n + 200 * k) ∧ Fr h M M'
def PhJ (M : Mem) (h n c b : Nat) (ws : List Str) (as : List (Str × Nat)) (ph : Int) (w : Str) (cn : Nat) (ds : List PyData) (k : Nat) (ρ : Pu.Env) (M' : Mem) : Prop := ∃ (es : List PyData) (y9 : Option U), ρ = [some (.cell h), some (cellsU ws), some (actsU as), some (.dat (.int ph)), some (.cell c), some (.dat (.str w)), some (.dat (.int cn)), some (.cell b), some (.dat .none), y9] ∧ M'[c]? = some (.lst true (ds.map .dat)) ∧ M'[b]? = some (.lst true (es.map .dat)) ∧ es.length = k ∧ Hand M' h (n + 36 * k) ∧ Fr h M M'
theorem phase_spec {M : Mem} {h n : Nat} {ws : List Str} {as : List (Str × Nat)} {ph : Nat} {Q : U → Mem → Prop} (hws : ∀ w ∈ ws, Nm w) (hwl : ws.length ≤ 3) (has : ∀ a ∈ as, a.2 ≤ 2) (hal : as.length ≤ 4) (hph : 1 ≤ ph) (hph2 : ph ≤ 10) (hh : Hand M h n) (hn : n + 800 ≤ 800000)
    (q : ∀ ds M', Hand M' h (n + 800) → Fr h M M' → Q (.dat (.tuple ds)) M') : W (m__law_phase [.cell h, cellsU ws, actsU as, .dat (.int ph)] M) Q := by
  have hlt := hh.lt
  have big : ∀ z : Nat, z ≤ 1000 → z < sizeLine := fun z hz => Nat.lt_of_le_of_lt hz (by decide)
  simp only [m__law_phase, w_fn, w_ret, w_seq, w_sif, w_of, w_trn, w_op, w_snil, w_pass, w_retn, w_asg, w_gnm, w_gsb, w_gtp, w_gcn, w_gn0, w_par, w_aug, w_drop, w_c, w_k, w_lst, w_tup, w_and, w_or, w_not, w_neg, w_ifx, w_tand, w_tor, w_tnot, w_cb, w_ck, w_mt, w_cons, w_nil, w_var, w_chain, w_sl, w_osome, w_onone, Pu.w_rev, w_dct0, w_for, w_iseq, w_irg1, w_lc, w_lc2, List.map_cons, List.map_nil, List.cons_append, List.nil_append, List.getElem?_cons_zero, List.getElem?_cons_succ, List.length_cons, List.length_nil, Option.some.injEq, exists_eq_left', w_some, List.replicate, List.set_cons_zero, List.set_cons_succ, frz_nil, frz_dat, frz_new, frz_new0, ne_ss, list_t, mk_nil, mk1, mk2, mk3, U.dat.injEq, PyData.int.injEq, PyData.bool.injEq, PyData.str.injEq, U.cell.injEq, add_ii, sub_ii, lt_ii, le_ii, gt_ii, ge_ii, eq_ii, ne_ii, eq_tt0, ne_tt0, eq_ds, sl_t, len_t, isi_int, isi_bool, isi_str, isi_tup, abs_i, min_ii, max_ii, int_i, int_b, mod_ii, fdiv_ii, mul_ii, pow_ii, add_ss, add_tt, mul_ti, repr_d, frzU_dat, and_true, true_and, and_assoc, List.cons.injEq, exists_and_left, exists_and_right, exists_eq_left, exists_eq_right, ix_t, ix_s, sl_s, len_s, is_non, Nat.reduceAdd, Nat.reduceSub, sz0, sz1, sz2, sz3, sz4, sz5, sz6, sz7, sz8, sz9, sz10, sz11, sz12, sz13, sz14, sz15, sz16, sz17, sz18, sz19, sz20, sz21, sz22, sz23, sz24, sz25, sz26, sz27, sz28, sz29, sz30]
  refine ⟨_, rfl, ?_⟩
  refine for_inv (PhI M h n M.length ws as ph) _ 0 _ _ ⟨[], none, none, none, none, none, rfl, List.getElem?_concat_length .., rfl, hh.same ⟨_, rfl⟩, Fr.of0 ⟨_, rfl⟩⟩ ?_ ?_
  · intro i u ρ M1 hi hI
    obtain ⟨ds, y5, y6, y7, y8, y9, rfl, hc1, hl1, hh1, fr1⟩ := hI
    have hi1 : i < as.length := by
      have := (List.getElem?_eq_some_iff.mp hi).1
      simpa using this
    obtain ⟨a, ha, rfl⟩ : ∃ a, a ∈ as ∧ u = .dat (actD a) := by
      have := List.mem_of_getElem? hi
      rw [List.map_map] at this
      obtain ⟨a, h1, h2⟩ := List.mem_map.mp this
      exact ⟨a, h1, h2.symm⟩
    have ha2 := has a ha
    have l1 := fr1.len
    have lc1 := (List.getElem?_eq_some_iff.mp hc1).1
    have hcM : M.length ≠ h := by omega
    simp only [w_fn, w_ret, w_seq, w_sif, w_of, w_trn, w_op, w_snil, w_pass, w_retn, w_asg, w_gnm, w_gsb, w_gtp, w_gcn, w_gn0, w_par, w_aug, w_drop, w_c, w_k, w_lst, w_tup, w_and, w_or, w_not, w_neg, w_ifx, w_tand, w_tor, w_tnot, w_cb, w_ck, w_mt, w_cons, w_nil, w_var, w_chain, w_sl, w_osome, w_onone, Pu.w_rev, w_dct0, w_for, w_iseq, w_irg1, w_lc, w_lc2, List.map_cons, List.map_nil, List.cons_append, List.nil_append, List.getElem?_cons_zero, List.getElem?_cons_succ, List.length_cons, List.length_nil, Option.some.injEq, exists_eq_left', w_some, List.replicate, List.set_cons_zero, List.set_cons_succ, frz_nil, frz_dat, frz_new, frz_new0, ne_ss, list_t, mk_nil, mk1, mk2, mk3, U.dat.injEq, PyData.int.injEq, PyData.bool.injEq, PyData.str.injEq, U.cell.injEq, add_ii, sub_ii, lt_ii, le_ii, gt_ii, ge_ii, eq_ii, ne_ii, eq_tt0, ne_tt0, eq_ds, sl_t, len_t, isi_int, isi_bool, isi_str, isi_tup, abs_i, min_ii, max_ii, int_i, int_b, mod_ii, fdiv_ii, mul_ii, pow_ii, add_ss, add_tt, mul_ti, repr_d, frzU_dat, and_true, true_and, and_assoc, List.cons.injEq, exists_and_left, exists_and_right, exists_eq_left, exists_eq_right, ix_t, ix_s, sl_s, len_s, is_non, Nat.reduceAdd, Nat.reduceSub, sz0, sz1, sz2, sz3, sz4, sz5, sz6, sz7, sz8, sz9, sz10, sz11, sz12, sz13, sz14, sz15, sz16, sz17, sz18, sz19, sz20, sz21, sz22, sz23, sz24, sz25, sz26, sz27, sz28, sz29, sz30]
    refine ⟨[.dat (.str a.1), .dat (.int a.2)], rfl, rfl, ?_⟩
    simp only [w_fn, w_ret, w_seq, w_sif, w_of, w_trn, w_op, w_snil, w_pass, w_retn, w_asg, w_gnm, w_gsb, w_gtp, w_gcn, w_gn0, w_par, w_aug, w_drop, w_c, w_k, w_lst, w_tup, w_and, w_or, w_not, w_neg, w_ifx, w_tand, w_tor, w_tnot, w_cb, w_ck, w_mt, w_cons, w_nil, w_var, w_chain, w_sl, w_osome, w_onone, Pu.w_rev, w_dct0, w_for, w_iseq, w_irg1, w_lc, w_lc2, List.map_cons, List.map_nil, List.cons_append, List.nil_append, List.getElem?_cons_zero, List.getElem?_cons_succ, List.length_cons, List.length_nil, Option.some.injEq, exists_eq_left', w_some, List.replicate, List.set_cons_zero, List.set_cons_succ, frz_nil, frz_dat, frz_new, frz_new0, ne_ss, list_t, mk_nil, mk1, mk2, mk3, U.dat.injEq, PyData.int.injEq, PyData.bool.injEq, PyData.str.injEq, U.cell.injEq, add_ii, sub_ii, lt_ii, le_ii, gt_ii, ge_ii, eq_ii, ne_ii, eq_tt0, ne_tt0, eq_ds, sl_t, len_t, isi_int, isi_bool, isi_str, isi_tup, abs_i, min_ii, max_ii, int_i, int_b, mod_ii, fdiv_ii, mul_ii, pow_ii, add_ss, add_tt, mul_ti, repr_d, frzU_dat, and_true, true_and, and_assoc, List.cons.injEq, exists_and_left, exists_and_right, exists_eq_left, exists_eq_right, ix_t, ix_s, sl_s, len_s, is_non, Nat.reduceAdd, Nat.reduceSub, sz0, sz1, sz2, sz3, sz4, sz5, sz6, sz7, sz8, sz9, sz10, sz11, sz12, sz13, sz14, sz15, sz16, sz17, sz18, sz19, sz20, sz21, sz22, sz23, sz24, sz25, sz26, sz27, sz28, sz29, sz30]
    refine ⟨_, rfl, ?_⟩
    refine for_inv (PhJ M h (n + 200 * i) M.length M1.length ws as ph a.1 a.2 ds) _ 0 _ _ ⟨[], y9, rfl, get_app hc1, List.getElem?_concat_length .., rfl, (hh1.same ⟨_, rfl⟩).mono (by omega), fr1.trans (Fr.of0 ⟨_, rfl⟩)⟩ ?_ ?_
    · intro j u ρ M2 hj hJ
      obtain ⟨es, z9, rfl, hc2, hb2, hl2, hh2, fr2⟩ := hJ
      have hj3 : j < 3 := by
        have := (List.getElem?_eq_some_iff.mp hj).1
        simp at this
        omega
      have hbh : M1.length ≠ h := by omega
      have hbc : M1.length ≠ M.length := by omega
      simp only [w_fn, w_ret, w_seq, w_sif, w_of, w_trn, w_op, w_snil, w_pass, w_retn, w_asg, w_gnm, w_gsb, w_gtp, w_gcn, w_gn0, w_par, w_aug, w_drop, w_c, w_k, w_lst, w_tup, w_and, w_or, w_not, w_neg, w_ifx, w_tand, w_tor, w_tnot, w_cb, w_ck, w_mt, w_cons, w_nil, w_var, w_chain, w_sl, w_osome, w_onone, Pu.w_rev, w_dct0, w_for, w_iseq, w_irg1, w_lc, w_lc2, List.map_cons, List.map_nil, List.cons_append, List.nil_append, List.getElem?_cons_zero, List.getElem?_cons_succ, List.length_cons, List.length_nil, Option.some.injEq, exists_eq_left', w_some, List.replicate, List.set_cons_zero, List.set_cons_succ, frz_nil, frz_dat, frz_new, frz_new0, ne_ss, list_t, mk_nil, mk1, mk2, mk3, U.dat.injEq, PyData.int.injEq, PyData.bool.injEq, PyData.str.injEq, U.cell.injEq, add_ii, sub_ii, lt_ii, le_ii, gt_ii, ge_ii, eq_ii, ne_ii, eq_tt0, ne_tt0, eq_ds, sl_t, len_t, isi_int, isi_bool, isi_str, isi_tup, abs_i, min_ii, max_ii, int_i, int_b, mod_ii, fdiv_ii, mul_ii, pow_ii, add_ss, add_tt, mul_ti, repr_d, frzU_dat, and_true, true_and, and_assoc, List.cons.injEq, exists_and_left, exists_and_right, exists_eq_left, exists_eq_right, ix_t, ix_s, sl_s, len_s, is_non, Nat.reduceAdd, Nat.reduceSub, sz0, sz1, sz2, sz3, sz4, sz5, sz6, sz7, sz8, sz9, sz10, sz11, sz12, sz13, sz14, sz15, sz16, sz17, sz18, sz19, sz20, sz21, sz22, sz23, sz24, sz25, sz26, sz27, sz28, sz29, sz30]
      refine ⟨ty_l hb2, ?_⟩
      have fin : ∀ (d : PyData) (M4 : Mem), Hand M4 h (n + 200 * i + 36 * (0 + j + 1)) → Fr h M2 M4 → W (appendF (.cell M1.length) [.dat d] M4) fun _ M5 => Wt (M1 ++ [.lst true []]) (cellsOf (cellsU ws)) M5 ∧ PhJ M h (n + 200 * i) M.length M1.length ws as ph a.1 a.2 ds (0 + j + 1) [some (.cell h), some (cellsU ws), some (actsU as), some (.dat (.int ph)), some (.cell M.length), some (.dat (.str a.1)), some (.dat (.int a.2)), some (.cell M1.length), some (.dat .none), some u] M5 := by
        intro d M4 h4 fr4
        have hb4 := fr4.at hb2 hbh
        rw [append_d hb4 (by rw [List.length_map]; exact big _ (by omega)), w_some]
        refine ⟨fun c hc => (by cases hc), es ++ [d], _, rfl, ?_, ?_, by simp [hl2], h4.set hbh, (fr2.trans fr4).setNew (by omega)⟩
        · rw [List.getElem?_set_ne hbc]
          exact fr4.at hc2 hcM
        · rw [get_set hb4, List.map_append]
          rfl
      refine take_spec hh2 (by omega) (by decide) (by decide) fun x M3 x0 x1 hh3 fr3 => ?_
      try simp only [w_fn, w_ret, w_seq, w_sif, w_of, w_trn, w_op, w_snil, w_pass, w_retn, w_asg, w_gnm, w_gsb, w_gtp, w_gcn, w_gn0, w_par, w_aug, w_drop, w_c, w_k, w_lst, w_tup, w_and, w_or, w_not, w_neg, w_ifx, w_tand, w_tor, w_tnot, w_cb, w_ck, w_mt, w_cons, w_nil, w_var, w_chain, w_sl, w_osome, w_onone, Pu.w_rev, w_dct0, w_for, w_iseq, w_irg1, w_lc, w_lc2, List.map_cons, List.map_nil, List.cons_append, List.nil_append, List.getElem?_cons_zero, List.getElem?_cons_succ, List.length_cons, List.length_nil, Option.some.injEq, exists_eq_left', w_some, List.replicate, List.set_cons_zero, List.set_cons_succ, frz_nil, frz_dat, frz_new, frz_new0, ne_ss, list_t, mk_nil, mk1, mk2, mk3, U.dat.injEq, PyData.int.injEq, PyData.bool.injEq, PyData.str.injEq, U.cell.injEq, add_ii, sub_ii, lt_ii, le_ii, gt_ii, ge_ii, eq_ii, ne_ii, eq_tt0, ne_tt0, eq_ds, sl_t, len_t, isi_int, isi_bool, isi_str, isi_tup, abs_i, min_ii, max_ii, int_i, int_b, mod_ii, fdiv_ii, mul_ii, pow_ii, add_ss, add_tt, mul_ti, repr_d, frzU_dat, and_true, true_and, and_assoc, List.cons.injEq, exists_and_left, exists_and_right, exists_eq_left, exists_eq_right, ix_t, ix_s, sl_s, len_s, is_non, Nat.reduceAdd, Nat.reduceSub, sz0, sz1, sz2, sz3, sz4, sz5, sz6, sz7, sz8, sz9, sz10, sz11, sz12, sz13, sz14, sz15, sz16, sz17, sz18, sz19, sz20, sz21, sz22, sz23, sz24, sz25, sz26, sz27, sz28, sz29, sz30]
      by_cases hx : x = 0
      · rw [decide_eq_true hx]
        simp only
        exact fin _ M3 (hh3.mono (by omega)) fr3
      · rw [decide_eq_false hx]
        simp only
        refine pick_spec hws (by omega) ha2 4 2 _ M3 _ (by decide) hh3 (by simp only [pD]; omega) fun d M4 g4 hh4 fr4 => ?_
        exact fin d M4 (hh4.mono (by simp only [pD]; omega)) (fr3.trans fr4)
    · intro ρ M2 hJ
      obtain ⟨es, z9, rfl, hc2, hb2, hl2, hh2, fr2⟩ := hJ
      simp only [List.length_map] at hl2 hh2
      have hbh : M1.length ≠ h := by omega
      have hh2' : Hand M2 h (n + 200 * i + 108) := hh2.mono (by omega)
      have fin : ∀ (t : PyData) (M4 : Mem), Hand M4 h (n + 200 * i + 150) → Fr h M2 M4 → W (sDrop (eMt "list" appendF (eVar 4) (aCons (eTup (aCons (eCB m__law_take (aCons (eVar 0) (aCons (eVar 3) aNil))) (aCons (eCB tupleF (aCons (eVar 7) aNil)) (aCons (eVar 8) aNil)))) aNil)) [some (.cell h), some (cellsU ws), some (actsU as), some (.dat (.int ph)), some (.cell M.length), some (.dat (.str a.1)), some (.dat (.int a.2)), some (.cell M1.length), some (.dat t), z9] M4) fun o M5 => match o with
          | .nx ρ2 => Wt (M ++ [.lst true []]) (cellsOf (actsU as)) M5 ∧ PhI M h n M.length ws as ph (0 + i + 1) ρ2 M5
          | .ct ρ2 => Wt (M ++ [.lst true []]) (cellsOf (actsU as)) M5 ∧ PhI M h n M.length ws as ph (0 + i + 1) ρ2 M5
          | .bk ρ2 => False
          | .rt v => False := by
        intro t M4 h4 fr4
        have hc4 := fr4.at hc2 hcM
        have hb4 := fr4.at hb2 hbh
        simp only [w_fn, w_ret, w_seq, w_sif, w_of, w_trn, w_op, w_snil, w_pass, w_retn, w_asg, w_gnm, w_gsb, w_gtp, w_gcn, w_gn0, w_par, w_aug, w_drop, w_c, w_k, w_lst, w_tup, w_and, w_or, w_not, w_neg, w_ifx, w_tand, w_tor, w_tnot, w_cb, w_ck, w_mt, w_cons, w_nil, w_var, w_chain, w_sl, w_osome, w_onone, Pu.w_rev, w_dct0, w_for, w_iseq, w_irg1, w_lc, w_lc2, List.map_cons, List.map_nil, List.cons_append, List.nil_append, List.getElem?_cons_zero, List.getElem?_cons_succ, List.length_cons, List.length_nil, Option.some.injEq, exists_eq_left', w_some, List.replicate, List.set_cons_zero, List.set_cons_succ, frz_nil, frz_dat, frz_new, frz_new0, ne_ss, list_t, mk_nil, mk1, mk2, mk3, U.dat.injEq, PyData.int.injEq, PyData.bool.injEq, PyData.str.injEq, U.cell.injEq, add_ii, sub_ii, lt_ii, le_ii, gt_ii, ge_ii, eq_ii, ne_ii, eq_tt0, ne_tt0, eq_ds, sl_t, len_t, isi_int, isi_bool, isi_str, isi_tup, abs_i, min_ii, max_ii, int_i, int_b, mod_ii, fdiv_ii, mul_ii, pow_ii, add_ss, add_tt, mul_ti, repr_d, frzU_dat, and_true, true_and, and_assoc, List.cons.injEq, exists_and_left, exists_and_right, exists_eq_left, exists_eq_right, ix_t, ix_s, sl_s, len_s, is_non, Nat.reduceAdd, Nat.reduceSub, sz0, sz1, sz2, sz3, sz4, sz5, sz6, sz7, sz8, sz9, sz10, sz11, sz12, sz13, sz14, sz15, sz16, sz17, sz18, sz19, sz20, sz21, sz22, sz23, sz24, sz25, sz26, sz27, sz28, sz29, sz30]
        refine ⟨ty_l hc4, ?_⟩
        refine take_spec h4 (by omega) (by omega) (by omega) fun x M5 x0 x1 hh5 fr5 => ?_
        rw [tup_c (fr5.at hb4 hbh), w_some]
        try simp only [w_fn, w_ret, w_seq, w_sif, w_of, w_trn, w_op, w_snil, w_pass, w_retn, w_asg, w_gnm, w_gsb, w_gtp, w_gcn, w_gn0, w_par, w_aug, w_drop, w_c, w_k, w_lst, w_tup, w_and, w_or, w_not, w_neg, w_ifx, w_tand, w_tor, w_tnot, w_cb, w_ck, w_mt, w_cons, w_nil, w_var, w_chain, w_sl, w_osome, w_onone, Pu.w_rev, w_dct0, w_for, w_iseq, w_irg1, w_lc, w_lc2, List.map_cons, List.map_nil, List.cons_append, List.nil_append, List.getElem?_cons_zero, List.getElem?_cons_succ, List.length_cons, List.length_nil, Option.some.injEq, exists_eq_left', w_some, List.replicate, List.set_cons_zero, List.set_cons_succ, frz_nil, frz_dat, frz_new, frz_new0, ne_ss, list_t, mk_nil, mk1, mk2, mk3, U.dat.injEq, PyData.int.injEq, PyData.bool.injEq, PyData.str.injEq, U.cell.injEq, add_ii, sub_ii, lt_ii, le_ii, gt_ii, ge_ii, eq_ii, ne_ii, eq_tt0, ne_tt0, eq_ds, sl_t, len_t, isi_int, isi_bool, isi_str, isi_tup, abs_i, min_ii, max_ii, int_i, int_b, mod_ii, fdiv_ii, mul_ii, pow_ii, add_ss, add_tt, mul_ti, repr_d, frzU_dat, and_true, true_and, and_assoc, List.cons.injEq, exists_and_left, exists_and_right, exists_eq_left, exists_eq_right, ix_t, ix_s, sl_s, len_s, is_non, Nat.reduceAdd, Nat.reduceSub, sz0, sz1, sz2, sz3, sz4, sz5, sz6, sz7, sz8, sz9, sz10, sz11, sz12, sz13, sz14, sz15, sz16, sz17, sz18, sz19, sz20, sz21, sz22, sz23, sz24, sz25, sz26, sz27, sz28, sz29, sz30]
        rw [append_d (fr5.at hc4 hcM) (by rw [List.length_map]; exact big _ (by omega)), w_some]
        refine ⟨fun c hc => (by cases hc), ds ++ [.tuple [.int x, .tuple es, t]], _, _, _, _, _, rfl, ?_, by simp [hl1], (hh5.set hcM).mono (by omega), ((fr2.trans fr4).trans fr5).setNew (Nat.le_refl _)⟩
        rw [get_set (fr5.at hc4 hcM), List.map_append]
        rfl
      simp only [w_fn, w_ret, w_seq, w_sif, w_of, w_trn, w_op, w_snil, w_pass, w_retn, w_asg, w_gnm, w_gsb, w_gtp, w_gcn, w_gn0, w_par, w_aug, w_drop, w_c, w_k, w_lst, w_tup, w_and, w_or, w_not, w_neg, w_ifx, w_tand, w_tor, w_tnot, w_cb, w_ck, w_mt, w_cons, w_nil, w_var, w_chain, w_sl, w_osome, w_onone, Pu.w_rev, w_dct0, w_for, w_iseq, w_irg1, w_lc, w_lc2, List.map_cons, List.map_nil, List.cons_append, List.nil_append, List.getElem?_cons_zero, List.getElem?_cons_succ, List.length_cons, List.length_nil, Option.some.injEq, exists_eq_left', w_some, List.replicate, List.set_cons_zero, List.set_cons_succ, frz_nil, frz_dat, frz_new, frz_new0, ne_ss, list_t, mk_nil, mk1, mk2, mk3, U.dat.injEq, PyData.int.injEq, PyData.bool.injEq, PyData.str.injEq, U.cell.injEq, add_ii, sub_ii, lt_ii, le_ii, gt_ii, ge_ii, eq_ii, ne_ii, eq_tt0, ne_tt0, eq_ds, sl_t, len_t, isi_int, isi_bool, isi_str, isi_tup, abs_i, min_ii, max_ii, int_i, int_b, mod_ii, fdiv_ii, mul_ii, pow_ii, add_ss, add_tt, mul_ti, repr_d, frzU_dat, and_true, true_and, and_assoc, List.cons.injEq, exists_and_left, exists_and_right, exists_eq_left, exists_eq_right, ix_t, ix_s, sl_s, len_s, is_non, Nat.reduceAdd, Nat.reduceSub, sz0, sz1, sz2, sz3, sz4, sz5, sz6, sz7, sz8, sz9, sz10, sz11, sz12, sz13, sz14, sz15, sz16, sz17, sz18, sz19, sz20, sz21, sz22, sz23, sz24, sz25, sz26, sz27, sz28, sz29, sz30]
      refine take_spec hh2' (by omega) (by decide) (by decide) fun x M3 x0 x1 hh3 fr3 => ?_
      try simp only [w_fn, w_ret, w_seq, w_sif, w_of, w_trn, w_op, w_snil, w_pass, w_retn, w_asg, w_gnm, w_gsb, w_gtp, w_gcn, w_gn0, w_par, w_aug, w_drop, w_c, w_k, w_lst, w_tup, w_and, w_or, w_not, w_neg, w_ifx, w_tand, w_tor, w_tnot, w_cb, w_ck, w_mt, w_cons, w_nil, w_var, w_chain, w_sl, w_osome, w_onone, Pu.w_rev, w_dct0, w_for, w_iseq, w_irg1, w_lc, w_lc2, List.map_cons, List.map_nil, List.cons_append, List.nil_append, List.getElem?_cons_zero, List.getElem?_cons_succ, List.length_cons, List.length_nil, Option.some.injEq, exists_eq_left', w_some, List.replicate, List.set_cons_zero, List.set_cons_succ, frz_nil, frz_dat, frz_new, frz_new0, ne_ss, list_t, mk_nil, mk1, mk2, mk3, U.dat.injEq, PyData.int.injEq, PyData.bool.injEq, PyData.str.injEq, U.cell.injEq, add_ii, sub_ii, lt_ii, le_ii, gt_ii, ge_ii, eq_ii, ne_ii, eq_tt0, ne_tt0, eq_ds, sl_t, len_t, isi_int, isi_bool, isi_str, isi_tup, abs_i, min_ii, max_ii, int_i, int_b, mod_ii, fdiv_ii, mul_ii, pow_ii, add_ss, add_tt, mul_ti, repr_d, frzU_dat, and_true, true_and, and_assoc, List.cons.injEq, exists_and_left, exists_and_right, exists_eq_left, exists_eq_right, ix_t, ix_s, sl_s, len_s, is_non, Nat.reduceAdd, Nat.reduceSub, sz0, sz1, sz2, sz3, sz4, sz5, sz6, sz7, sz8, sz9, sz10, sz11, sz12, sz13, sz14, sz15, sz16, sz17, sz18, sz19, sz20, sz21, sz22, sz23, sz24, sz25, sz26, sz27, sz28, sz29, sz30]
      by_cases hx : 0 < x
      · rw [decide_eq_true hx]
        simp only
        refine pick_spec hws (by omega) ha2 4 2 _ M3 _ (by decide) hh3 (by simp only [pD]; omega) fun d M4 g4 hh4 fr4 => ?_
        have z := fin d M4 (hh4.mono (by simp only [pD]; omega)) (fr3.trans fr4)
        simp only [w_fn, w_ret, w_seq, w_sif, w_of, w_trn, w_op, w_snil, w_pass, w_retn, w_asg, w_gnm, w_gsb, w_gtp, w_gcn, w_gn0, w_par, w_aug, w_drop, w_c, w_k, w_lst, w_tup, w_and, w_or, w_not, w_neg, w_ifx, w_tand, w_tor, w_tnot, w_cb, w_ck, w_mt, w_cons, w_nil, w_var, w_chain, w_sl, w_osome, w_onone, Pu.w_rev, w_dct0, w_for, w_iseq, w_irg1, w_lc, w_lc2, List.map_cons, List.map_nil, List.cons_append, List.nil_append, List.getElem?_cons_zero, List.getElem?_cons_succ, List.length_cons, List.length_nil, Option.some.injEq, exists_eq_left', w_some, List.replicate, List.set_cons_zero, List.set_cons_succ, frz_nil, frz_dat, frz_new, frz_new0, ne_ss, list_t, mk_nil, mk1, mk2, mk3, U.dat.injEq, PyData.int.injEq, PyData.bool.injEq, PyData.str.injEq, U.cell.injEq, add_ii, sub_ii, lt_ii, le_ii, gt_ii, ge_ii, eq_ii, ne_ii, eq_tt0, ne_tt0, eq_ds, sl_t, len_t, isi_int, isi_bool, isi_str, isi_tup, abs_i, min_ii, max_ii, int_i, int_b, mod_ii, fdiv_ii, mul_ii, pow_ii, add_ss, add_tt, mul_ti, repr_d, frzU_dat, and_true, true_and, and_assoc, List.cons.injEq, exists_and_left, exists_and_right, exists_eq_left, exists_eq_right, ix_t, ix_s, sl_s, len_s, is_non, Nat.reduceAdd, Nat.reduceSub, sz0, sz1, sz2, sz3, sz4, sz5, sz6, sz7, sz8, sz9, sz10, sz11, sz12, sz13, sz14, sz15, sz16, sz17, sz18, sz19, sz20, sz21, sz22, sz23, sz24, sz25, sz26, sz27, sz28, sz29, sz30] at z
        exact z
      · rw [decide_eq_false hx]
        simp only
        have z := fin .none M3 (hh3.mono (by omega)) fr3
        simp only [w_fn, w_ret, w_seq, w_sif, w_of, w_trn, w_op, w_snil, w_pass, w_retn, w_asg, w_gnm, w_gsb, w_gtp, w_gcn, w_gn0, w_par, w_aug, w_drop, w_c, w_k, w_lst, w_tup, w_and, w_or, w_not, w_neg, w_ifx, w_tand, w_tor, w_tnot, w_cb, w_ck, w_mt, w_cons, w_nil, w_var, w_chain, w_sl, w_osome, w_onone, Pu.w_rev, w_dct0, w_for, w_iseq, w_irg1, w_lc, w_lc2, List.map_cons, List.map_nil, List.cons_append, List.nil_append, List.getElem?_cons_zero, List.getElem?_cons_succ, List.length_cons, List.length_nil, Option.some.injEq, exists_eq_left', w_some, List.replicate, List.set_cons_zero, List.set_cons_succ, frz_nil, frz_dat, frz_new, frz_new0, ne_ss, list_t, mk_nil, mk1, mk2, mk3, U.dat.injEq, PyData.int.injEq, PyData.bool.injEq, PyData.str.injEq, U.cell.injEq, add_ii, sub_ii, lt_ii, le_ii, gt_ii, ge_ii, eq_ii, ne_ii, eq_tt0, ne_tt0, eq_ds, sl_t, len_t, isi_int, isi_bool, isi_str, isi_tup, abs_i, min_ii, max_ii, int_i, int_b, mod_ii, fdiv_ii, mul_ii, pow_ii, add_ss, add_tt, mul_ti, repr_d, frzU_dat, and_true, true_and, and_assoc, List.cons.injEq, exists_and_left, exists_and_right, exists_eq_left, exists_eq_right, ix_t, ix_s, sl_s, len_s, is_non, Nat.reduceAdd, Nat.reduceSub, sz0, sz1, sz2, sz3, sz4, sz5, sz6, sz7, sz8, sz9, sz10, sz11, sz12, sz13, sz14, sz15, sz16, sz17, sz18, sz19, sz20, sz21, sz22, sz23, sz24, sz25, sz26, sz27, sz28, sz29, sz30] at z
        exact z
  · intro ρ M1 hI
    obtain ⟨ds, y5, y6, y7, y8, y9, rfl, hc1, hl1, hh1, fr1⟩ := hI
    simp only [List.length_map] at hl1 hh1
    simp only [w_fn, w_ret, w_seq, w_sif, w_of, w_trn, w_op, w_snil, w_pass, w_retn, w_asg, w_gnm, w_gsb, w_gtp, w_gcn, w_gn0, w_par, w_aug, w_drop, w_c, w_k, w_lst, w_tup, w_and, w_or, w_not, w_neg, w_ifx, w_tand, w_tor, w_tnot, w_cb, w_ck, w_mt, w_cons, w_nil, w_var, w_chain, w_sl, w_osome, w_onone, Pu.w_rev, w_dct0, w_for, w_iseq, w_irg1, w_lc, w_lc2, List.map_cons, List.map_nil, List.cons_append, List.nil_append, List.getElem?_cons_zero, List.getElem?_cons_succ, List.length_cons, List.length_nil, Option.some.injEq, exists_eq_left', w_some, List.replicate, List.set_cons_zero, List.set_cons_succ, frz_nil, frz_dat, frz_new, frz_new0, ne_ss, list_t, mk_nil, mk1, mk2, mk3, U.dat.injEq, PyData.int.injEq, PyData.bool.injEq, PyData.str.injEq, U.cell.injEq, add_ii, sub_ii, lt_ii, le_ii, gt_ii, ge_ii, eq_ii, ne_ii, eq_tt0, ne_tt0, eq_ds, sl_t, len_t, isi_int, isi_bool, isi_str, isi_tup, abs_i, min_ii, max_ii, int_i, int_b, mod_ii, fdiv_ii, mul_ii, pow_ii, add_ss, add_tt, mul_ti, repr_d, frzU_dat, and_true, true_and, and_assoc, List.cons.injEq, exists_and_left, exists_and_right, exists_eq_left, exists_eq_right, ix_t, ix_s, sl_s, len_s, is_non, Nat.reduceAdd, Nat.reduceSub, sz0, sz1, sz2, sz3, sz4, sz5, sz6, sz7, sz8, sz9, sz10, sz11, sz12, sz13, sz14, sz15, sz16, sz17, sz18, sz19, sz20, sz21, sz22, sz23, sz24, sz25, sz26, sz27, sz28, sz29, sz30]
    rw [tup_c hc1, w_some]
    exact q ds M1 (hh1.mono (by omega)) fr1
end Z

namespace Z
open PySem PySem.Spec PyProof.Rows L2 Lw Pu
theorem list_choose {α β : Type} {f : α → β} {P : α → Prop} : ∀ {ds : List β}, (∀ d ∈ ds, ∃ a, d = f a ∧ P a) → ∃ as : List α, ds = as.map f ∧ ∀ a ∈ as, P a
  | [], _ => ⟨[], rfl, fun a h => by cases h⟩
  | d :: ds, h => by
    obtain ⟨as, e, p⟩ := list_choose (ds := ds) fun x hx => h x (List.mem_cons_of_mem _ hx)
    obtain ⟨a, e1, p1⟩ := h d List.mem_cons_self
    refine ⟨a :: as, by rw [e, e1]; rfl, fun x hx => ?_⟩
    rcases List.mem_cons.mp hx with rfl | hx
    · exact p1
    · exact p x hx
theorem all_at {R : U → PyData → Prop} {items : List U} {ds : List PyData} (hl : ds.length = items.length) (r : ∀ (j : Nat) (u : U) (d : PyData), items[j]? = some u → ds[j]? = some d → R u d) : ∀ d ∈ ds, ∃ u, u ∈ items ∧ R u d := by
  intro d hd
  obtain ⟨j, hj, e⟩ := List.getElem_of_mem hd
  have hj2 : j < items.length := by omega
  exact ⟨items[j], List.getElem_mem hj2, r j _ d (List.getElem?_eq_getElem hj2) (by rw [List.getElem?_eq_getElem hj, e])⟩
abbrev progD (ws : List Str) (as : List (Str × Nat)) (phs : List PyData) : PyData := .tuple [.tuple (ws.map .str), .tuple (as.map actD), .tuple phs]
theorem prog_spec {M : Mem} {h n : Nat} {Q : U → Mem → Prop} (hh : Hand M h n) (hn : n + 2600 ≤ 800000)
    (q : ∀ ws as phs M', (∀ w ∈ ws, Nm w) → ws.length ≤ 3 → (∀ a ∈ as, Nm a.1 ∧ a.2 ≤ 2) → 1 ≤ as.length → as.length ≤ 4 → 1 ≤ phs.length → phs.length ≤ 3 → Hand M' h (n + 2600) → Fr h M M' → Q (.dat (progD ws as phs)) M') :
    W (m__law_prog [.cell h, .dat (.int 3), .dat (.int 3), .dat (.int 2)] M) Q := by
  have hlt := hh.lt
  have big : ∀ z : Nat, z ≤ 1000 → z ≤ sizeLine := fun z hz => Nat.le_trans hz (by decide)
  simp only [m__law_prog, w_fn, w_ret, w_seq, w_sif, w_of, w_trn, w_op, w_snil, w_pass, w_retn, w_asg, w_gnm, w_gsb, w_gtp, w_gcn, w_gn0, w_par, w_aug, w_drop, w_c, w_k, w_lst, w_tup, w_and, w_or, w_not, w_neg, w_ifx, w_tand, w_tor, w_tnot, w_cb, w_ck, w_mt, w_cons, w_nil, w_var, w_chain, w_sl, w_osome, w_onone, Pu.w_rev, w_dct0, w_for, w_iseq, w_irg1, w_lc, w_lc2, List.map_cons, List.map_nil, List.cons_append, List.nil_append, List.getElem?_cons_zero, List.getElem?_cons_succ, List.length_cons, List.length_nil, Option.some.injEq, exists_eq_left', w_some, List.replicate, List.set_cons_zero, List.set_cons_succ, frz_nil, frz_dat, frz_new, frz_new0, ne_ss, list_t, mk_nil, mk1, mk2, mk3, U.dat.injEq, PyData.int.injEq, PyData.bool.injEq, PyData.str.injEq, U.cell.injEq, add_ii, sub_ii, lt_ii, le_ii, gt_ii, ge_ii, eq_ii, ne_ii, eq_tt0, ne_tt0, eq_ds, sl_t, len_t, isi_int, isi_bool, isi_str, isi_tup, abs_i, min_ii, max_ii, int_i, int_b, mod_ii, fdiv_ii, mul_ii, pow_ii, add_ss, add_tt, mul_ti, repr_d, frzU_dat, and_true, true_and, and_assoc, List.cons.injEq, exists_and_left, exists_and_right, exists_eq_left, exists_eq_right, ix_t, ix_s, sl_s, len_s, is_non, Nat.reduceAdd, Nat.reduceSub, sz0, sz1, sz2, sz3, sz4, sz5, sz6, sz7, sz8, sz9, sz10, sz11, sz12, sz13, sz14, sz15, sz16, sz17, sz18, sz19, sz20, sz21, sz22, sz23, sz24, sz25, sz26, sz27, sz28, sz29, sz30]
  rw [show (3 : Int) + 4 = ((7 : Nat) : Int) from rfl]
  refine names_spec hh (by omega) (by decide) fun c ws M1 hc1 hl1 hw1 hh1 fr1 => ?_
  have hlt1 := hh1.lt
  have hch : c ≠ h := by
    intro e
    subst e
    obtain ⟨g, m, x, e1, _⟩ := hh1
    rw [hc1] at e1
    unfold namesU at e1
    have e2 := congrArg (fun o => match o with | some (Cell.lst _ us) => us.length | _ => 0) e1
    simp [hl1] at e2
  try simp only [w_fn, w_ret, w_seq, w_sif, w_of, w_trn, w_op, w_snil, w_pass, w_retn, w_asg, w_gnm, w_gsb, w_gtp, w_gcn, w_gn0, w_par, w_aug, w_drop, w_c, w_k, w_lst, w_tup, w_and, w_or, w_not, w_neg, w_ifx, w_tand, w_tor, w_tnot, w_cb, w_ck, w_mt, w_cons, w_nil, w_var, w_chain, w_sl, w_osome, w_onone, Pu.w_rev, w_dct0, w_for, w_iseq, w_irg1, w_lc, w_lc2, List.map_cons, List.map_nil, List.cons_append, List.nil_append, List.getElem?_cons_zero, List.getElem?_cons_succ, List.length_cons, List.length_nil, Option.some.injEq, exists_eq_left', w_some, List.replicate, List.set_cons_zero, List.set_cons_succ, frz_nil, frz_dat, frz_new, frz_new0, ne_ss, list_t, mk_nil, mk1, mk2, mk3, U.dat.injEq, PyData.int.injEq, PyData.bool.injEq, PyData.str.injEq, U.cell.injEq, add_ii, sub_ii, lt_ii, le_ii, gt_ii, ge_ii, eq_ii, ne_ii, eq_tt0, ne_tt0, eq_ds, sl_t, len_t, isi_int, isi_bool, isi_str, isi_tup, abs_i, min_ii, max_ii, int_i, int_b, mod_ii, fdiv_ii, mul_ii, pow_ii, add_ss, add_tt, mul_ti, repr_d, frzU_dat, and_true, true_and, and_assoc, List.cons.injEq, exists_and_left, exists_and_right, exists_eq_left, exists_eq_right, ix_t, ix_s, sl_s, len_s, is_non, Nat.reduceAdd, Nat.reduceSub, sz0, sz1, sz2, sz3, sz4, sz5, sz6, sz7, sz8, sz9, sz10, sz11, sz12, sz13, sz14, sz15, sz16, sz17, sz18, sz19, sz20, sz21, sz22, sz23, sz24, sz25, sz26, sz27, sz28, sz29, sz30]
  rw [show (3 : Int) + 1 = 4 from rfl]
  refine take_spec hh1 (by omega) (by decide) (by decide) fun x M2 x0 x1 hh2 fr2 => ?_
  have hc2 := fr2.at hc1 hch
  try simp only [w_fn, w_ret, w_seq, w_sif, w_of, w_trn, w_op, w_snil, w_pass, w_retn, w_asg, w_gnm, w_gsb, w_gtp, w_gcn, w_gn0, w_par, w_aug, w_drop, w_c, w_k, w_lst, w_tup, w_and, w_or, w_not, w_neg, w_ifx, w_tand, w_tor, w_tnot, w_cb, w_ck, w_mt, w_cons, w_nil, w_var, w_chain, w_sl, w_osome, w_onone, Pu.w_rev, w_dct0, w_for, w_iseq, w_irg1, w_lc, w_lc2, List.map_cons, List.map_nil, List.cons_append, List.nil_append, List.getElem?_cons_zero, List.getElem?_cons_succ, List.length_cons, List.length_nil, Option.some.injEq, exists_eq_left', w_some, List.replicate, List.set_cons_zero, List.set_cons_succ, frz_nil, frz_dat, frz_new, frz_new0, ne_ss, list_t, mk_nil, mk1, mk2, mk3, U.dat.injEq, PyData.int.injEq, PyData.bool.injEq, PyData.str.injEq, U.cell.injEq, add_ii, sub_ii, lt_ii, le_ii, gt_ii, ge_ii, eq_ii, ne_ii, eq_tt0, ne_tt0, eq_ds, sl_t, len_t, isi_int, isi_bool, isi_str, isi_tup, abs_i, min_ii, max_ii, int_i, int_b, mod_ii, fdiv_ii, mul_ii, pow_ii, add_ss, add_tt, mul_ti, repr_d, frzU_dat, and_true, true_and, and_assoc, List.cons.injEq, exists_and_left, exists_and_right, exists_eq_left, exists_eq_right, ix_t, ix_s, sl_s, len_s, is_non, Nat.reduceAdd, Nat.reduceSub, sz0, sz1, sz2, sz3, sz4, sz5, sz6, sz7, sz8, sz9, sz10, sz11, sz12, sz13, sz14, sz15, sz16, sz17, sz18, sz19, sz20, sz21, sz22, sz23, sz24, sz25, sz26, sz27, sz28, sz29, sz30]
  rw [sl_c hc2, w_some]
  obtain ⟨k, hk⟩ : ∃ k : Nat, x = k := ⟨x.toNat, by omega⟩
  subst hk
  have ecut : cutU (namesU ws) none (some (k : Int)) = ((ws.take k).map PyData.str).map .dat := by
    have e1 : namesU ws = (ws.map PyData.str).map .dat := by unfold namesU; rw [List.map_map]; rfl
    rw [e1, cutU_map, cut_take, ← List.map_take]
  rw [ecut, tup_c (List.getElem?_concat_length ..), w_some]
  have hws : ∀ w ∈ ws.take k, Nm w := fun w hw => hw1 w (List.mem_of_mem_take hw)
  have hwl : (ws.take k).length ≤ 3 := by rw [List.length_take]; omega
  generalize ws.take k = rs at hws hwl
  have hh3 : Hand (M2 ++ [.lst false ((rs.map PyData.str).map .dat)]) h (n + 13) := (hh2.same ⟨_, rfl⟩).mono (by omega)
  have hc3 : (M2 ++ [Cell.lst false ((rs.map PyData.str).map .dat)])[c]? = some (.lst true (namesU ws)) := get_app hc2
  have fr3 : Fr h M (M2 ++ [.lst false ((rs.map PyData.str).map .dat)]) := (fr1.trans fr2).trans (Fr.of0 ⟨_, rfl⟩)
  generalize M2 ++ [Cell.lst false ((rs.map PyData.str).map .dat)] = M3 at hh3 hc3 fr3
  refine take_spec hh3 (by omega) (by decide) (by decide) fun y M4 y0 y1 hh4 fr4 => ?_
  have hc4 := fr4.at hc3 hch
  obtain ⟨ph, hph⟩ : ∃ k : Nat, 1 + y = k := ⟨(1 + y).toNat, by omega⟩
  try simp only [w_fn, w_ret, w_seq, w_sif, w_of, w_trn, w_op, w_snil, w_pass, w_retn, w_asg, w_gnm, w_gsb, w_gtp, w_gcn, w_gn0, w_par, w_aug, w_drop, w_c, w_k, w_lst, w_tup, w_and, w_or, w_not, w_neg, w_ifx, w_tand, w_tor, w_tnot, w_cb, w_ck, w_mt, w_cons, w_nil, w_var, w_chain, w_sl, w_osome, w_onone, Pu.w_rev, w_dct0, w_for, w_iseq, w_irg1, w_lc, w_lc2, List.map_cons, List.map_nil, List.cons_append, List.nil_append, List.getElem?_cons_zero, List.getElem?_cons_succ, List.length_cons, List.length_nil, Option.some.injEq, exists_eq_left', w_some, List.replicate, List.set_cons_zero, List.set_cons_succ, frz_nil, frz_dat, frz_new, frz_new0, ne_ss, list_t, mk_nil, mk1, mk2, mk3, U.dat.injEq, PyData.int.injEq, PyData.bool.injEq, PyData.str.injEq, U.cell.injEq, add_ii, sub_ii, lt_ii, le_ii, gt_ii, ge_ii, eq_ii, ne_ii, eq_tt0, ne_tt0, eq_ds, sl_t, len_t, isi_int, isi_bool, isi_str, isi_tup, abs_i, min_ii, max_ii, int_i, int_b, mod_ii, fdiv_ii, mul_ii, pow_ii, add_ss, add_tt, mul_ti, repr_d, frzU_dat, and_true, true_and, and_assoc, List.cons.injEq, exists_and_left, exists_and_right, exists_eq_left, exists_eq_right, ix_t, ix_s, sl_s, len_s, is_non, Nat.reduceAdd, Nat.reduceSub, sz0, sz1, sz2, sz3, sz4, sz5, sz6, sz7, sz8, sz9, sz10, sz11, sz12, sz13, sz14, sz15, sz16, sz17, sz18, sz19, sz20, sz21, sz22, sz23, sz24, sz25, sz26, sz27, sz28, sz29, sz30]
  refine ⟨[.dat (.tuple (rs.map .str)), .dat (.int (1 + y))], rfl, rfl, ?_⟩
  try simp only [w_fn, w_ret, w_seq, w_sif, w_of, w_trn, w_op, w_snil, w_pass, w_retn, w_asg, w_gnm, w_gsb, w_gtp, w_gcn, w_gn0, w_par, w_aug, w_drop, w_c, w_k, w_lst, w_tup, w_and, w_or, w_not, w_neg, w_ifx, w_tand, w_tor, w_tnot, w_cb, w_ck, w_mt, w_cons, w_nil, w_var, w_chain, w_sl, w_osome, w_onone, Pu.w_rev, w_dct0, w_for, w_iseq, w_irg1, w_lc, w_lc2, List.map_cons, List.map_nil, List.cons_append, List.nil_append, List.getElem?_cons_zero, List.getElem?_cons_succ, List.length_cons, List.length_nil, Option.some.injEq, exists_eq_left', w_some, List.replicate, List.set_cons_zero, List.set_cons_succ, frz_nil, frz_dat, frz_new, frz_new0, ne_ss, list_t, mk_nil, mk1, mk2, mk3, U.dat.injEq, PyData.int.injEq, PyData.bool.injEq, PyData.str.injEq, U.cell.injEq, add_ii, sub_ii, lt_ii, le_ii, gt_ii, ge_ii, eq_ii, ne_ii, eq_tt0, ne_tt0, eq_ds, sl_t, len_t, isi_int, isi_bool, isi_str, isi_tup, abs_i, min_ii, max_ii, int_i, int_b, mod_ii, fdiv_ii, mul_ii, pow_ii, add_ss, add_tt, mul_ti, repr_d, frzU_dat, and_true, true_and, and_assoc, List.cons.injEq, exists_and_left, exists_and_right, exists_eq_left, exists_eq_right, ix_t, ix_s, sl_s, len_s, is_non, Nat.reduceAdd, Nat.reduceSub, sz0, sz1, sz2, sz3, sz4, sz5, sz6, sz7, sz8, sz9, sz10, sz11, sz12, sz13, sz14, sz15, sz16, sz17, sz18, sz19, sz20, sz21, sz22, sz23, sz24, sz25, sz26, sz27, sz28, sz29, sz30]
  rw [hph]
  refine take_spec hh4 (by omega) (by decide) (by decide) fun z M5 z0 z1 hh5 fr5 => ?_
  have hc5 := fr5.at hc4 hch
  have lc5 := (List.getElem?_eq_some_iff.mp hc5).1
  obtain ⟨ac, hac⟩ : ∃ k : Nat, 1 + z = k := ⟨(1 + z).toNat, by omega⟩
  try simp only [w_fn, w_ret, w_seq, w_sif, w_of, w_trn, w_op, w_snil, w_pass, w_retn, w_asg, w_gnm, w_gsb, w_gtp, w_gcn, w_gn0, w_par, w_aug, w_drop, w_c, w_k, w_lst, w_tup, w_and, w_or, w_not, w_neg, w_ifx, w_tand, w_tor, w_tnot, w_cb, w_ck, w_mt, w_cons, w_nil, w_var, w_chain, w_sl, w_osome, w_onone, Pu.w_rev, w_dct0, w_for, w_iseq, w_irg1, w_lc, w_lc2, List.map_cons, List.map_nil, List.cons_append, List.nil_append, List.getElem?_cons_zero, List.getElem?_cons_succ, List.length_cons, List.length_nil, Option.some.injEq, exists_eq_left', w_some, List.replicate, List.set_cons_zero, List.set_cons_succ, frz_nil, frz_dat, frz_new, frz_new0, ne_ss, list_t, mk_nil, mk1, mk2, mk3, U.dat.injEq, PyData.int.injEq, PyData.bool.injEq, PyData.str.injEq, U.cell.injEq, add_ii, sub_ii, lt_ii, le_ii, gt_ii, ge_ii, eq_ii, ne_ii, eq_tt0, ne_tt0, eq_ds, sl_t, len_t, isi_int, isi_bool, isi_str, isi_tup, abs_i, min_ii, max_ii, int_i, int_b, mod_ii, fdiv_ii, mul_ii, pow_ii, add_ss, add_tt, mul_ti, repr_d, frzU_dat, and_true, true_and, and_assoc, List.cons.injEq, exists_and_left, exists_and_right, exists_eq_left, exists_eq_right, ix_t, ix_s, sl_s, len_s, is_non, Nat.reduceAdd, Nat.reduceSub, sz0, sz1, sz2, sz3, sz4, sz5, sz6, sz7, sz8, sz9, sz10, sz11, sz12, sz13, sz14, sz15, sz16, sz17, sz18, sz19, sz20, sz21, sz22, sz23, sz24, sz25, sz26, sz27, sz28, sz29, sz30]
  rw [hac]
  refine ⟨by omega, by omega, ?_⟩
  obtain ⟨M6, ds, e6, ⟨hh6, hc6⟩, fr6, g6, len6, r6⟩ := lc_draw (M1 := M5) (ws := []) (g := gNm 8) (e := eTup (aCons (eOp ixU (eVar 4) (eOp addU (eVar 1) (eVar 8))) (aCons (eCB m__law_take (aCons (eVar 0) (aCons (eOp addU (eVar 3) (eC (.int 1))) aNil))) aNil))) (ρ := wipeR [some (.cell h), some (.dat (.int 3)), some (.dat (.int 3)), some (.dat (.int 2)), some (.cell c), some (.dat (.tuple (rs.map .str))), some (.dat (.int ph)), none, none, none] [8]) (items := rangeU 0 (ac : Int).toNat)
    (fun M' j => Hand M' h (n + 16 + j) ∧ M'[c]? = some (.lst true (namesU ws))) h (fun _ d => ∃ a : Str × Nat, d = actD a ∧ (Nm a.1 ∧ a.2 ≤ 2)) (fun M' j x hx => ⟨hx.1.set (by have := hh5.lt; omega), by rw [List.getElem?_set_ne (by omega)]; exact hx.2⟩) (fun c hc => by cases hc) (by rw [range_len]; exact big _ (by omega)) hh5.lt ⟨(hh5.same ⟨_, rfl⟩).mono (by omega), get_app hc5⟩ (fun j u M' hj hx fr => by
      obtain ⟨hj1, rfl⟩ := range_get hj
      have hj4 : j < 4 := by omega
      simp only [wipeR, w_fn, w_ret, w_seq, w_sif, w_of, w_trn, w_op, w_snil, w_pass, w_retn, w_asg, w_gnm, w_gsb, w_gtp, w_gcn, w_gn0, w_par, w_aug, w_drop, w_c, w_k, w_lst, w_tup, w_and, w_or, w_not, w_neg, w_ifx, w_tand, w_tor, w_tnot, w_cb, w_ck, w_mt, w_cons, w_nil, w_var, w_chain, w_sl, w_osome, w_onone, Pu.w_rev, w_dct0, w_for, w_iseq, w_irg1, w_lc, w_lc2, List.map_cons, List.map_nil, List.cons_append, List.nil_append, List.getElem?_cons_zero, List.getElem?_cons_succ, List.length_cons, List.length_nil, Option.some.injEq, exists_eq_left', w_some, List.replicate, List.set_cons_zero, List.set_cons_succ, frz_nil, frz_dat, frz_new, frz_new0, ne_ss, list_t, mk_nil, mk1, mk2, mk3, U.dat.injEq, PyData.int.injEq, PyData.bool.injEq, PyData.str.injEq, U.cell.injEq, add_ii, sub_ii, lt_ii, le_ii, gt_ii, ge_ii, eq_ii, ne_ii, eq_tt0, ne_tt0, eq_ds, sl_t, len_t, isi_int, isi_bool, isi_str, isi_tup, abs_i, min_ii, max_ii, int_i, int_b, mod_ii, fdiv_ii, mul_ii, pow_ii, add_ss, add_tt, mul_ti, repr_d, frzU_dat, and_true, true_and, and_assoc, List.cons.injEq, exists_and_left, exists_and_right, exists_eq_left, exists_eq_right, ix_t, ix_s, sl_s, len_s, is_non, Nat.reduceAdd, Nat.reduceSub, sz0, sz1, sz2, sz3, sz4, sz5, sz6, sz7, sz8, sz9, sz10, sz11, sz12, sz13, sz14, sz15, sz16, sz17, sz18, sz19, sz20, sz21, sz22, sz23, sz24, sz25, sz26, sz27, sz28, sz29, sz30]
      refine (ix_seq' (seq_cell hx.2)).mpr ?_
      have hj7 : 3 + j < ws.length := by omega
      refine ⟨.dat (.str (ws[3 + j]'hj7)), ?_, ?_⟩
      · rw [show (3 : Int) + (0 + (j : Int)) = ((3 + j : Nat) : Int) by omega]
        refine atI_nat ?_
        unfold namesU
        rw [List.getElem?_map, List.getElem?_eq_getElem hj7]
        rfl
      · rw [show (2 : Int) + 1 = 3 from rfl]
        refine take_spec hx.1 (by omega) (by decide) (by decide) fun v M7 v0 v1 hh7 fr7 => ?_
        simp only [w_fn, w_ret, w_seq, w_sif, w_of, w_trn, w_op, w_snil, w_pass, w_retn, w_asg, w_gnm, w_gsb, w_gtp, w_gcn, w_gn0, w_par, w_aug, w_drop, w_c, w_k, w_lst, w_tup, w_and, w_or, w_not, w_neg, w_ifx, w_tand, w_tor, w_tnot, w_cb, w_ck, w_mt, w_cons, w_nil, w_var, w_chain, w_sl, w_osome, w_onone, Pu.w_rev, w_dct0, w_for, w_iseq, w_irg1, w_lc, w_lc2, List.map_cons, List.map_nil, List.cons_append, List.nil_append, List.getElem?_cons_zero, List.getElem?_cons_succ, List.length_cons, List.length_nil, Option.some.injEq, exists_eq_left', w_some, List.replicate, List.set_cons_zero, List.set_cons_succ, frz_nil, frz_dat, frz_new, frz_new0, ne_ss, list_t, mk_nil, mk1, mk2, mk3, U.dat.injEq, PyData.int.injEq, PyData.bool.injEq, PyData.str.injEq, U.cell.injEq, add_ii, sub_ii, lt_ii, le_ii, gt_ii, ge_ii, eq_ii, ne_ii, eq_tt0, ne_tt0, eq_ds, sl_t, len_t, isi_int, isi_bool, isi_str, isi_tup, abs_i, min_ii, max_ii, int_i, int_b, mod_ii, fdiv_ii, mul_ii, pow_ii, add_ss, add_tt, mul_ti, repr_d, frzU_dat, and_true, true_and, and_assoc, List.cons.injEq, exists_and_left, exists_and_right, exists_eq_left, exists_eq_right, ix_t, ix_s, sl_s, len_s, is_non, Nat.reduceAdd, Nat.reduceSub, sz0, sz1, sz2, sz3, sz4, sz5, sz6, sz7, sz8, sz9, sz10, sz11, sz12, sz13, sz14, sz15, sz16, sz17, sz18, sz19, sz20, sz21, sz22, sz23, sz24, sz25, sz26, sz27, sz28, sz29, sz30]
        refine ⟨⟨(ws[3 + j]'hj7, v.toNat), ?_, hw1 _ (List.getElem_mem hj7), by show v.toNat ≤ 2; omega⟩, hh7.mono (by omega), fr7.at hx.2 hch, fr7⟩
        show _ = PyData.tuple [.str _, .int ((v.toNat : Nat) : Int)]
        rw [Int.toNat_of_nonneg v0])
  refine ⟨M6, e6, ?_⟩
  rw [range_len] at hh6 len6
  obtain ⟨as, rfl, has⟩ := list_choose (f := actD) (P := fun a => Nm a.1 ∧ a.2 ≤ 2) (fun d hd => by
    obtain ⟨u, _, h1⟩ := all_at (R := fun _ d => ∃ a : Str × Nat, d = actD a ∧ (Nm a.1 ∧ a.2 ≤ 2)) (by rw [range_len]; exact len6) r6 d hd
    exact h1)
  rw [List.length_map] at len6
  rw [tup_c g6, w_some]
  have fr06 : Fr h M M6 := ((fr3.trans fr4).trans fr5).trans fr6
  have hh6' : Hand M6 h (n + 30) := hh6.mono (by omega)
  try simp only [w_fn, w_ret, w_seq, w_sif, w_of, w_trn, w_op, w_snil, w_pass, w_retn, w_asg, w_gnm, w_gsb, w_gtp, w_gcn, w_gn0, w_par, w_aug, w_drop, w_c, w_k, w_lst, w_tup, w_and, w_or, w_not, w_neg, w_ifx, w_tand, w_tor, w_tnot, w_cb, w_ck, w_mt, w_cons, w_nil, w_var, w_chain, w_sl, w_osome, w_onone, Pu.w_rev, w_dct0, w_for, w_iseq, w_irg1, w_lc, w_lc2, List.map_cons, List.map_nil, List.cons_append, List.nil_append, List.getElem?_cons_zero, List.getElem?_cons_succ, List.length_cons, List.length_nil, Option.some.injEq, exists_eq_left', w_some, List.replicate, List.set_cons_zero, List.set_cons_succ, frz_nil, frz_dat, frz_new, frz_new0, ne_ss, list_t, mk_nil, mk1, mk2, mk3, U.dat.injEq, PyData.int.injEq, PyData.bool.injEq, PyData.str.injEq, U.cell.injEq, add_ii, sub_ii, lt_ii, le_ii, gt_ii, ge_ii, eq_ii, ne_ii, eq_tt0, ne_tt0, eq_ds, sl_t, len_t, isi_int, isi_bool, isi_str, isi_tup, abs_i, min_ii, max_ii, int_i, int_b, mod_ii, fdiv_ii, mul_ii, pow_ii, add_ss, add_tt, mul_ti, repr_d, frzU_dat, and_true, true_and, and_assoc, List.cons.injEq, exists_and_left, exists_and_right, exists_eq_left, exists_eq_right, ix_t, ix_s, sl_s, len_s, is_non, Nat.reduceAdd, Nat.reduceSub, sz0, sz1, sz2, sz3, sz4, sz5, sz6, sz7, sz8, sz9, sz10, sz11, sz12, sz13, sz14, sz15, sz16, sz17, sz18, sz19, sz20, sz21, sz22, sz23, sz24, sz25, sz26, sz27, sz28, sz29, sz30]
  refine ⟨by omega, by omega, ?_⟩
  obtain ⟨M7, phs, e7, hh7, fr7, g7, len7, r7⟩ := lc_draw (M1 := M6) (ws := []) (g := gNm 9) (e := eCB m__law_phase (aCons (eVar 0) (aCons (eVar 5) (aCons (eVar 7) (aCons (eVar 6) aNil))))) (ρ := wipeR [some (.cell h), some (.dat (.int 3)), some (.dat (.int 3)), some (.dat (.int 2)), some (.cell c), some (.dat (.tuple (rs.map .str))), some (.dat (.int ph)), some (.dat (.tuple (as.map actD))), none, none] [9]) (items := rangeU 0 (ph : Int).toNat)
    (fun M' j => Hand M' h (n + 30 + 800 * j)) h (fun _ d => True) (fun M' j x hx => hx.set (by have := hh6.lt; omega)) (fun c hc => by cases hc) (by rw [range_len]; exact big _ (by omega)) hh6.lt (hh6'.same ⟨_, rfl⟩) (fun j u M' hj hx fr => by
      obtain ⟨hj1, rfl⟩ := range_get hj
      have hj4 : j < 3 := by omega
      simp only [wipeR, w_fn, w_ret, w_seq, w_sif, w_of, w_trn, w_op, w_snil, w_pass, w_retn, w_asg, w_gnm, w_gsb, w_gtp, w_gcn, w_gn0, w_par, w_aug, w_drop, w_c, w_k, w_lst, w_tup, w_and, w_or, w_not, w_neg, w_ifx, w_tand, w_tor, w_tnot, w_cb, w_ck, w_mt, w_cons, w_nil, w_var, w_chain, w_sl, w_osome, w_onone, Pu.w_rev, w_dct0, w_for, w_iseq, w_irg1, w_lc, w_lc2, List.map_cons, List.map_nil, List.cons_append, List.nil_append, List.getElem?_cons_zero, List.getElem?_cons_succ, List.length_cons, List.length_nil, Option.some.injEq, exists_eq_left', w_some, List.replicate, List.set_cons_zero, List.set_cons_succ, frz_nil, frz_dat, frz_new, frz_new0, ne_ss, list_t, mk_nil, mk1, mk2, mk3, U.dat.injEq, PyData.int.injEq, PyData.bool.injEq, PyData.str.injEq, U.cell.injEq, add_ii, sub_ii, lt_ii, le_ii, gt_ii, ge_ii, eq_ii, ne_ii, eq_tt0, ne_tt0, eq_ds, sl_t, len_t, isi_int, isi_bool, isi_str, isi_tup, abs_i, min_ii, max_ii, int_i, int_b, mod_ii, fdiv_ii, mul_ii, pow_ii, add_ss, add_tt, mul_ti, repr_d, frzU_dat, and_true, true_and, and_assoc, List.cons.injEq, exists_and_left, exists_and_right, exists_eq_left, exists_eq_right, ix_t, ix_s, sl_s, len_s, is_non, Nat.reduceAdd, Nat.reduceSub, sz0, sz1, sz2, sz3, sz4, sz5, sz6, sz7, sz8, sz9, sz10, sz11, sz12, sz13, sz14, sz15, sz16, sz17, sz18, sz19, sz20, sz21, sz22, sz23, sz24, sz25, sz26, sz27, sz28, sz29, sz30]
      refine phase_spec hws hwl (fun a ha => (has a ha).2) (by omega) (by omega) (by omega) hx (by omega) fun ds M'' h'' fr'' => ⟨⟨_, rfl⟩, h''.mono (by omega), fr''⟩)
  refine ⟨M7, e7, ?_⟩
  rw [range_len] at hh7 len7
  rw [tup_c g7, w_some]
  exact q rs as phs M7 hws hwl has (by omega) (by omega) (by omega) (by omega) (hh7.mono (by omega)) (fr06.trans fr7)
end Z

namespace Z
open PySem PySem.Spec PyProof.Rows L2 Lw Pu
def GtI (M : Mem) (h n c : Nat) (as : List (Str × Nat)) (cn : Int) (k : Nat) (ρ : Pu.Env) (M' : Mem) : Prop := ∃ (ds : List PyData) (y5 : Option U), ρ = [some (.cell h), some (actsU as), some (.dat (.int 3)), some (.dat (.int cn)), some (.cell c), y5, none] ∧ M'[c]? = some (.lst true (ds.map .dat)) ∧ ds.length = k ∧ Hand M' h (n + 10 * k) ∧ Fr h M M' ∧ c < M'.length
theorem gate_spec {M : Mem} {h n : Nat} {as : List (Str × Nat)} {Q : U → Mem → Prop} (hal : as.length ≤ 4) (hh : Hand M h n) (hn : n + 100 ≤ 800000)
    (q : ∀ ds M', 1 ≤ ds.length → ds.length ≤ 3 → Hand M' h (n + 100) → Fr h M M' → Q (.dat (.tuple ds)) M') : W (m__law_gate [.cell h, actsU as, .dat (.int 3)] M) Q := by
  have hlt := hh.lt
  have big : ∀ z : Nat, z ≤ 1000 → z ≤ sizeLine := fun z hz => Nat.le_trans hz (by decide)
  simp only [m__law_gate, w_tupn, w_fn, w_ret, w_seq, w_sif, w_of, w_trn, w_op, w_snil, w_pass, w_retn, w_asg, w_gnm, w_gsb, w_gtp, w_gcn, w_gn0, w_par, w_aug, w_drop, w_c, w_k, w_lst, w_tup, w_and, w_or, w_not, w_neg, w_ifx, w_tand, w_tor, w_tnot, w_cb, w_ck, w_mt, w_cons, w_nil, w_var, w_chain, w_sl, w_osome, w_onone, Pu.w_rev, w_dct0, w_for, w_iseq, w_irg1, w_lc, w_lc2, List.map_cons, List.map_nil, List.cons_append, List.nil_append, List.getElem?_cons_zero, List.getElem?_cons_succ, List.length_cons, List.length_nil, Option.some.injEq, exists_eq_left', w_some, List.replicate, List.set_cons_zero, List.set_cons_succ, frz_nil, frz_dat, frz_new, frz_new0, ne_ss, list_t, mk_nil, mk1, mk2, mk3, U.dat.injEq, PyData.int.injEq, PyData.bool.injEq, PyData.str.injEq, U.cell.injEq, add_ii, sub_ii, lt_ii, le_ii, gt_ii, ge_ii, eq_ii, ne_ii, eq_tt0, ne_tt0, eq_ds, sl_t, len_t, isi_int, isi_bool, isi_str, isi_tup, abs_i, min_ii, max_ii, int_i, int_b, mod_ii, fdiv_ii, mul_ii, pow_ii, add_ss, add_tt, mul_ti, repr_d, frzU_dat, and_true, true_and, and_assoc, List.cons.injEq, exists_and_left, exists_and_right, exists_eq_left, exists_eq_right, ix_t, ix_s, sl_s, len_s, is_non, Nat.reduceAdd, Nat.reduceSub, sz0, sz1, sz2, sz3, sz4, sz5, sz6, sz7, sz8, sz9, sz10, sz11, sz12, sz13, sz14, sz15, sz16, sz17, sz18, sz19, sz20, sz21, sz22, sz23, sz24, sz25, sz26, sz27, sz28, sz29, sz30]
  refine take_spec hh (by omega) (by decide) (by decide) fun x M1 x0 x1 hh1 fr1 => ?_
  have l1 := fr1.len
  obtain ⟨cn, hcn⟩ : ∃ k : Nat, 1 + x = k := ⟨(1 + x).toNat, by omega⟩
  try simp only [w_fn, w_ret, w_seq, w_sif, w_of, w_trn, w_op, w_snil, w_pass, w_retn, w_asg, w_gnm, w_gsb, w_gtp, w_gcn, w_gn0, w_par, w_aug, w_drop, w_c, w_k, w_lst, w_tup, w_and, w_or, w_not, w_neg, w_ifx, w_tand, w_tor, w_tnot, w_cb, w_ck, w_mt, w_cons, w_nil, w_var, w_chain, w_sl, w_osome, w_onone, Pu.w_rev, w_dct0, w_for, w_iseq, w_irg1, w_lc, w_lc2, List.map_cons, List.map_nil, List.cons_append, List.nil_append, List.getElem?_cons_zero, List.getElem?_cons_succ, List.length_cons, List.length_nil, Option.some.injEq, exists_eq_left', w_some, List.replicate, List.set_cons_zero, List.set_cons_succ, frz_nil, frz_dat, frz_new, frz_new0, ne_ss, list_t, mk_nil, mk1, mk2, mk3, U.dat.injEq, PyData.int.injEq, PyData.bool.injEq, PyData.str.injEq, U.cell.injEq, add_ii, sub_ii, lt_ii, le_ii, gt_ii, ge_ii, eq_ii, ne_ii, eq_tt0, ne_tt0, eq_ds, sl_t, len_t, isi_int, isi_bool, isi_str, isi_tup, abs_i, min_ii, max_ii, int_i, int_b, mod_ii, fdiv_ii, mul_ii, pow_ii, add_ss, add_tt, mul_ti, repr_d, frzU_dat, and_true, true_and, and_assoc, List.cons.injEq, exists_and_left, exists_and_right, exists_eq_left, exists_eq_right, ix_t, ix_s, sl_s, len_s, is_non, Nat.reduceAdd, Nat.reduceSub, sz0, sz1, sz2, sz3, sz4, sz5, sz6, sz7, sz8, sz9, sz10, sz11, sz12, sz13, sz14, sz15, sz16, sz17, sz18, sz19, sz20, sz21, sz22, sz23, sz24, sz25, sz26, sz27, sz28, sz29, sz30]
  rw [hcn]
  refine ⟨_, rfl, rfl, ?_⟩
  try simp only [w_fn, w_ret, w_seq, w_sif, w_of, w_trn, w_op, w_snil, w_pass, w_retn, w_asg, w_gnm, w_gsb, w_gtp, w_gcn, w_gn0, w_par, w_aug, w_drop, w_c, w_k, w_lst, w_tup, w_and, w_or, w_not, w_neg, w_ifx, w_tand, w_tor, w_tnot, w_cb, w_ck, w_mt, w_cons, w_nil, w_var, w_chain, w_sl, w_osome, w_onone, Pu.w_rev, w_dct0, w_for, w_iseq, w_irg1, w_lc, w_lc2, List.map_cons, List.map_nil, List.cons_append, List.nil_append, List.getElem?_cons_zero, List.getElem?_cons_succ, List.length_cons, List.length_nil, Option.some.injEq, exists_eq_left', w_some, List.replicate, List.set_cons_zero, List.set_cons_succ, frz_nil, frz_dat, frz_new, frz_new0, ne_ss, list_t, mk_nil, mk1, mk2, mk3, U.dat.injEq, PyData.int.injEq, PyData.bool.injEq, PyData.str.injEq, U.cell.injEq, add_ii, sub_ii, lt_ii, le_ii, gt_ii, ge_ii, eq_ii, ne_ii, eq_tt0, ne_tt0, eq_ds, sl_t, len_t, isi_int, isi_bool, isi_str, isi_tup, abs_i, min_ii, max_ii, int_i, int_b, mod_ii, fdiv_ii, mul_ii, pow_ii, add_ss, add_tt, mul_ti, repr_d, frzU_dat, and_true, true_and, and_assoc, List.cons.injEq, exists_and_left, exists_and_right, exists_eq_left, exists_eq_right, ix_t, ix_s, sl_s, len_s, is_non, Nat.reduceAdd, Nat.reduceSub, sz0, sz1, sz2, sz3, sz4, sz5, sz6, sz7, sz8, sz9, sz10, sz11, sz12, sz13, sz14, sz15, sz16, sz17, sz18, sz19, sz20, sz21, sz22, sz23, sz24, sz25, sz26, sz27, sz28, sz29, sz30]
  refine ⟨by omega, by omega, ?_⟩
  have hch : M1.length ≠ h := by omega
  refine for_inv (GtI M h (n + 1) M1.length as cn) _ 0 _ _ ⟨[], none, rfl, List.getElem?_concat_length .., rfl, (hh1.same ⟨_, rfl⟩).mono (by omega), fr1.trans (Fr.of0 ⟨_, rfl⟩), by simp⟩ ?_ ?_
  · intro i u ρ M2 hi hI
    obtain ⟨hi1, rfl⟩ := range_get hi
    have hi3 : i < 3 := by omega
    obtain ⟨ds, y5, rfl, hc2, hl2, hh2, fr2, hcl⟩ := hI
    have hlt2 := hh2.lt
    simp only [w_fn, w_ret, w_seq, w_sif, w_of, w_trn, w_op, w_snil, w_pass, w_retn, w_asg, w_gnm, w_gsb, w_gtp, w_gcn, w_gn0, w_par, w_aug, w_drop, w_c, w_k, w_lst, w_tup, w_and, w_or, w_not, w_neg, w_ifx, w_tand, w_tor, w_tnot, w_cb, w_ck, w_mt, w_cons, w_nil, w_var, w_chain, w_sl, w_osome, w_onone, Pu.w_rev, w_dct0, w_for, w_iseq, w_irg1, w_lc, w_lc2, List.map_cons, List.map_nil, List.cons_append, List.nil_append, List.getElem?_cons_zero, List.getElem?_cons_succ, List.length_cons, List.length_nil, Option.some.injEq, exists_eq_left', w_some, List.replicate, List.set_cons_zero, List.set_cons_succ, frz_nil, frz_dat, frz_new, frz_new0, ne_ss, list_t, mk_nil, mk1, mk2, mk3, U.dat.injEq, PyData.int.injEq, PyData.bool.injEq, PyData.str.injEq, U.cell.injEq, add_ii, sub_ii, lt_ii, le_ii, gt_ii, ge_ii, eq_ii, ne_ii, eq_tt0, ne_tt0, eq_ds, sl_t, len_t, isi_int, isi_bool, isi_str, isi_tup, abs_i, min_ii, max_ii, int_i, int_b, mod_ii, fdiv_ii, mul_ii, pow_ii, add_ss, add_tt, mul_ti, repr_d, frzU_dat, and_true, true_and, and_assoc, List.cons.injEq, exists_and_left, exists_and_right, exists_eq_left, exists_eq_right, ix_t, ix_s, sl_s, len_s, is_non, Nat.reduceAdd, Nat.reduceSub, sz0, sz1, sz2, sz3, sz4, sz5, sz6, sz7, sz8, sz9, sz10, sz11, sz12, sz13, sz14, sz15, sz16, sz17, sz18, sz19, sz20, sz21, sz22, sz23, sz24, sz25, sz26, sz27, sz28, sz29, sz30]
    refine ⟨ty_l hc2, _, rfl, ?_⟩
    obtain ⟨M3, es, e3, ⟨hh3, hc3⟩, fr3, g3, len3, r3⟩ := lc_draw (M1 := M2) (ws := cellsOf (actsU as)) (g := gNm 6) (e := eIf (tOf (eOp eqU (eCB m__law_take (aCons (eVar 0) (aCons (eC (.int 5)) aNil))) (eC (.int 0)))) (eC .none) (eCB m__law_take (aCons (eVar 0) (aCons (eVar 3) aNil)))) (ρ := wipeR [some (.cell h), some (actsU as), some (.dat (.int 3)), some (.dat (.int cn)), some (.cell M1.length), some (.dat (.int (0 + (i : Int)))), none] [6]) (items := (as.map actD).map .dat)
      (fun M' j => Hand M' h (n + 1 + 10 * i + 2 * j) ∧ M'[M1.length]? = some (.lst true (ds.map .dat))) h (fun _ _ => True) (fun M' j x hx => ⟨hx.1.set (by omega), by rw [List.getElem?_set_ne (by omega)]; exact hx.2⟩) (fun c hc => by cases hc) (by rw [List.length_map, List.length_map]; exact big _ (by omega)) hlt2 ⟨(hh2.same ⟨_, rfl⟩).mono (by omega), get_app hc2⟩ (fun j u M' hj hx fr => by
        have hj4 : j < 4 := by
          have := (List.getElem?_eq_some_iff.mp hj).1
          simp at this
          omega
        simp only [wipeR, w_fn, w_ret, w_seq, w_sif, w_of, w_trn, w_op, w_snil, w_pass, w_retn, w_asg, w_gnm, w_gsb, w_gtp, w_gcn, w_gn0, w_par, w_aug, w_drop, w_c, w_k, w_lst, w_tup, w_and, w_or, w_not, w_neg, w_ifx, w_tand, w_tor, w_tnot, w_cb, w_ck, w_mt, w_cons, w_nil, w_var, w_chain, w_sl, w_osome, w_onone, Pu.w_rev, w_dct0, w_for, w_iseq, w_irg1, w_lc, w_lc2, List.map_cons, List.map_nil, List.cons_append, List.nil_append, List.getElem?_cons_zero, List.getElem?_cons_succ, List.length_cons, List.length_nil, Option.some.injEq, exists_eq_left', w_some, List.replicate, List.set_cons_zero, List.set_cons_succ, frz_nil, frz_dat, frz_new, frz_new0, ne_ss, list_t, mk_nil, mk1, mk2, mk3, U.dat.injEq, PyData.int.injEq, PyData.bool.injEq, PyData.str.injEq, U.cell.injEq, add_ii, sub_ii, lt_ii, le_ii, gt_ii, ge_ii, eq_ii, ne_ii, eq_tt0, ne_tt0, eq_ds, sl_t, len_t, isi_int, isi_bool, isi_str, isi_tup, abs_i, min_ii, max_ii, int_i, int_b, mod_ii, fdiv_ii, mul_ii, pow_ii, add_ss, add_tt, mul_ti, repr_d, frzU_dat, and_true, true_and, and_assoc, List.cons.injEq, exists_and_left, exists_and_right, exists_eq_left, exists_eq_right, ix_t, ix_s, sl_s, len_s, is_non, Nat.reduceAdd, Nat.reduceSub, sz0, sz1, sz2, sz3, sz4, sz5, sz6, sz7, sz8, sz9, sz10, sz11, sz12, sz13, sz14, sz15, sz16, sz17, sz18, sz19, sz20, sz21, sz22, sz23, sz24, sz25, sz26, sz27, sz28, sz29, sz30]
        refine take_spec hx.1 (by omega) (by decide) (by decide) fun v M5 v0 v1 hh5 fr5 => ?_
        try simp only [w_fn, w_ret, w_seq, w_sif, w_of, w_trn, w_op, w_snil, w_pass, w_retn, w_asg, w_gnm, w_gsb, w_gtp, w_gcn, w_gn0, w_par, w_aug, w_drop, w_c, w_k, w_lst, w_tup, w_and, w_or, w_not, w_neg, w_ifx, w_tand, w_tor, w_tnot, w_cb, w_ck, w_mt, w_cons, w_nil, w_var, w_chain, w_sl, w_osome, w_onone, Pu.w_rev, w_dct0, w_for, w_iseq, w_irg1, w_lc, w_lc2, List.map_cons, List.map_nil, List.cons_append, List.nil_append, List.getElem?_cons_zero, List.getElem?_cons_succ, List.length_cons, List.length_nil, Option.some.injEq, exists_eq_left', w_some, List.replicate, List.set_cons_zero, List.set_cons_succ, frz_nil, frz_dat, frz_new, frz_new0, ne_ss, list_t, mk_nil, mk1, mk2, mk3, U.dat.injEq, PyData.int.injEq, PyData.bool.injEq, PyData.str.injEq, U.cell.injEq, add_ii, sub_ii, lt_ii, le_ii, gt_ii, ge_ii, eq_ii, ne_ii, eq_tt0, ne_tt0, eq_ds, sl_t, len_t, isi_int, isi_bool, isi_str, isi_tup, abs_i, min_ii, max_ii, int_i, int_b, mod_ii, fdiv_ii, mul_ii, pow_ii, add_ss, add_tt, mul_ti, repr_d, frzU_dat, and_true, true_and, and_assoc, List.cons.injEq, exists_and_left, exists_and_right, exists_eq_left, exists_eq_right, ix_t, ix_s, sl_s, len_s, is_non, Nat.reduceAdd, Nat.reduceSub, sz0, sz1, sz2, sz3, sz4, sz5, sz6, sz7, sz8, sz9, sz10, sz11, sz12, sz13, sz14, sz15, sz16, sz17, sz18, sz19, sz20, sz21, sz22, sz23, sz24, sz25, sz26, sz27, sz28, sz29, sz30]
        by_cases hv : v = 0
        · rw [decide_eq_true hv]
          simp only [w_fn, w_ret, w_seq, w_sif, w_of, w_trn, w_op, w_snil, w_pass, w_retn, w_asg, w_gnm, w_gsb, w_gtp, w_gcn, w_gn0, w_par, w_aug, w_drop, w_c, w_k, w_lst, w_tup, w_and, w_or, w_not, w_neg, w_ifx, w_tand, w_tor, w_tnot, w_cb, w_ck, w_mt, w_cons, w_nil, w_var, w_chain, w_sl, w_osome, w_onone, Pu.w_rev, w_dct0, w_for, w_iseq, w_irg1, w_lc, w_lc2, List.map_cons, List.map_nil, List.cons_append, List.nil_append, List.getElem?_cons_zero, List.getElem?_cons_succ, List.length_cons, List.length_nil, Option.some.injEq, exists_eq_left', w_some, List.replicate, List.set_cons_zero, List.set_cons_succ, frz_nil, frz_dat, frz_new, frz_new0, ne_ss, list_t, mk_nil, mk1, mk2, mk3, U.dat.injEq, PyData.int.injEq, PyData.bool.injEq, PyData.str.injEq, U.cell.injEq, add_ii, sub_ii, lt_ii, le_ii, gt_ii, ge_ii, eq_ii, ne_ii, eq_tt0, ne_tt0, eq_ds, sl_t, len_t, isi_int, isi_bool, isi_str, isi_tup, abs_i, min_ii, max_ii, int_i, int_b, mod_ii, fdiv_ii, mul_ii, pow_ii, add_ss, add_tt, mul_ti, repr_d, frzU_dat, and_true, true_and, and_assoc, List.cons.injEq, exists_and_left, exists_and_right, exists_eq_left, exists_eq_right, ix_t, ix_s, sl_s, len_s, is_non, Nat.reduceAdd, Nat.reduceSub, sz0, sz1, sz2, sz3, sz4, sz5, sz6, sz7, sz8, sz9, sz10, sz11, sz12, sz13, sz14, sz15, sz16, sz17, sz18, sz19, sz20, sz21, sz22, sz23, sz24, sz25, sz26, sz27, sz28, sz29, sz30]
          exact ⟨⟨_, rfl⟩, hh5.mono (by omega), fr5.at hx.2 hch, fr5⟩
        · rw [decide_eq_false hv]
          simp only
          refine take_spec hh5 (by omega) (by omega) (by omega) fun w M6 w0 w1 hh6 fr6 => ?_
          exact ⟨⟨_, rfl⟩, hh6.mono (by omega), fr6.at (fr5.at hx.2 hch) hch, fr5.trans fr6⟩)
    refine ⟨M3, e3, ?_⟩
    rw [tup_c g3, w_some]
    have l3 := fr3.len
    rw [append_d hc3 (by rw [List.length_map]; exact Nat.lt_of_le_of_lt (show _ ≤ 1000 by omega) (by decide)), w_some]
    simp only [List.length_map] at hh3
    refine ⟨fun c hc => (by cases hc), ds ++ [.tuple es], _, rfl, ?_, by simp [hl2], (hh3.set hch).mono (by omega), (fr2.trans fr3).setNew (by omega), by rw [List.length_set]; omega⟩
    rw [get_set hc3, List.map_append]
    rfl
  · intro ρ M2 hI
    obtain ⟨ds, y5, rfl, hc2, hl2, hh2, fr2, hcl⟩ := hI
    rw [range_len] at hl2 hh2
    simp only [w_fn, w_ret, w_seq, w_sif, w_of, w_trn, w_op, w_snil, w_pass, w_retn, w_asg, w_gnm, w_gsb, w_gtp, w_gcn, w_gn0, w_par, w_aug, w_drop, w_c, w_k, w_lst, w_tup, w_and, w_or, w_not, w_neg, w_ifx, w_tand, w_tor, w_tnot, w_cb, w_ck, w_mt, w_cons, w_nil, w_var, w_chain, w_sl, w_osome, w_onone, Pu.w_rev, w_dct0, w_for, w_iseq, w_irg1, w_lc, w_lc2, List.map_cons, List.map_nil, List.cons_append, List.nil_append, List.getElem?_cons_zero, List.getElem?_cons_succ, List.length_cons, List.length_nil, Option.some.injEq, exists_eq_left', w_some, List.replicate, List.set_cons_zero, List.set_cons_succ, frz_nil, frz_dat, frz_new, frz_new0, ne_ss, list_t, mk_nil, mk1, mk2, mk3, U.dat.injEq, PyData.int.injEq, PyData.bool.injEq, PyData.str.injEq, U.cell.injEq, add_ii, sub_ii, lt_ii, le_ii, gt_ii, ge_ii, eq_ii, ne_ii, eq_tt0, ne_tt0, eq_ds, sl_t, len_t, isi_int, isi_bool, isi_str, isi_tup, abs_i, min_ii, max_ii, int_i, int_b, mod_ii, fdiv_ii, mul_ii, pow_ii, add_ss, add_tt, mul_ti, repr_d, frzU_dat, and_true, true_and, and_assoc, List.cons.injEq, exists_and_left, exists_and_right, exists_eq_left, exists_eq_right, ix_t, ix_s, sl_s, len_s, is_non, Nat.reduceAdd, Nat.reduceSub, sz0, sz1, sz2, sz3, sz4, sz5, sz6, sz7, sz8, sz9, sz10, sz11, sz12, sz13, sz14, sz15, sz16, sz17, sz18, sz19, sz20, sz21, sz22, sz23, sz24, sz25, sz26, sz27, sz28, sz29, sz30]
    rw [tup_c hc2, w_some]
    exact q ds M2 (by omega) (by omega) (hh2.mono (by omega)) fr2
theorem cpow59 : CPowW 10 59 := ⟨by decide, by decide⟩
/-- as take_spec, for a great bound -/
theorem take_big {M : Mem} {h n : Nat} {Q : U → Mem → Prop} (hh : Hand M h n) (hn : n + 1 ≤ 800000) (q : ∀ x M', 0 ≤ x → x < 10 ^ 59 → Hand M' h (n + 1) → Fr h M M' → Q (.dat (.int x)) M') :
    W (m__law_take [.cell h, .dat (.int (10 ^ (59 : Int).toNat))] M) Q := take_wide hh hn (by decide +kernel) (by decide +kernel) q
theorem number_spec {M : Mem} {h n : Nat} {Q : U → Mem → Prop} (hh : Hand M h n) (hn : n + 3 ≤ 800000) (q : ∀ x M', x.natAbs < 10 ^ 60 → Hand M' h (n + 3) → Fr h M M' → Q (.dat (.int x)) M') : W (m__law_number [.cell h] M) Q := by
  have hlt := hh.lt
  have hp : (10 : Int) ^ 59 < 10 ^ 60 := by decide +kernel
  have hpn : (10 : Nat) ^ 60 = 1000000000000000000000000000000000000000000000000000000000000 := by decide +kernel
  have hpi : (10 : Int) ^ 59 = 100000000000000000000000000000000000000000000000000000000000 := by decide +kernel
  simp only [m__law_number, w_fn, w_ret, w_seq, w_sif, w_of, w_trn, w_op, w_snil, w_pass, w_retn, w_asg, w_gnm, w_gsb, w_gtp, w_gcn, w_gn0, w_par, w_aug, w_drop, w_c, w_k, w_lst, w_tup, w_and, w_or, w_not, w_neg, w_ifx, w_tand, w_tor, w_tnot, w_cb, w_ck, w_mt, w_cons, w_nil, w_var, w_chain, w_sl, w_osome, w_onone, Pu.w_rev, w_dct0, w_for, w_iseq, w_irg1, w_lc, w_lc2, List.map_cons, List.map_nil, List.cons_append, List.nil_append, List.getElem?_cons_zero, List.getElem?_cons_succ, List.length_cons, List.length_nil, Option.some.injEq, exists_eq_left', w_some, List.replicate, List.set_cons_zero, List.set_cons_succ, frz_nil, frz_dat, frz_new, frz_new0, ne_ss, list_t, mk_nil, mk1, mk2, mk3, U.dat.injEq, PyData.int.injEq, PyData.bool.injEq, PyData.str.injEq, U.cell.injEq, add_ii, sub_ii, lt_ii, le_ii, gt_ii, ge_ii, eq_ii, ne_ii, eq_tt0, ne_tt0, eq_ds, sl_t, len_t, isi_int, isi_bool, isi_str, isi_tup, abs_i, min_ii, max_ii, int_i, int_b, mod_ii, fdiv_ii, mul_ii, pow_ii, add_ss, add_tt, mul_ti, repr_d, frzU_dat, and_true, true_and, and_assoc, List.cons.injEq, exists_and_left, exists_and_right, exists_eq_left, exists_eq_right, ix_t, ix_s, sl_s, len_s, is_non, Nat.reduceAdd, Nat.reduceSub, sz0, sz1, sz2, sz3, sz4, sz5, sz6, sz7, sz8, sz9, sz10, sz11, sz12, sz13, sz14, sz15, sz16, sz17, sz18, sz19, sz20, sz21, sz22, sz23, sz24, sz25, sz26, sz27, sz28, sz29, sz30]
  refine take_spec hh (by omega) (by decide) (by decide) fun x M1 x0 x1 hh1 fr1 => ?_
  try simp only [w_fn, w_ret, w_seq, w_sif, w_of, w_trn, w_op, w_snil, w_pass, w_retn, w_asg, w_gnm, w_gsb, w_gtp, w_gcn, w_gn0, w_par, w_aug, w_drop, w_c, w_k, w_lst, w_tup, w_and, w_or, w_not, w_neg, w_ifx, w_tand, w_tor, w_tnot, w_cb, w_ck, w_mt, w_cons, w_nil, w_var, w_chain, w_sl, w_osome, w_onone, Pu.w_rev, w_dct0, w_for, w_iseq, w_irg1, w_lc, w_lc2, List.map_cons, List.map_nil, List.cons_append, List.nil_append, List.getElem?_cons_zero, List.getElem?_cons_succ, List.length_cons, List.length_nil, Option.some.injEq, exists_eq_left', w_some, List.replicate, List.set_cons_zero, List.set_cons_succ, frz_nil, frz_dat, frz_new, frz_new0, ne_ss, list_t, mk_nil, mk1, mk2, mk3, U.dat.injEq, PyData.int.injEq, PyData.bool.injEq, PyData.str.injEq, U.cell.injEq, add_ii, sub_ii, lt_ii, le_ii, gt_ii, ge_ii, eq_ii, ne_ii, eq_tt0, ne_tt0, eq_ds, sl_t, len_t, isi_int, isi_bool, isi_str, isi_tup, abs_i, min_ii, max_ii, int_i, int_b, mod_ii, fdiv_ii, mul_ii, pow_ii, add_ss, add_tt, mul_ti, repr_d, frzU_dat, and_true, true_and, and_assoc, List.cons.injEq, exists_and_left, exists_and_right, exists_eq_left, exists_eq_right, ix_t, ix_s, sl_s, len_s, is_non, Nat.reduceAdd, Nat.reduceSub, sz0, sz1, sz2, sz3, sz4, sz5, sz6, sz7, sz8, sz9, sz10, sz11, sz12, sz13, sz14, sz15, sz16, sz17, sz18, sz19, sz20, sz21, sz22, sz23, sz24, sz25, sz26, sz27, sz28, sz29, sz30]
  by_cases hx : x < 7
  · rw [decide_eq_true hx]
    simp only
    refine take_spec hh1 (by omega) (by decide) (by decide) fun y M2 y0 y1 hh2 fr2 => ?_
    exact q y M2 (by omega) (hh2.mono (by omega)) (fr1.trans fr2)
  · rw [decide_eq_false hx]
    simp only
    refine ⟨cpow59, take_big hh1 (by omega) fun y M2 y0 y1 hh2 fr2 => ?_⟩
    try simp only [w_fn, w_ret, w_seq, w_sif, w_of, w_trn, w_op, w_snil, w_pass, w_retn, w_asg, w_gnm, w_gsb, w_gtp, w_gcn, w_gn0, w_par, w_aug, w_drop, w_c, w_k, w_lst, w_tup, w_and, w_or, w_not, w_neg, w_ifx, w_tand, w_tor, w_tnot, w_cb, w_ck, w_mt, w_cons, w_nil, w_var, w_chain, w_sl, w_osome, w_onone, Pu.w_rev, w_dct0, w_for, w_iseq, w_irg1, w_lc, w_lc2, List.map_cons, List.map_nil, List.cons_append, List.nil_append, List.getElem?_cons_zero, List.getElem?_cons_succ, List.length_cons, List.length_nil, Option.some.injEq, exists_eq_left', w_some, List.replicate, List.set_cons_zero, List.set_cons_succ, frz_nil, frz_dat, frz_new, frz_new0, ne_ss, list_t, mk_nil, mk1, mk2, mk3, U.dat.injEq, PyData.int.injEq, PyData.bool.injEq, PyData.str.injEq, U.cell.injEq, add_ii, sub_ii, lt_ii, le_ii, gt_ii, ge_ii, eq_ii, ne_ii, eq_tt0, ne_tt0, eq_ds, sl_t, len_t, isi_int, isi_bool, isi_str, isi_tup, abs_i, min_ii, max_ii, int_i, int_b, mod_ii, fdiv_ii, mul_ii, pow_ii, add_ss, add_tt, mul_ti, repr_d, frzU_dat, and_true, true_and, and_assoc, List.cons.injEq, exists_and_left, exists_and_right, exists_eq_left, exists_eq_right, ix_t, ix_s, sl_s, len_s, is_non, Nat.reduceAdd, Nat.reduceSub, sz0, sz1, sz2, sz3, sz4, sz5, sz6, sz7, sz8, sz9, sz10, sz11, sz12, sz13, sz14, sz15, sz16, sz17, sz18, sz19, sz20, sz21, sz22, sz23, sz24, sz25, sz26, sz27, sz28, sz29, sz30]
    refine take_spec hh2 (by omega) (by decide) (by decide) fun z M3 z0 z1 hh3 fr3 => ?_
    try simp only [w_fn, w_ret, w_seq, w_sif, w_of, w_trn, w_op, w_snil, w_pass, w_retn, w_asg, w_gnm, w_gsb, w_gtp, w_gcn, w_gn0, w_par, w_aug, w_drop, w_c, w_k, w_lst, w_tup, w_and, w_or, w_not, w_neg, w_ifx, w_tand, w_tor, w_tnot, w_cb, w_ck, w_mt, w_cons, w_nil, w_var, w_chain, w_sl, w_osome, w_onone, Pu.w_rev, w_dct0, w_for, w_iseq, w_irg1, w_lc, w_lc2, List.map_cons, List.map_nil, List.cons_append, List.nil_append, List.getElem?_cons_zero, List.getElem?_cons_succ, List.length_cons, List.length_nil, Option.some.injEq, exists_eq_left', w_some, List.replicate, List.set_cons_zero, List.set_cons_succ, frz_nil, frz_dat, frz_new, frz_new0, ne_ss, list_t, mk_nil, mk1, mk2, mk3, U.dat.injEq, PyData.int.injEq, PyData.bool.injEq, PyData.str.injEq, U.cell.injEq, add_ii, sub_ii, lt_ii, le_ii, gt_ii, ge_ii, eq_ii, ne_ii, eq_tt0, ne_tt0, eq_ds, sl_t, len_t, isi_int, isi_bool, isi_str, isi_tup, abs_i, min_ii, max_ii, int_i, int_b, mod_ii, fdiv_ii, mul_ii, pow_ii, add_ss, add_tt, mul_ti, repr_d, frzU_dat, and_true, true_and, and_assoc, List.cons.injEq, exists_and_left, exists_and_right, exists_eq_left, exists_eq_right, ix_t, ix_s, sl_s, len_s, is_non, Nat.reduceAdd, Nat.reduceSub, sz0, sz1, sz2, sz3, sz4, sz5, sz6, sz7, sz8, sz9, sz10, sz11, sz12, sz13, sz14, sz15, sz16, sz17, sz18, sz19, sz20, sz21, sz22, sz23, sz24, sz25, sz26, sz27, sz28, sz29, sz30]
    refine (ix_seq' (seq_cell (List.getElem?_concat_length ..))).mpr ?_
    have x78 : x = 7 ∨ x = 8 := by omega
    rcases x78 with rfl | rfl
    · refine ⟨_, rfl, q y _ (by omega) ((hh3.same ⟨_, rfl⟩).mono (by omega)) (((fr1.trans fr2).trans fr3).trans (Fr.of0 ⟨_, rfl⟩))⟩
    · refine ⟨_, rfl, q _ _ (by omega) ((hh3.same ⟨_, rfl⟩).mono (by omega)) (((fr1.trans fr2).trans fr3).trans (Fr.of0 ⟨_, rfl⟩))⟩
def NoteD (d : PyData) : Prop := d = .tuple [] ∨ ∃ a b c : Int, d = .tuple [.int a, .int b, .int c] ∧ a.natAbs < 10 ^ 60 ∧ b.natAbs < 1000 ∧ c.natAbs < 1000
theorem note_spec {M : Mem} {h n : Nat} {Q : U → Mem → Prop} (hh : Hand M h n) (hn : n + 6 ≤ 800000) (q : ∀ d M', NoteD d → Hand M' h (n + 6) → Fr h M M' → Q (.dat d) M') : W (m__law_note [.cell h] M) Q := by
  simp only [m__law_note, w_fn, w_ret, w_seq, w_sif, w_of, w_trn, w_op, w_snil, w_pass, w_retn, w_asg, w_gnm, w_gsb, w_gtp, w_gcn, w_gn0, w_par, w_aug, w_drop, w_c, w_k, w_lst, w_tup, w_and, w_or, w_not, w_neg, w_ifx, w_tand, w_tor, w_tnot, w_cb, w_ck, w_mt, w_cons, w_nil, w_var, w_chain, w_sl, w_osome, w_onone, Pu.w_rev, w_dct0, w_for, w_iseq, w_irg1, w_lc, w_lc2, List.map_cons, List.map_nil, List.cons_append, List.nil_append, List.getElem?_cons_zero, List.getElem?_cons_succ, List.length_cons, List.length_nil, Option.some.injEq, exists_eq_left', w_some, List.replicate, List.set_cons_zero, List.set_cons_succ, frz_nil, frz_dat, frz_new, frz_new0, ne_ss, list_t, mk_nil, mk1, mk2, mk3, U.dat.injEq, PyData.int.injEq, PyData.bool.injEq, PyData.str.injEq, U.cell.injEq, add_ii, sub_ii, lt_ii, le_ii, gt_ii, ge_ii, eq_ii, ne_ii, eq_tt0, ne_tt0, eq_ds, sl_t, len_t, isi_int, isi_bool, isi_str, isi_tup, abs_i, min_ii, max_ii, int_i, int_b, mod_ii, fdiv_ii, mul_ii, pow_ii, add_ss, add_tt, mul_ti, repr_d, frzU_dat, and_true, true_and, and_assoc, List.cons.injEq, exists_and_left, exists_and_right, exists_eq_left, exists_eq_right, ix_t, ix_s, sl_s, len_s, is_non, Nat.reduceAdd, Nat.reduceSub, sz0, sz1, sz2, sz3, sz4, sz5, sz6, sz7, sz8, sz9, sz10, sz11, sz12, sz13, sz14, sz15, sz16, sz17, sz18, sz19, sz20, sz21, sz22, sz23, sz24, sz25, sz26, sz27, sz28, sz29, sz30]
  refine take_spec hh (by omega) (by decide) (by decide) fun x M1 x0 x1 hh1 fr1 => ?_
  try simp only [w_fn, w_ret, w_seq, w_sif, w_of, w_trn, w_op, w_snil, w_pass, w_retn, w_asg, w_gnm, w_gsb, w_gtp, w_gcn, w_gn0, w_par, w_aug, w_drop, w_c, w_k, w_lst, w_tup, w_and, w_or, w_not, w_neg, w_ifx, w_tand, w_tor, w_tnot, w_cb, w_ck, w_mt, w_cons, w_nil, w_var, w_chain, w_sl, w_osome, w_onone, Pu.w_rev, w_dct0, w_for, w_iseq, w_irg1, w_lc, w_lc2, List.map_cons, List.map_nil, List.cons_append, List.nil_append, List.getElem?_cons_zero, List.getElem?_cons_succ, List.length_cons, List.length_nil, Option.some.injEq, exists_eq_left', w_some, List.replicate, List.set_cons_zero, List.set_cons_succ, frz_nil, frz_dat, frz_new, frz_new0, ne_ss, list_t, mk_nil, mk1, mk2, mk3, U.dat.injEq, PyData.int.injEq, PyData.bool.injEq, PyData.str.injEq, U.cell.injEq, add_ii, sub_ii, lt_ii, le_ii, gt_ii, ge_ii, eq_ii, ne_ii, eq_tt0, ne_tt0, eq_ds, sl_t, len_t, isi_int, isi_bool, isi_str, isi_tup, abs_i, min_ii, max_ii, int_i, int_b, mod_ii, fdiv_ii, mul_ii, pow_ii, add_ss, add_tt, mul_ti, repr_d, frzU_dat, and_true, true_and, and_assoc, List.cons.injEq, exists_and_left, exists_and_right, exists_eq_left, exists_eq_right, ix_t, ix_s, sl_s, len_s, is_non, Nat.reduceAdd, Nat.reduceSub, sz0, sz1, sz2, sz3, sz4, sz5, sz6, sz7, sz8, sz9, sz10, sz11, sz12, sz13, sz14, sz15, sz16, sz17, sz18, sz19, sz20, sz21, sz22, sz23, sz24, sz25, sz26, sz27, sz28, sz29, sz30]
  by_cases hx : x = 0
  · rw [decide_eq_true hx]
    simp only
    exact q _ M1 (.inl rfl) (hh1.mono (by omega)) fr1
  · rw [decide_eq_false hx]
    simp only
    refine number_spec hh1 (by omega) fun y M2 y1 hh2 fr2 => ?_
    have hlt2 := hh2.lt
    try simp only [w_fn, w_ret, w_seq, w_sif, w_of, w_trn, w_op, w_snil, w_pass, w_retn, w_asg, w_gnm, w_gsb, w_gtp, w_gcn, w_gn0, w_par, w_aug, w_drop, w_c, w_k, w_lst, w_tup, w_and, w_or, w_not, w_neg, w_ifx, w_tand, w_tor, w_tnot, w_cb, w_ck, w_mt, w_cons, w_nil, w_var, w_chain, w_sl, w_osome, w_onone, Pu.w_rev, w_dct0, w_for, w_iseq, w_irg1, w_lc, w_lc2, List.map_cons, List.map_nil, List.cons_append, List.nil_append, List.getElem?_cons_zero, List.getElem?_cons_succ, List.length_cons, List.length_nil, Option.some.injEq, exists_eq_left', w_some, List.replicate, List.set_cons_zero, List.set_cons_succ, frz_nil, frz_dat, frz_new, frz_new0, ne_ss, list_t, mk_nil, mk1, mk2, mk3, U.dat.injEq, PyData.int.injEq, PyData.bool.injEq, PyData.str.injEq, U.cell.injEq, add_ii, sub_ii, lt_ii, le_ii, gt_ii, ge_ii, eq_ii, ne_ii, eq_tt0, ne_tt0, eq_ds, sl_t, len_t, isi_int, isi_bool, isi_str, isi_tup, abs_i, min_ii, max_ii, int_i, int_b, mod_ii, fdiv_ii, mul_ii, pow_ii, add_ss, add_tt, mul_ti, repr_d, frzU_dat, and_true, true_and, and_assoc, List.cons.injEq, exists_and_left, exists_and_right, exists_eq_left, exists_eq_right, ix_t, ix_s, sl_s, len_s, is_non, Nat.reduceAdd, Nat.reduceSub, sz0, sz1, sz2, sz3, sz4, sz5, sz6, sz7, sz8, sz9, sz10, sz11, sz12, sz13, sz14, sz15, sz16, sz17, sz18, sz19, sz20, sz21, sz22, sz23, sz24, sz25, sz26, sz27, sz28, sz29, sz30]
    refine of_c (hh2.same ⟨_, rfl⟩) (by omega) (List.getElem?_concat_length ..) (by omega) (by simp) (by simp) fun u M3 hu hh3 fr3 => ?_
    obtain ⟨b, rfl, hb⟩ : ∃ b : Int, u = .dat (.int b) ∧ b.natAbs < 1000 := by
      simp only [List.mem_cons, List.not_mem_nil, or_false] at hu
      rcases hu with e | e | e | e | e
      all_goals exact ⟨_, e, by decide⟩
    refine take_spec hh3 (by omega) (by decide) (by decide) fun z M4 z0 z1 hh4 fr4 => ?_
    try simp only [w_fn, w_ret, w_seq, w_sif, w_of, w_trn, w_op, w_snil, w_pass, w_retn, w_asg, w_gnm, w_gsb, w_gtp, w_gcn, w_gn0, w_par, w_aug, w_drop, w_c, w_k, w_lst, w_tup, w_and, w_or, w_not, w_neg, w_ifx, w_tand, w_tor, w_tnot, w_cb, w_ck, w_mt, w_cons, w_nil, w_var, w_chain, w_sl, w_osome, w_onone, Pu.w_rev, w_dct0, w_for, w_iseq, w_irg1, w_lc, w_lc2, List.map_cons, List.map_nil, List.cons_append, List.nil_append, List.getElem?_cons_zero, List.getElem?_cons_succ, List.length_cons, List.length_nil, Option.some.injEq, exists_eq_left', w_some, List.replicate, List.set_cons_zero, List.set_cons_succ, frz_nil, frz_dat, frz_new, frz_new0, ne_ss, list_t, mk_nil, mk1, mk2, mk3, U.dat.injEq, PyData.int.injEq, PyData.bool.injEq, PyData.str.injEq, U.cell.injEq, add_ii, sub_ii, lt_ii, le_ii, gt_ii, ge_ii, eq_ii, ne_ii, eq_tt0, ne_tt0, eq_ds, sl_t, len_t, isi_int, isi_bool, isi_str, isi_tup, abs_i, min_ii, max_ii, int_i, int_b, mod_ii, fdiv_ii, mul_ii, pow_ii, add_ss, add_tt, mul_ti, repr_d, frzU_dat, and_true, true_and, and_assoc, List.cons.injEq, exists_and_left, exists_and_right, exists_eq_left, exists_eq_right, ix_t, ix_s, sl_s, len_s, is_non, Nat.reduceAdd, Nat.reduceSub, sz0, sz1, sz2, sz3, sz4, sz5, sz6, sz7, sz8, sz9, sz10, sz11, sz12, sz13, sz14, sz15, sz16, sz17, sz18, sz19, sz20, sz21, sz22, sz23, sz24, sz25, sz26, sz27, sz28, sz29, sz30]
    exact q _ M4 (.inr ⟨y, b, z, rfl, y1, hb, by omega⟩) (hh4.mono (by omega)) (((fr1.trans fr2).trans ((Fr.of0 ⟨_, rfl⟩).trans fr3)).trans fr4)
end Z

namespace Z
open PySem PySem.Spec PyProof.Rows L2 Lw Pu
def geN (d b : PyData) : Bool := !PySem.W.dataLt d b
theorem lt3 (a b c x y z : Int) : PySem.W.dataLt (.tuple [.int a, .int b, .int c]) (.tuple [.int x, .int y, .int z]) = if a = x then (if b = y then (if c = z then false else decide (c < z)) else decide (b < y)) else decide (a < x) := by
  have al : ∀ i j : Int, PySem.W.alike (.int i) (.int j) = true := fun i j => rfl
  have eq : ∀ i j : Int, PyData.eqv (.int i) (.int j) = decide (i = j) := fun i j => by
    simp only [PyData.eqv]
    by_cases h : i = j
    · simp [h]
    · simp [h]
  have e0 : PyProof.Rows.lexLt PyProof.Rows.itemOrd (PySem.W.keyToksAll []) (PySem.W.keyToksAll []) = false := by rfl
  rw [PySem.W.dataLt_tuple, PySem.W.dataLt_cons (al a x), PySem.W.dataLt_cons (al b y), PySem.W.dataLt_cons (al c z), e0, eq, eq, eq]
  simp only [decide_eq_true_eq, PySem.W.dataLt_int]
theorem lt0 (r : List PyData) (x : PyData) : PySem.W.dataLt (.tuple []) (.tuple (x :: r)) = true := by
  rw [PySem.W.dataLt_tuple]
  rfl
theorem cmp_ok {d b : PyData} (hd : NoteD d) {x y z : Int} (hb : b = .tuple [.int x, .int y, .int z]) : CmpOk d b := by
  subst hb
  rcases hd with rfl | ⟨p, q, r, rfl, _⟩
  · exact ⟨rfl, (fun h => by cases h), by decide⟩
  · refine ⟨?_, (fun h => by cases h), ?_⟩
    · rfl
    · show PyData.depth (.tuple [.int p, .int q, .int r]) ≤ 64
      simp [PyData.depth, PyData.depthAll]
def oneI (b d : PyData) : Int := if geN d b = true then 1 else 0
theorem p_one {d : PyData} (hd : NoteD d) (x y z : Int) (M : Mem) : W (m__law_is_one [.dat d, .dat (.tuple [.int x, .int y, .int z])] M) fun u M' => u = .dat (.int (oneI (.tuple [.int x, .int y, .int z]) d)) ∧ M' = M := by
  have wt : ∀ M', Wt M ([] ++ []) M' := fun M' c hc => by cases hc
  rcases hd with rfl | ⟨p, q, r, rfl, _⟩
  · simp only [m__law_is_one, w_fn, w_ret, w_seq, w_sif, w_of, w_trn, w_op, w_snil, w_pass, w_retn, w_asg, w_gnm, w_gsb, w_gtp, w_gcn, w_gn0, w_par, w_aug, w_drop, w_c, w_k, w_lst, w_tup, w_and, w_or, w_not, w_neg, w_ifx, w_tand, w_tor, w_tnot, w_cb, w_ck, w_mt, w_cons, w_nil, w_var, w_chain, w_sl, w_osome, w_onone, Pu.w_rev, w_dct0, w_for, w_iseq, w_irg1, w_lc, w_lc2, List.map_cons, List.map_nil, List.cons_append, List.nil_append, List.getElem?_cons_zero, List.getElem?_cons_succ, List.length_cons, List.length_nil, Option.some.injEq, exists_eq_left', w_some, List.replicate, List.set_cons_zero, List.set_cons_succ, frz_nil, frz_dat, frz_new, frz_new0, ne_ss, list_t, mk_nil, mk1, mk2, mk3, U.dat.injEq, PyData.int.injEq, PyData.bool.injEq, PyData.str.injEq, U.cell.injEq, add_ii, sub_ii, lt_ii, le_ii, gt_ii, ge_ii, eq_ii, ne_ii, eq_tt0, ne_tt0, eq_ds, sl_t, len_t, isi_int, isi_bool, isi_str, isi_tup, abs_i, min_ii, max_ii, int_i, int_b, mod_ii, fdiv_ii, mul_ii, pow_ii, add_ss, add_tt, mul_ti, repr_d, frzU_dat, and_true, true_and, and_assoc, List.cons.injEq, exists_and_left, exists_and_right, exists_eq_left, exists_eq_right, ix_t, ix_s, sl_s, len_s, is_non, Nat.reduceAdd, Nat.reduceSub, sz0, sz1, sz2, sz3, sz4, sz5, sz6, sz7, sz8, sz9, sz10, sz11, sz12, sz13, sz14, sz15, sz16, sz17, sz18, sz19, sz20, sz21, sz22, sz23, sz24, sz25, sz26, sz27, sz28, sz29, sz30]
    unfold oneI geN
    rw [lt0]
    rfl
  · simp only [m__law_is_one, w_izp, w_fn, w_ret, w_seq, w_sif, w_of, w_trn, w_op, w_snil, w_pass, w_retn, w_asg, w_gnm, w_gsb, w_gtp, w_gcn, w_gn0, w_par, w_aug, w_drop, w_c, w_k, w_lst, w_tup, w_and, w_or, w_not, w_neg, w_ifx, w_tand, w_tor, w_tnot, w_cb, w_ck, w_mt, w_cons, w_nil, w_var, w_chain, w_sl, w_osome, w_onone, Pu.w_rev, w_dct0, w_for, w_iseq, w_irg1, w_lc, w_lc2, List.map_cons, List.map_nil, List.cons_append, List.nil_append, List.getElem?_cons_zero, List.getElem?_cons_succ, List.length_cons, List.length_nil, Option.some.injEq, exists_eq_left', w_some, List.replicate, List.set_cons_zero, List.set_cons_succ, frz_nil, frz_dat, frz_new, frz_new0, ne_ss, list_t, mk_nil, mk1, mk2, mk3, U.dat.injEq, PyData.int.injEq, PyData.bool.injEq, PyData.str.injEq, U.cell.injEq, add_ii, sub_ii, lt_ii, le_ii, gt_ii, ge_ii, eq_ii, ne_ii, eq_tt0, ne_tt0, eq_ds, sl_t, len_t, isi_int, isi_bool, isi_str, isi_tup, abs_i, min_ii, max_ii, int_i, int_b, mod_ii, fdiv_ii, mul_ii, pow_ii, add_ss, add_tt, mul_ti, repr_d, frzU_dat, and_true, true_and, and_assoc, List.cons.injEq, exists_and_left, exists_and_right, exists_eq_left, exists_eq_right, ix_t, ix_s, sl_s, len_s, is_non, Nat.reduceAdd, Nat.reduceSub, sz0, sz1, sz2, sz3, sz4, sz5, sz6, sz7, sz8, sz9, sz10, sz11, sz12, sz13, sz14, sz15, sz16, sz17, sz18, sz19, sz20, sz21, sz22, sz23, sz24, sz25, sz26, sz27, sz28, sz29, sz30]
    rw [show decide (2 + 1 = 0) = false from rfl]
    simp only
    refine ⟨_, rfl, _, rfl, rfl, ?_⟩
    have e1 : ∀ s t : Int, tupK (.dat (.tuple [.int s, .int t])) = some [.dat (.int s), .dat (.int t)] := fun _ _ => rfl
    have ev : oneI (.tuple [.int x, .int y, .int z]) (.tuple [.int p, .int q, .int r]) = if (!(if p = x then (if q = y then (if r = z then false else decide (r < z)) else decide (q < y)) else decide (p < x))) = true then 1 else 0 := by
      unfold oneI geN
      rw [lt3]
    rw [ev]
    have wt2 : ∀ M', Wt M (cellsOf (.dat (.tuple [.int p, .int q, .int r])) ++ cellsOf (.dat (.tuple [.int x, .int y, .int z]))) M' := fun M' c hc => by cases hc
    simp only [List.map_cons, List.map_nil, zipU, w_forc, w_for0, e1, eq_true (wt2 _), w_fn, w_ret, w_seq, w_sif, w_of, w_trn, w_op, w_snil, w_pass, w_retn, w_asg, w_gnm, w_gsb, w_gtp, w_gcn, w_gn0, w_par, w_aug, w_drop, w_c, w_k, w_lst, w_tup, w_and, w_or, w_not, w_neg, w_ifx, w_tand, w_tor, w_tnot, w_cb, w_ck, w_mt, w_cons, w_nil, w_var, w_chain, w_sl, w_osome, w_onone, Pu.w_rev, w_dct0, w_for, w_iseq, w_irg1, w_lc, w_lc2, List.map_cons, List.map_nil, List.cons_append, List.nil_append, List.getElem?_cons_zero, List.getElem?_cons_succ, List.length_cons, List.length_nil, Option.some.injEq, exists_eq_left', w_some, List.replicate, List.set_cons_zero, List.set_cons_succ, frz_nil, frz_dat, frz_new, frz_new0, ne_ss, list_t, mk_nil, mk1, mk2, mk3, U.dat.injEq, PyData.int.injEq, PyData.bool.injEq, PyData.str.injEq, U.cell.injEq, add_ii, sub_ii, lt_ii, le_ii, gt_ii, ge_ii, eq_ii, ne_ii, eq_tt0, ne_tt0, eq_ds, sl_t, len_t, isi_int, isi_bool, isi_str, isi_tup, abs_i, min_ii, max_ii, int_i, int_b, mod_ii, fdiv_ii, mul_ii, pow_ii, add_ss, add_tt, mul_ti, repr_d, frzU_dat, and_true, true_and, and_assoc, List.cons.injEq, exists_and_left, exists_and_right, exists_eq_left, exists_eq_right, ix_t, ix_s, sl_s, len_s, is_non, Nat.reduceAdd, Nat.reduceSub, sz0, sz1, sz2, sz3, sz4, sz5, sz6, sz7, sz8, sz9, sz10, sz11, sz12, sz13, sz14, sz15, sz16, sz17, sz18, sz19, sz20, sz21, sz22, sz23, sz24, sz25, sz26, sz27, sz28, sz29, sz30]
    by_cases h1 : p = x
    · simp only [h1, decide_true, Bool.not_true, if_true, e1, w_fn, w_ret, w_seq, w_sif, w_of, w_trn, w_op, w_snil, w_pass, w_retn, w_asg, w_gnm, w_gsb, w_gtp, w_gcn, w_gn0, w_par, w_aug, w_drop, w_c, w_k, w_lst, w_tup, w_and, w_or, w_not, w_neg, w_ifx, w_tand, w_tor, w_tnot, w_cb, w_ck, w_mt, w_cons, w_nil, w_var, w_chain, w_sl, w_osome, w_onone, Pu.w_rev, w_dct0, w_for, w_iseq, w_irg1, w_lc, w_lc2, List.map_cons, List.map_nil, List.cons_append, List.nil_append, List.getElem?_cons_zero, List.getElem?_cons_succ, List.length_cons, List.length_nil, Option.some.injEq, exists_eq_left', w_some, List.replicate, List.set_cons_zero, List.set_cons_succ, frz_nil, frz_dat, frz_new, frz_new0, ne_ss, list_t, mk_nil, mk1, mk2, mk3, U.dat.injEq, PyData.int.injEq, PyData.bool.injEq, PyData.str.injEq, U.cell.injEq, add_ii, sub_ii, lt_ii, le_ii, gt_ii, ge_ii, eq_ii, ne_ii, eq_tt0, ne_tt0, eq_ds, sl_t, len_t, isi_int, isi_bool, isi_str, isi_tup, abs_i, min_ii, max_ii, int_i, int_b, mod_ii, fdiv_ii, mul_ii, pow_ii, add_ss, add_tt, mul_ti, repr_d, frzU_dat, and_true, true_and, and_assoc, List.cons.injEq, exists_and_left, exists_and_right, exists_eq_left, exists_eq_right, ix_t, ix_s, sl_s, len_s, is_non, Nat.reduceAdd, Nat.reduceSub, sz0, sz1, sz2, sz3, sz4, sz5, sz6, sz7, sz8, sz9, sz10, sz11, sz12, sz13, sz14, sz15, sz16, sz17, sz18, sz19, sz20, sz21, sz22, sz23, sz24, sz25, sz26, sz27, sz28, sz29, sz30]
      by_cases h2 : q = y
      · simp only [h2, decide_true, Bool.not_true, if_true, e1, w_fn, w_ret, w_seq, w_sif, w_of, w_trn, w_op, w_snil, w_pass, w_retn, w_asg, w_gnm, w_gsb, w_gtp, w_gcn, w_gn0, w_par, w_aug, w_drop, w_c, w_k, w_lst, w_tup, w_and, w_or, w_not, w_neg, w_ifx, w_tand, w_tor, w_tnot, w_cb, w_ck, w_mt, w_cons, w_nil, w_var, w_chain, w_sl, w_osome, w_onone, Pu.w_rev, w_dct0, w_for, w_iseq, w_irg1, w_lc, w_lc2, List.map_cons, List.map_nil, List.cons_append, List.nil_append, List.getElem?_cons_zero, List.getElem?_cons_succ, List.length_cons, List.length_nil, Option.some.injEq, exists_eq_left', w_some, List.replicate, List.set_cons_zero, List.set_cons_succ, frz_nil, frz_dat, frz_new, frz_new0, ne_ss, list_t, mk_nil, mk1, mk2, mk3, U.dat.injEq, PyData.int.injEq, PyData.bool.injEq, PyData.str.injEq, U.cell.injEq, add_ii, sub_ii, lt_ii, le_ii, gt_ii, ge_ii, eq_ii, ne_ii, eq_tt0, ne_tt0, eq_ds, sl_t, len_t, isi_int, isi_bool, isi_str, isi_tup, abs_i, min_ii, max_ii, int_i, int_b, mod_ii, fdiv_ii, mul_ii, pow_ii, add_ss, add_tt, mul_ti, repr_d, frzU_dat, and_true, true_and, and_assoc, List.cons.injEq, exists_and_left, exists_and_right, exists_eq_left, exists_eq_right, ix_t, ix_s, sl_s, len_s, is_non, Nat.reduceAdd, Nat.reduceSub, sz0, sz1, sz2, sz3, sz4, sz5, sz6, sz7, sz8, sz9, sz10, sz11, sz12, sz13, sz14, sz15, sz16, sz17, sz18, sz19, sz20, sz21, sz22, sz23, sz24, sz25, sz26, sz27, sz28, sz29, sz30]
        by_cases h3 : r = z
        · simp [h3]
        · simp [h3]
          by_cases h4 : z < r
          · simp [h4, Int.not_lt.mpr (Int.le_of_lt h4)]
          · have h5 : r < z := by omega
            simp [h4, h5]
      · simp [h2]
        by_cases h4 : y < q
        · simp [h4, Int.not_lt.mpr (Int.le_of_lt h4)]
        · have h5 : q < y := by omega
          simp [h4, h5]
    · simp [h1]
      by_cases h4 : x < p
      · simp [h4, Int.not_lt.mpr (Int.le_of_lt h4)]
      · have h5 : p < x := by omega
        simp [h4, h5]
theorem p_under {ds : List PyData} (hds : ∀ d ∈ ds, NoteD d) (hl : ds.length ≤ 100) (x y z : Int) (M : Mem) : W (m_under [.dat (.tuple ds), .dat (.tuple [.int x, .int y, .int z])] M) fun u M' => u = .dat (.tuple (ds.map fun d => .int (oneI (.tuple [.int x, .int y, .int z]) d))) ∧ Same0 M M' := by
  simp only [m_under, w_fn, w_ret, w_seq, w_sif, w_of, w_trn, w_op, w_snil, w_pass, w_retn, w_asg, w_gnm, w_gsb, w_gtp, w_gcn, w_gn0, w_par, w_aug, w_drop, w_c, w_k, w_lst, w_tup, w_and, w_or, w_not, w_neg, w_ifx, w_tand, w_tor, w_tnot, w_cb, w_ck, w_mt, w_cons, w_nil, w_var, w_chain, w_sl, w_osome, w_onone, Pu.w_rev, w_dct0, w_for, w_iseq, w_irg1, w_lc, w_lc2, List.map_cons, List.map_nil, List.cons_append, List.nil_append, List.getElem?_cons_zero, List.getElem?_cons_succ, List.length_cons, List.length_nil, Option.some.injEq, exists_eq_left', w_some, List.replicate, List.set_cons_zero, List.set_cons_succ, frz_nil, frz_dat, frz_new, frz_new0, ne_ss, list_t, mk_nil, mk1, mk2, mk3, U.dat.injEq, PyData.int.injEq, PyData.bool.injEq, PyData.str.injEq, U.cell.injEq, add_ii, sub_ii, lt_ii, le_ii, gt_ii, ge_ii, eq_ii, ne_ii, eq_tt0, ne_tt0, eq_ds, sl_t, len_t, isi_int, isi_bool, isi_str, isi_tup, abs_i, min_ii, max_ii, int_i, int_b, mod_ii, fdiv_ii, mul_ii, pow_ii, add_ss, add_tt, mul_ti, repr_d, frzU_dat, and_true, true_and, and_assoc, List.cons.injEq, exists_and_left, exists_and_right, exists_eq_left, exists_eq_right, ix_t, ix_s, sl_s, len_s, is_non, Nat.reduceAdd, Nat.reduceSub, sz0, sz1, sz2, sz3, sz4, sz5, sz6, sz7, sz8, sz9, sz10, sz11, sz12, sz13, sz14, sz15, sz16, sz17, sz18, sz19, sz20, sz21, sz22, sz23, sz24, sz25, sz26, sz27, sz28, sz29, sz30]
  refine ⟨_, rfl, ?_⟩
  obtain ⟨M2, e2, s2, g2⟩ := lc_pure (M1 := M) (ws := cellsOf (.dat (.tuple ds))) (g := gNm 2) (e := eIf (tOf (eOp geU (eVar 2) (eVar 1))) (eC (.int 1)) (eC (.int 0))) (ρ := wipeR [some (.dat (.tuple ds)), some (.dat (.tuple [.int x, .int y, .int z])), none] [2]) (items := ds.map .dat) (fun u => match u with | .dat d => .int (oneI (.tuple [.int x, .int y, .int z]) d) | _ => .none) (fun c hc => by cases hc) (by rw [List.length_map]; exact Nat.le_trans hl (by decide)) (fun u hu M' s => by
    obtain ⟨d, hd, rfl⟩ := List.mem_map.mp hu
    simp only [wipeR, w_fn, w_ret, w_seq, w_sif, w_of, w_trn, w_op, w_snil, w_pass, w_retn, w_asg, w_gnm, w_gsb, w_gtp, w_gcn, w_gn0, w_par, w_aug, w_drop, w_c, w_k, w_lst, w_tup, w_and, w_or, w_not, w_neg, w_ifx, w_tand, w_tor, w_tnot, w_cb, w_ck, w_mt, w_cons, w_nil, w_var, w_chain, w_sl, w_osome, w_onone, Pu.w_rev, w_dct0, w_for, w_iseq, w_irg1, w_lc, w_lc2, List.map_cons, List.map_nil, List.cons_append, List.nil_append, List.getElem?_cons_zero, List.getElem?_cons_succ, List.length_cons, List.length_nil, Option.some.injEq, exists_eq_left', w_some, List.replicate, List.set_cons_zero, List.set_cons_succ, frz_nil, frz_dat, frz_new, frz_new0, ne_ss, list_t, mk_nil, mk1, mk2, mk3, U.dat.injEq, PyData.int.injEq, PyData.bool.injEq, PyData.str.injEq, U.cell.injEq, add_ii, sub_ii, lt_ii, le_ii, gt_ii, ge_ii, eq_ii, ne_ii, eq_tt0, ne_tt0, eq_ds, sl_t, len_t, isi_int, isi_bool, isi_str, isi_tup, abs_i, min_ii, max_ii, int_i, int_b, mod_ii, fdiv_ii, mul_ii, pow_ii, add_ss, add_tt, mul_ti, repr_d, frzU_dat, and_true, true_and, and_assoc, List.cons.injEq, exists_and_left, exists_and_right, exists_eq_left, exists_eq_right, ix_t, ix_s, sl_s, len_s, is_non, Nat.reduceAdd, Nat.reduceSub, sz0, sz1, sz2, sz3, sz4, sz5, sz6, sz7, sz8, sz9, sz10, sz11, sz12, sz13, sz14, sz15, sz16, sz17, sz18, sz19, sz20, sz21, sz22, sz23, sz24, sz25, sz26, sz27, sz28, sz29, sz30]
    have nd := hds d hd
    have ok := cmp_ok nd (x := x) (y := y) (z := z) rfl
    obtain ⟨xs, rfl⟩ : ∃ xs, d = .tuple xs := by
      rcases nd with rfl | ⟨p, q, r, rfl, _⟩
      · exact ⟨_, rfl⟩
      · exact ⟨_, rfl⟩
    rw [ge_tt]
    refine ⟨ok, ?_⟩
    have ev : oneI (.tuple [.int x, .int y, .int z]) (.tuple xs) = if (!PySem.W.dataLt (.tuple xs) (.tuple [.int x, .int y, .int z])) = true then 1 else 0 := rfl
    rw [ev]
    cases PySem.W.dataLt (.tuple xs) (.tuple [.int x, .int y, .int z])
    · exact ⟨true, rfl, rfl, Same0.refl _⟩
    · exact ⟨false, rfl, rfl, Same0.refl _⟩)
  refine ⟨M2, e2, ?_⟩
  rw [List.map_map] at g2
  have g3 : M2[M.length]? = some (.lst false ((ds.map fun d => PyData.int (oneI (.tuple [.int x, .int y, .int z]) d)).map .dat)) := by
    rw [g2, List.map_map]
    rfl
  rw [tup_c g3, w_some]
  exact ⟨rfl, s2⟩
end Z

namespace Z
open PySem PySem.Spec PyProof.Rows L2 Lw Pu
def neP : PyData → Bool
  | .tuple xs => !decide (xs.length = 0)
  | _ => true
theorem gd_bits {ds : List PyData} {B : Nat} (h : ∀ d ∈ ds, ∃ i : Int, d = .int i ∧ i.natAbs < 10) (hB : 10 ≤ B) : Gd 2 (ds.length * 6) B (.tuple ds) :=
  (ga_all (n := 1) (m := 5) (B := B) fun d hd => by
    obtain ⟨i, rfl, hi⟩ := h d hd
    exact gd_small hi hB).tuple
theorem eqv_int (i j : Int) : PyData.eqv (.int i) (.int j) = decide (i = j) := by
  simp only [PyData.eqv]
  by_cases h : i = j
  · simp [h]
  · simp [h]
theorem eqvAll_ints : ∀ is : List Int, PyData.eqvAll (is.map .int) (is.map .int) = true
  | [] => rfl
  | i :: is => by
    rw [List.map_cons, PySem.W.eqv_all_cons, eqv_int, eqvAll_ints is]
    simp
theorem shaped_ints (is : List Int) : SeqAt.shaped (.tuple (is.map .int)) = true := by
  have h : ∀ is : List Int, PyData.depthAll (is.map .int) = 0 := PySem.W.depth_ints
  unfold SeqAt.shaped
  rw [Bool.and_eq_true]
  refine ⟨?_, ?_⟩
  · simp only [PyData.canLay0]
    induction is with
    | nil => rfl
    | cons i is ih => simp only [List.map_cons, PyData.canLayAll0, PyData.canLay0, ih, Bool.and_self]
  · simp only [PyData.depth, h]
    decide
theorem eq_ints (is : List Int) (M : Mem) : eqU (.dat (.tuple (is.map .int))) (.dat (.tuple (is.map .int))) M = some (.dat (.bool true), M) := by
  cases is with
  | nil => rfl
  | cons i is =>
    rw [eq_dd (shaped_ints _) (shaped_ints _) (fun z h => by cases h) (fun z h => by cases h) rfl]
    have : PyData.eqv (.tuple ((i :: is).map .int)) (.tuple ((i :: is).map .int)) = true := by
      simp only [PyData.eqv]
      exact eqvAll_ints (i :: is)
    rw [this]
theorem bars_spec {M : Mem} {h n : Nat} {Q : U → Mem → Prop} (hh : Hand M h n) (hn : n + 100 ≤ 800000) (q : ∀ M', Hand M' h (n + 100) → Fr h M M' → Q (.dat (.bool true)) M') : W (m__law_bars_right [.cell h] M) Q := by
  have hlt := hh.lt
  have big : ∀ z : Nat, z ≤ 1000 → z ≤ sizeLine := fun z hz => Nat.le_trans hz (by decide)
  simp only [m__law_bars_right, kb_under_0_held_bar, w_fn, w_ret, w_seq, w_sif, w_of, w_trn, w_op, w_snil, w_pass, w_retn, w_asg, w_gnm, w_gsb, w_gtp, w_gcn, w_gn0, w_par, w_aug, w_drop, w_c, w_k, w_lst, w_tup, w_and, w_or, w_not, w_neg, w_ifx, w_tand, w_tor, w_tnot, w_cb, w_ck, w_mt, w_cons, w_nil, w_var, w_chain, w_sl, w_osome, w_onone, Pu.w_rev, w_dct0, w_for, w_iseq, w_irg1, w_lc, w_lc2, List.map_cons, List.map_nil, List.cons_append, List.nil_append, List.getElem?_cons_zero, List.getElem?_cons_succ, List.length_cons, List.length_nil, Option.some.injEq, exists_eq_left', w_some, List.replicate, List.set_cons_zero, List.set_cons_succ, frz_nil, frz_dat, frz_new, frz_new0, ne_ss, list_t, mk_nil, mk1, mk2, mk3, U.dat.injEq, PyData.int.injEq, PyData.bool.injEq, PyData.str.injEq, U.cell.injEq, add_ii, sub_ii, lt_ii, le_ii, gt_ii, ge_ii, eq_ii, ne_ii, eq_tt0, ne_tt0, eq_ds, sl_t, len_t, isi_int, isi_bool, isi_str, isi_tup, abs_i, min_ii, max_ii, int_i, int_b, mod_ii, fdiv_ii, mul_ii, pow_ii, add_ss, add_tt, mul_ti, repr_d, frzU_dat, and_true, true_and, and_assoc, List.cons.injEq, exists_and_left, exists_and_right, exists_eq_left, exists_eq_right, ix_t, ix_s, sl_s, len_s, is_non, Nat.reduceAdd, Nat.reduceSub, sz0, sz1, sz2, sz3, sz4, sz5, sz6, sz7, sz8, sz9, sz10, sz11, sz12, sz13, sz14, sz15, sz16, sz17, sz18, sz19, sz20, sz21, sz22, sz23, sz24, sz25, sz26, sz27, sz28, sz29, sz30]
  refine take_spec hh (by omega) (by decide) (by decide) fun x M1 x0 x1 hh1 fr1 => ?_
  obtain ⟨k, hk⟩ : ∃ k : Nat, x = k := ⟨x.toNat, by omega⟩
  subst hk
  try simp only [w_fn, w_ret, w_seq, w_sif, w_of, w_trn, w_op, w_snil, w_pass, w_retn, w_asg, w_gnm, w_gsb, w_gtp, w_gcn, w_gn0, w_par, w_aug, w_drop, w_c, w_k, w_lst, w_tup, w_and, w_or, w_not, w_neg, w_ifx, w_tand, w_tor, w_tnot, w_cb, w_ck, w_mt, w_cons, w_nil, w_var, w_chain, w_sl, w_osome, w_onone, Pu.w_rev, w_dct0, w_for, w_iseq, w_irg1, w_lc, w_lc2, List.map_cons, List.map_nil, List.cons_append, List.nil_append, List.getElem?_cons_zero, List.getElem?_cons_succ, List.length_cons, List.length_nil, Option.some.injEq, exists_eq_left', w_some, List.replicate, List.set_cons_zero, List.set_cons_succ, frz_nil, frz_dat, frz_new, frz_new0, ne_ss, list_t, mk_nil, mk1, mk2, mk3, U.dat.injEq, PyData.int.injEq, PyData.bool.injEq, PyData.str.injEq, U.cell.injEq, add_ii, sub_ii, lt_ii, le_ii, gt_ii, ge_ii, eq_ii, ne_ii, eq_tt0, ne_tt0, eq_ds, sl_t, len_t, isi_int, isi_bool, isi_str, isi_tup, abs_i, min_ii, max_ii, int_i, int_b, mod_ii, fdiv_ii, mul_ii, pow_ii, add_ss, add_tt, mul_ti, repr_d, frzU_dat, and_true, true_and, and_assoc, List.cons.injEq, exists_and_left, exists_and_right, exists_eq_left, exists_eq_right, ix_t, ix_s, sl_s, len_s, is_non, Nat.reduceAdd, Nat.reduceSub, sz0, sz1, sz2, sz3, sz4, sz5, sz6, sz7, sz8, sz9, sz10, sz11, sz12, sz13, sz14, sz15, sz16, sz17, sz18, sz19, sz20, sz21, sz22, sz23, sz24, sz25, sz26, sz27, sz28, sz29, sz30]
  refine ⟨by omega, by omega, ?_⟩
  obtain ⟨M2, ds, e2, hh2, fr2, g2, len2, r2⟩ := lc_draw (M1 := M1) (ws := []) (g := gNm 4) (e := eCB m__law_note (aCons (eVar 0) aNil)) (ρ := wipeR [some (.cell h), none, none, none, none, none] [4]) (items := rangeU 0 (k : Int).toNat)
    (fun M' j => Hand M' h (n + 1 + 6 * j)) h (fun _ d => NoteD d) (fun M' j x hx => hx.set (by have := hh1.lt; omega)) (fun c hc => by cases hc) (by rw [range_len]; exact big _ (by omega)) hh1.lt (hh1.same ⟨_, rfl⟩) (fun j u M' hj hx fr => by
      obtain ⟨hj1, rfl⟩ := range_get hj
      have hj7 : j < 7 := by omega
      simp only [wipeR, w_fn, w_ret, w_seq, w_sif, w_of, w_trn, w_op, w_snil, w_pass, w_retn, w_asg, w_gnm, w_gsb, w_gtp, w_gcn, w_gn0, w_par, w_aug, w_drop, w_c, w_k, w_lst, w_tup, w_and, w_or, w_not, w_neg, w_ifx, w_tand, w_tor, w_tnot, w_cb, w_ck, w_mt, w_cons, w_nil, w_var, w_chain, w_sl, w_osome, w_onone, Pu.w_rev, w_dct0, w_for, w_iseq, w_irg1, w_lc, w_lc2, List.map_cons, List.map_nil, List.cons_append, List.nil_append, List.getElem?_cons_zero, List.getElem?_cons_succ, List.length_cons, List.length_nil, Option.some.injEq, exists_eq_left', w_some, List.replicate, List.set_cons_zero, List.set_cons_succ, frz_nil, frz_dat, frz_new, frz_new0, ne_ss, list_t, mk_nil, mk1, mk2, mk3, U.dat.injEq, PyData.int.injEq, PyData.bool.injEq, PyData.str.injEq, U.cell.injEq, add_ii, sub_ii, lt_ii, le_ii, gt_ii, ge_ii, eq_ii, ne_ii, eq_tt0, ne_tt0, eq_ds, sl_t, len_t, isi_int, isi_bool, isi_str, isi_tup, abs_i, min_ii, max_ii, int_i, int_b, mod_ii, fdiv_ii, mul_ii, pow_ii, add_ss, add_tt, mul_ti, repr_d, frzU_dat, and_true, true_and, and_assoc, List.cons.injEq, exists_and_left, exists_and_right, exists_eq_left, exists_eq_right, ix_t, ix_s, sl_s, len_s, is_non, Nat.reduceAdd, Nat.reduceSub, sz0, sz1, sz2, sz3, sz4, sz5, sz6, sz7, sz8, sz9, sz10, sz11, sz12, sz13, sz14, sz15, sz16, sz17, sz18, sz19, sz20, sz21, sz22, sz23, sz24, sz25, sz26, sz27, sz28, sz29, sz30]
      refine note_spec hx (by omega) fun d M'' nd h'' fr'' => ⟨d, rfl, nd, h''.mono (by omega), fr''⟩)
  refine ⟨M2, e2, ?_⟩
  rw [range_len] at hh2 len2
  have hds : ∀ d ∈ ds, NoteD d := fun d hd => by
    obtain ⟨u, _, h1⟩ := all_at (R := fun _ d => NoteD d) (by rw [range_len]; exact len2) r2 d hd
    exact h1
  have hdl : ds.length ≤ 6 := by omega
  rw [tup_c g2, w_some]
  have hh2' : Hand M2 h (n + 50) := hh2.mono (by omega)
  have fr02 := fr1.trans fr2
  try simp only [w_fn, w_ret, w_seq, w_sif, w_of, w_trn, w_op, w_snil, w_pass, w_retn, w_asg, w_gnm, w_gsb, w_gtp, w_gcn, w_gn0, w_par, w_aug, w_drop, w_c, w_k, w_lst, w_tup, w_and, w_or, w_not, w_neg, w_ifx, w_tand, w_tor, w_tnot, w_cb, w_ck, w_mt, w_cons, w_nil, w_var, w_chain, w_sl, w_osome, w_onone, Pu.w_rev, w_dct0, w_for, w_iseq, w_irg1, w_lc, w_lc2, List.map_cons, List.map_nil, List.cons_append, List.nil_append, List.getElem?_cons_zero, List.getElem?_cons_succ, List.length_cons, List.length_nil, Option.some.injEq, exists_eq_left', w_some, List.replicate, List.set_cons_zero, List.set_cons_succ, frz_nil, frz_dat, frz_new, frz_new0, ne_ss, list_t, mk_nil, mk1, mk2, mk3, U.dat.injEq, PyData.int.injEq, PyData.bool.injEq, PyData.str.injEq, U.cell.injEq, add_ii, sub_ii, lt_ii, le_ii, gt_ii, ge_ii, eq_ii, ne_ii, eq_tt0, ne_tt0, eq_ds, sl_t, len_t, isi_int, isi_bool, isi_str, isi_tup, abs_i, min_ii, max_ii, int_i, int_b, mod_ii, fdiv_ii, mul_ii, pow_ii, add_ss, add_tt, mul_ti, repr_d, frzU_dat, and_true, true_and, and_assoc, List.cons.injEq, exists_and_left, exists_and_right, exists_eq_left, exists_eq_right, ix_t, ix_s, sl_s, len_s, is_non, Nat.reduceAdd, Nat.reduceSub, sz0, sz1, sz2, sz3, sz4, sz5, sz6, sz7, sz8, sz9, sz10, sz11, sz12, sz13, sz14, sz15, sz16, sz17, sz18, sz19, sz20, sz21, sz22, sz23, sz24, sz25, sz26, sz27, sz28, sz29, sz30]
  refine ⟨_, rfl, ?_⟩
  obtain ⟨M3, e3, s3, g3⟩ := lc_filter (M1 := M2) (ws := cellsOf (.dat (.tuple ds))) (g := gNm 5) (c := tOf (eOp neU (eVar 5) (eTup aNil))) (e := eVar 5) (ρ := wipeR [some (.cell h), some (.dat (.tuple ds)), none, none, none, none] [5]) neP id (fun c hc => by cases hc) ds (M2 ++ [.lst false []]) [] (by simpa using big _ (by omega)) ⟨_, rfl⟩ (List.getElem?_concat_length ..) (fun d hd M' s => by
    have nd := hds d hd
    obtain ⟨xs, rfl⟩ : ∃ xs, d = .tuple xs := by
      rcases nd with rfl | ⟨p, q, r, rfl, _⟩
      · exact ⟨_, rfl⟩
      · exact ⟨_, rfl⟩
    simp only [wipeR, w_fn, w_ret, w_seq, w_sif, w_of, w_trn, w_op, w_snil, w_pass, w_retn, w_asg, w_gnm, w_gsb, w_gtp, w_gcn, w_gn0, w_par, w_aug, w_drop, w_c, w_k, w_lst, w_tup, w_and, w_or, w_not, w_neg, w_ifx, w_tand, w_tor, w_tnot, w_cb, w_ck, w_mt, w_cons, w_nil, w_var, w_chain, w_sl, w_osome, w_onone, Pu.w_rev, w_dct0, w_for, w_iseq, w_irg1, w_lc, w_lc2, List.map_cons, List.map_nil, List.cons_append, List.nil_append, List.getElem?_cons_zero, List.getElem?_cons_succ, List.length_cons, List.length_nil, Option.some.injEq, exists_eq_left', w_some, List.replicate, List.set_cons_zero, List.set_cons_succ, frz_nil, frz_dat, frz_new, frz_new0, ne_ss, list_t, mk_nil, mk1, mk2, mk3, U.dat.injEq, PyData.int.injEq, PyData.bool.injEq, PyData.str.injEq, U.cell.injEq, add_ii, sub_ii, lt_ii, le_ii, gt_ii, ge_ii, eq_ii, ne_ii, eq_tt0, ne_tt0, eq_ds, sl_t, len_t, isi_int, isi_bool, isi_str, isi_tup, abs_i, min_ii, max_ii, int_i, int_b, mod_ii, fdiv_ii, mul_ii, pow_ii, add_ss, add_tt, mul_ti, repr_d, frzU_dat, and_true, true_and, and_assoc, List.cons.injEq, exists_and_left, exists_and_right, exists_eq_left, exists_eq_right, ix_t, ix_s, sl_s, len_s, is_non, Nat.reduceAdd, Nat.reduceSub, sz0, sz1, sz2, sz3, sz4, sz5, sz6, sz7, sz8, sz9, sz10, sz11, sz12, sz13, sz14, sz15, sz16, sz17, sz18, sz19, sz20, sz21, sz22, sz23, sz24, sz25, sz26, sz27, sz28, sz29, sz30]
    exact ⟨rfl, Same0.refl _, fun _ => ⟨rfl, Same0.refl _⟩⟩)
  refine ⟨M3, e3, ?_⟩
  rw [List.nil_append, List.map_id] at g3
  have l3 : M2.length < M3.length := (List.getElem?_eq_some_iff.mp g3).1
  have hlt2 := hh2.lt
  refine number_spec (hh2'.same s3) (by omega) fun a M4 ha hh4 fr4 => ?_
  try simp only [w_fn, w_ret, w_seq, w_sif, w_of, w_trn, w_op, w_snil, w_pass, w_retn, w_asg, w_gnm, w_gsb, w_gtp, w_gcn, w_gn0, w_par, w_aug, w_drop, w_c, w_k, w_lst, w_tup, w_and, w_or, w_not, w_neg, w_ifx, w_tand, w_tor, w_tnot, w_cb, w_ck, w_mt, w_cons, w_nil, w_var, w_chain, w_sl, w_osome, w_onone, Pu.w_rev, w_dct0, w_for, w_iseq, w_irg1, w_lc, w_lc2, List.map_cons, List.map_nil, List.cons_append, List.nil_append, List.getElem?_cons_zero, List.getElem?_cons_succ, List.length_cons, List.length_nil, Option.some.injEq, exists_eq_left', w_some, List.replicate, List.set_cons_zero, List.set_cons_succ, frz_nil, frz_dat, frz_new, frz_new0, ne_ss, list_t, mk_nil, mk1, mk2, mk3, U.dat.injEq, PyData.int.injEq, PyData.bool.injEq, PyData.str.injEq, U.cell.injEq, add_ii, sub_ii, lt_ii, le_ii, gt_ii, ge_ii, eq_ii, ne_ii, eq_tt0, ne_tt0, eq_ds, sl_t, len_t, isi_int, isi_bool, isi_str, isi_tup, abs_i, min_ii, max_ii, int_i, int_b, mod_ii, fdiv_ii, mul_ii, pow_ii, add_ss, add_tt, mul_ti, repr_d, frzU_dat, and_true, true_and, and_assoc, List.cons.injEq, exists_and_left, exists_and_right, exists_eq_left, exists_eq_right, ix_t, ix_s, sl_s, len_s, is_non, Nat.reduceAdd, Nat.reduceSub, sz0, sz1, sz2, sz3, sz4, sz5, sz6, sz7, sz8, sz9, sz10, sz11, sz12, sz13, sz14, sz15, sz16, sz17, sz18, sz19, sz20, sz21, sz22, sz23, sz24, sz25, sz26, sz27, sz28, sz29, sz30]
  refine take_spec hh4 (by omega) (by decide) (by decide) fun b M5 b0 b1 hh5 fr5 => ?_
  try simp only [w_fn, w_ret, w_seq, w_sif, w_of, w_trn, w_op, w_snil, w_pass, w_retn, w_asg, w_gnm, w_gsb, w_gtp, w_gcn, w_gn0, w_par, w_aug, w_drop, w_c, w_k, w_lst, w_tup, w_and, w_or, w_not, w_neg, w_ifx, w_tand, w_tor, w_tnot, w_cb, w_ck, w_mt, w_cons, w_nil, w_var, w_chain, w_sl, w_osome, w_onone, Pu.w_rev, w_dct0, w_for, w_iseq, w_irg1, w_lc, w_lc2, List.map_cons, List.map_nil, List.cons_append, List.nil_append, List.getElem?_cons_zero, List.getElem?_cons_succ, List.length_cons, List.length_nil, Option.some.injEq, exists_eq_left', w_some, List.replicate, List.set_cons_zero, List.set_cons_succ, frz_nil, frz_dat, frz_new, frz_new0, ne_ss, list_t, mk_nil, mk1, mk2, mk3, U.dat.injEq, PyData.int.injEq, PyData.bool.injEq, PyData.str.injEq, U.cell.injEq, add_ii, sub_ii, lt_ii, le_ii, gt_ii, ge_ii, eq_ii, ne_ii, eq_tt0, ne_tt0, eq_ds, sl_t, len_t, isi_int, isi_bool, isi_str, isi_tup, abs_i, min_ii, max_ii, int_i, int_b, mod_ii, fdiv_ii, mul_ii, pow_ii, add_ss, add_tt, mul_ti, repr_d, frzU_dat, and_true, true_and, and_assoc, List.cons.injEq, exists_and_left, exists_and_right, exists_eq_left, exists_eq_right, ix_t, ix_s, sl_s, len_s, is_non, Nat.reduceAdd, Nat.reduceSub, sz0, sz1, sz2, sz3, sz4, sz5, sz6, sz7, sz8, sz9, sz10, sz11, sz12, sz13, sz14, sz15, sz16, sz17, sz18, sz19, sz20, sz21, sz22, sz23, sz24, sz25, sz26, sz27, sz28, sz29, sz30]
  have g5 := fr5.at (fr4.at g3 (by omega)) (by omega)
  have l5 := fr5.len
  have l4 := fr4.len
  rw [add_ll (lst_cell (get_app g5)) (lst_cell (us := [.dat (.tuple [.int a, .int b, .int 1])]) (f := true) (List.getElem?_concat_length ..))]
  refine ⟨big _ ?_, ?_⟩
  · have := List.length_filter_le neP ds
    simp only [List.length_map, List.length_cons, List.length_nil]
    omega
  refine of_c ((hh5.same ⟨_, rfl⟩).same ⟨_, rfl⟩) (by omega) (List.getElem?_concat_length ..) (by simp only [List.length_append, List.length_cons, List.length_nil]; omega) (by simp) ?_ fun u M6 hu hh6 fr6 => ?_
  · have := List.length_filter_le neP ds
    simp only [List.length_append, List.length_map, List.length_cons, List.length_nil]
    omega
  have fr06 : Fr h M M6 := (((fr02.trans (Fr.of0 s3)).trans fr4).trans fr5).trans (((Fr.of0 ⟨_, rfl⟩).trans (Fr.of0 ⟨_, rfl⟩)).trans fr6)
  have hh6' : Hand M6 h (n + 100) := hh6.mono (by omega)
  obtain ⟨x, y, z, rfl⟩ : ∃ x y z : Int, u = .dat (.tuple [.int x, .int y, .int z]) := by
    rcases List.mem_append.mp hu with hu | hu
    · obtain ⟨d, hd, rfl⟩ := List.mem_map.mp hu
      obtain ⟨hd1, hd2⟩ := List.mem_filter.mp hd
      rcases hds d hd1 with rfl | ⟨p, q, r, rfl, _⟩
      · cases hd2
      · exact ⟨_, _, _, rfl⟩
    · rw [List.mem_singleton.mp hu]
      exact ⟨_, _, _, rfl⟩
  try simp only [w_fn, w_ret, w_seq, w_sif, w_of, w_trn, w_op, w_snil, w_pass, w_retn, w_asg, w_gnm, w_gsb, w_gtp, w_gcn, w_gn0, w_par, w_aug, w_drop, w_c, w_k, w_lst, w_tup, w_and, w_or, w_not, w_neg, w_ifx, w_tand, w_tor, w_tnot, w_cb, w_ck, w_mt, w_cons, w_nil, w_var, w_chain, w_sl, w_osome, w_onone, Pu.w_rev, w_dct0, w_for, w_iseq, w_irg1, w_lc, w_lc2, List.map_cons, List.map_nil, List.cons_append, List.nil_append, List.getElem?_cons_zero, List.getElem?_cons_succ, List.length_cons, List.length_nil, Option.some.injEq, exists_eq_left', w_some, List.replicate, List.set_cons_zero, List.set_cons_succ, frz_nil, frz_dat, frz_new, frz_new0, ne_ss, list_t, mk_nil, mk1, mk2, mk3, U.dat.injEq, PyData.int.injEq, PyData.bool.injEq, PyData.str.injEq, U.cell.injEq, add_ii, sub_ii, lt_ii, le_ii, gt_ii, ge_ii, eq_ii, ne_ii, eq_tt0, ne_tt0, eq_ds, sl_t, len_t, isi_int, isi_bool, isi_str, isi_tup, abs_i, min_ii, max_ii, int_i, int_b, mod_ii, fdiv_ii, mul_ii, pow_ii, add_ss, add_tt, mul_ti, repr_d, frzU_dat, and_true, true_and, and_assoc, List.cons.injEq, exists_and_left, exists_and_right, exists_eq_left, exists_eq_right, ix_t, ix_s, sl_s, len_s, is_non, Nat.reduceAdd, Nat.reduceSub, sz0, sz1, sz2, sz3, sz4, sz5, sz6, sz7, sz8, sz9, sz10, sz11, sz12, sz13, sz14, sz15, sz16, sz17, sz18, sz19, sz20, sz21, sz22, sz23, sz24, sz25, sz26, sz27, sz28, sz29, sz30]
  obtain ⟨u7, M7, e7, rfl, s7⟩ := p_under hds (by omega) x y z M6
  refine ⟨_, M7, e7, ?_⟩
  try simp only [w_fn, w_ret, w_seq, w_sif, w_of, w_trn, w_op, w_snil, w_pass, w_retn, w_asg, w_gnm, w_gsb, w_gtp, w_gcn, w_gn0, w_par, w_aug, w_drop, w_c, w_k, w_lst, w_tup, w_and, w_or, w_not, w_neg, w_ifx, w_tand, w_tor, w_tnot, w_cb, w_ck, w_mt, w_cons, w_nil, w_var, w_chain, w_sl, w_osome, w_onone, Pu.w_rev, w_dct0, w_for, w_iseq, w_irg1, w_lc, w_lc2, List.map_cons, List.map_nil, List.cons_append, List.nil_append, List.getElem?_cons_zero, List.getElem?_cons_succ, List.length_cons, List.length_nil, Option.some.injEq, exists_eq_left', w_some, List.replicate, List.set_cons_zero, List.set_cons_succ, frz_nil, frz_dat, frz_new, frz_new0, ne_ss, list_t, mk_nil, mk1, mk2, mk3, U.dat.injEq, PyData.int.injEq, PyData.bool.injEq, PyData.str.injEq, U.cell.injEq, add_ii, sub_ii, lt_ii, le_ii, gt_ii, ge_ii, eq_ii, ne_ii, eq_tt0, ne_tt0, eq_ds, sl_t, len_t, isi_int, isi_bool, isi_str, isi_tup, abs_i, min_ii, max_ii, int_i, int_b, mod_ii, fdiv_ii, mul_ii, pow_ii, add_ss, add_tt, mul_ti, repr_d, frzU_dat, and_true, true_and, and_assoc, List.cons.injEq, exists_and_left, exists_and_right, exists_eq_left, exists_eq_right, ix_t, ix_s, sl_s, len_s, is_non, Nat.reduceAdd, Nat.reduceSub, sz0, sz1, sz2, sz3, sz4, sz5, sz6, sz7, sz8, sz9, sz10, sz11, sz12, sz13, sz14, sz15, sz16, sz17, sz18, sz19, sz20, sz21, sz22, sz23, sz24, sz25, sz26, sz27, sz28, sz29, sz30]
  have one01 : ∀ d : PyData, oneI (.tuple [.int x, .int y, .int z]) d = 1 ∨ oneI (.tuple [.int x, .int y, .int z]) d = 0 := fun d => by
    unfold oneI
    split
    · exact .inl rfl
    · exact .inr rfl
  have gdt : Gd 2 (ds.length * 6) 10 (.tuple (ds.map fun d => .int (oneI (.tuple [.int x, .int y, .int z]) d))) := by
    have := gd_bits (ds := ds.map fun d => .int (oneI (.tuple [.int x, .int y, .int z]) d)) (B := 10) (fun d hd => by
      obtain ⟨e, _, rfl⟩ := List.mem_map.mp hd
      exact ⟨_, rfl, by rcases one01 e with h | h <;> rw [h] <;> decide⟩) (Nat.le_refl _)
    rw [List.length_map] at this
    exact this
  have ok := gdt.bd.ok (by decide) (by omega)
  refine ⟨ok, _, rfl, ?_⟩
  obtain ⟨M8, e8, s8, g8⟩ := lc_pure (M1 := M7) (ws := cellsOf (.dat (.tuple ds))) (g := gNm 5) (e := eCB m__law_is_one (aCons (eVar 5) (aCons (eVar 2) aNil))) (ρ := wipeR [some (.cell h), some (.dat (.tuple ds)), some (.dat (.tuple [.int x, .int y, .int z])), some (.dat (.tuple (ds.map fun d => .int (oneI (.tuple [.int x, .int y, .int z]) d)))), none, none] [5]) (items := ds.map .dat) (fun u => match u with | .dat d => .int (oneI (.tuple [.int x, .int y, .int z]) d) | _ => .none) (fun c hc => by cases hc) (by rw [List.length_map]; exact big _ (by omega)) (fun u hu M' s => by
    obtain ⟨d, hd, rfl⟩ := List.mem_map.mp hu
    simp only [wipeR, w_fn, w_ret, w_seq, w_sif, w_of, w_trn, w_op, w_snil, w_pass, w_retn, w_asg, w_gnm, w_gsb, w_gtp, w_gcn, w_gn0, w_par, w_aug, w_drop, w_c, w_k, w_lst, w_tup, w_and, w_or, w_not, w_neg, w_ifx, w_tand, w_tor, w_tnot, w_cb, w_ck, w_mt, w_cons, w_nil, w_var, w_chain, w_sl, w_osome, w_onone, Pu.w_rev, w_dct0, w_for, w_iseq, w_irg1, w_lc, w_lc2, List.map_cons, List.map_nil, List.cons_append, List.nil_append, List.getElem?_cons_zero, List.getElem?_cons_succ, List.length_cons, List.length_nil, Option.some.injEq, exists_eq_left', w_some, List.replicate, List.set_cons_zero, List.set_cons_succ, frz_nil, frz_dat, frz_new, frz_new0, ne_ss, list_t, mk_nil, mk1, mk2, mk3, U.dat.injEq, PyData.int.injEq, PyData.bool.injEq, PyData.str.injEq, U.cell.injEq, add_ii, sub_ii, lt_ii, le_ii, gt_ii, ge_ii, eq_ii, ne_ii, eq_tt0, ne_tt0, eq_ds, sl_t, len_t, isi_int, isi_bool, isi_str, isi_tup, abs_i, min_ii, max_ii, int_i, int_b, mod_ii, fdiv_ii, mul_ii, pow_ii, add_ss, add_tt, mul_ti, repr_d, frzU_dat, and_true, true_and, and_assoc, List.cons.injEq, exists_and_left, exists_and_right, exists_eq_left, exists_eq_right, ix_t, ix_s, sl_s, len_s, is_non, Nat.reduceAdd, Nat.reduceSub, sz0, sz1, sz2, sz3, sz4, sz5, sz6, sz7, sz8, sz9, sz10, sz11, sz12, sz13, sz14, sz15, sz16, sz17, sz18, sz19, sz20, sz21, sz22, sz23, sz24, sz25, sz26, sz27, sz28, sz29, sz30]
    obtain ⟨u9, M9, e9, rfl, rfl⟩ := p_one (hds d hd) x y z M'
    exact ⟨_, _, e9, rfl, Same0.refl _⟩)
  refine ⟨M8, e8, ?_⟩
  rw [List.map_map] at g8
  have g9 : M8[M7.length]? = some (.lst false ((ds.map fun d => PyData.int (oneI (.tuple [.int x, .int y, .int z]) d)).map .dat)) := by
    rw [g8, List.map_map]
    rfl
  rw [tup_c g9, w_some]
  try simp only [w_fn, w_ret, w_seq, w_sif, w_of, w_trn, w_op, w_snil, w_pass, w_retn, w_asg, w_gnm, w_gsb, w_gtp, w_gcn, w_gn0, w_par, w_aug, w_drop, w_c, w_k, w_lst, w_tup, w_and, w_or, w_not, w_neg, w_ifx, w_tand, w_tor, w_tnot, w_cb, w_ck, w_mt, w_cons, w_nil, w_var, w_chain, w_sl, w_osome, w_onone, Pu.w_rev, w_dct0, w_for, w_iseq, w_irg1, w_lc, w_lc2, List.map_cons, List.map_nil, List.cons_append, List.nil_append, List.getElem?_cons_zero, List.getElem?_cons_succ, List.length_cons, List.length_nil, Option.some.injEq, exists_eq_left', w_some, List.replicate, List.set_cons_zero, List.set_cons_succ, frz_nil, frz_dat, frz_new, frz_new0, ne_ss, list_t, mk_nil, mk1, mk2, mk3, U.dat.injEq, PyData.int.injEq, PyData.bool.injEq, PyData.str.injEq, U.cell.injEq, add_ii, sub_ii, lt_ii, le_ii, gt_ii, ge_ii, eq_ii, ne_ii, eq_tt0, ne_tt0, eq_ds, sl_t, len_t, isi_int, isi_bool, isi_str, isi_tup, abs_i, min_ii, max_ii, int_i, int_b, mod_ii, fdiv_ii, mul_ii, pow_ii, add_ss, add_tt, mul_ti, repr_d, frzU_dat, and_true, true_and, and_assoc, List.cons.injEq, exists_and_left, exists_and_right, exists_eq_left, exists_eq_right, ix_t, ix_s, sl_s, len_s, is_non, Nat.reduceAdd, Nat.reduceSub, sz0, sz1, sz2, sz3, sz4, sz5, sz6, sz7, sz8, sz9, sz10, sz11, sz12, sz13, sz14, sz15, sz16, sz17, sz18, sz19, sz20, sz21, sz22, sz23, sz24, sz25, sz26, sz27, sz28, sz29, sz30]
  refine ⟨ok, ?_⟩
  have hst : ∀ t : Str, strIs t (.str t) = true := fun t => by simp [strIs]
  rw [hst]
  simp only
  obtain ⟨u10, M10, e10, rfl, s10⟩ := p_under hds (by omega) x y z M8
  refine ⟨_, M10, e10, ?_⟩
  have em : (ds.map fun d => PyData.int (oneI (.tuple [.int x, .int y, .int z]) d)) = (ds.map fun d => oneI (.tuple [.int x, .int y, .int z]) d).map PyData.int := by rw [List.map_map]; rfl
  simp only [em]
  rw [eq_ints, w_some]
  have s610 := (s7.trans s8).trans s10
  exact q M10 (hh6'.same s610) (fr06.trans (Fr.of0 s610))
end Z

namespace Z
open PySem PySem.Spec PyProof.Rows L2 Lw Pu
def rowL : Nat → List (List Int)
  | 0 => [[]]
  | k + 1 => (rowL k).flatMap fun r => [r ++ [0], r ++ [1]]
def rowD (r : List Int) : PyData := .tuple (r.map .int)
def rowF : U → List PyData
  | .dat (.tuple xs) => [.tuple (xs ++ [.int 0]), .tuple (xs ++ [.int 1])]
  | _ => []
theorem rowF_map : ∀ rs : List (List Int), (rs.map fun r => U.dat (rowD r)).flatMap rowF = (rs.flatMap fun r => [r ++ [0], r ++ [1]]).map rowD
  | [] => rfl
  | r :: rs => by
    rw [List.map_cons, List.flatMap_cons, rowF_map rs, List.flatMap_cons, List.map_append]
    congr 1
    show [PyData.tuple (r.map .int ++ [.int 0]), .tuple (r.map .int ++ [.int 1])] = [PyData.tuple ((r ++ [0]).map .int), .tuple ((r ++ [1]).map .int)]
    rw [List.map_append, List.map_append]
    rfl
def RwI (M : Mem) (kk : Int) (k : Nat) (ρ : Pu.Env) (M' : Mem) : Prop := ∃ (c : Nat) (f : Bool) (y2 : Option U), ρ = [some (.dat (.int kk)), some (.cell c), y2, none, none] ∧ M'[c]? = some (.lst f ((rowL k).map fun r => U.dat (rowD r))) ∧ Same0 M M' ∧ M.length ≤ c
theorem rowL_len : ∀ k, k ≤ 3 → (rowL k).length ≤ 8
  | 0, _ => by decide
  | 1, _ => by decide
  | 2, _ => by decide
  | 3, _ => by decide
theorem rowL_mem : ∀ (k : Nat) (r : List Int), r ∈ rowL k → r.length = k ∧ ∀ i ∈ r, i = 0 ∨ i = 1
  | 0, r, h => by
    rw [show r = [] from List.mem_singleton.mp h]
    exact ⟨rfl, fun i hi => by cases hi⟩
  | k + 1, r, h => by
    obtain ⟨q, hq, hr⟩ := List.mem_flatMap.mp h
    obtain ⟨h1, h2⟩ := rowL_mem k q hq
    simp only [List.mem_cons, List.not_mem_nil, or_false] at hr
    rcases hr with rfl | rfl
    · refine ⟨by simp [h1], fun i hi => ?_⟩
      rcases List.mem_append.mp hi with hi | hi
      · exact h2 i hi
      · exact .inl (List.mem_singleton.mp hi)
    · refine ⟨by simp [h1], fun i hi => ?_⟩
      rcases List.mem_append.mp hi with hi | hi
      · exact h2 i hi
      · exact .inr (List.mem_singleton.mp hi)
theorem frz_end {xs : List PyData} {w : PyData} {M : Mem} : frzAll (xs.map U.dat ++ [.dat w]) M = ((xs ++ [w]).map U.dat, M) := by
  have := frzAll_dat (xs ++ [w]) M
  rw [List.map_append] at this
  rw [List.map_append]
  exact this
theorem frz_front {xs : List PyData} {w : PyData} {M : Mem} : frzAll (.dat w :: (xs.map U.dat ++ [])) M = ((w :: xs).map U.dat, M) := by
  rw [List.append_nil]
  exact frzAll_dat (w :: xs) M
theorem p_rows {k : Nat} (hk : k ≤ 2) (M : Mem) : W (m_bit_rows [.dat (.int k)] M) fun u M' => ∃ c f, u = .cell c ∧ M'[c]? = some (.lst f ((rowL k).map fun r => U.dat (rowD r))) ∧ Same0 M M' ∧ M.length ≤ c := by
  simp only [m_bit_rows, w_fn, w_ret, w_seq, w_sif, w_of, w_trn, w_op, w_snil, w_pass, w_retn, w_asg, w_gnm, w_gsb, w_gtp, w_gcn, w_gn0, w_par, w_aug, w_drop, w_c, w_k, w_lst, w_tup, w_and, w_or, w_not, w_neg, w_ifx, w_tand, w_tor, w_tnot, w_cb, w_ck, w_mt, w_cons, w_nil, w_var, w_chain, w_sl, w_osome, w_onone, Pu.w_rev, w_dct0, w_for, w_iseq, w_irg1, w_lc, w_lc2, List.map_cons, List.map_nil, List.cons_append, List.nil_append, List.getElem?_cons_zero, List.getElem?_cons_succ, List.length_cons, List.length_nil, Option.some.injEq, exists_eq_left', w_some, List.replicate, List.set_cons_zero, List.set_cons_succ, frz_nil, frz_dat, frz_new, frz_new0, ne_ss, list_t, mk_nil, mk1, mk2, mk3, U.dat.injEq, PyData.int.injEq, PyData.bool.injEq, PyData.str.injEq, U.cell.injEq, add_ii, sub_ii, lt_ii, le_ii, gt_ii, ge_ii, eq_ii, ne_ii, eq_tt0, ne_tt0, eq_ds, sl_t, len_t, isi_int, isi_bool, isi_str, isi_tup, abs_i, min_ii, max_ii, int_i, int_b, mod_ii, fdiv_ii, mul_ii, pow_ii, add_ss, add_tt, mul_ti, repr_d, frzU_dat, and_true, true_and, and_assoc, List.cons.injEq, exists_and_left, exists_and_right, exists_eq_left, exists_eq_right, ix_t, ix_s, sl_s, len_s, is_non, Nat.reduceAdd, Nat.reduceSub, sz0, sz1, sz2, sz3, sz4, sz5, sz6, sz7, sz8, sz9, sz10, sz11, sz12, sz13, sz14, sz15, sz16, sz17, sz18, sz19, sz20, sz21, sz22, sz23, sz24, sz25, sz26, sz27, sz28, sz29, sz30]
  refine ⟨by omega, by omega, ?_⟩
  refine for_inv (RwI M k) _ 0 _ _ ⟨M.length, true, none, rfl, List.getElem?_concat_length .., ⟨_, rfl⟩, Nat.le_refl _⟩ ?_ ?_
  · intro j u ρ M1 hj hI
    obtain ⟨hj1, rfl⟩ := range_get hj
    have hj2 : j < 2 := by omega
    obtain ⟨c, f, y2, rfl, hc1, s1, hcl⟩ := hI
    rw [Nat.zero_add] at hc1
    have hl : (rowL (j + 1)).length ≤ 8 := rowL_len _ (by omega)
    have ecut : (((rowL j).map fun r => U.dat (rowD r)).flatMap rowF) = (rowL (j + 1)).map rowD := rowF_map _
    simp only [w_fn, w_ret, w_seq, w_sif, w_of, w_trn, w_op, w_snil, w_pass, w_retn, w_asg, w_gnm, w_gsb, w_gtp, w_gcn, w_gn0, w_par, w_aug, w_drop, w_c, w_k, w_lst, w_tup, w_and, w_or, w_not, w_neg, w_ifx, w_tand, w_tor, w_tnot, w_cb, w_ck, w_mt, w_cons, w_nil, w_var, w_chain, w_sl, w_osome, w_onone, Pu.w_rev, w_dct0, w_for, w_iseq, w_irg1, w_lc, w_lc2, List.map_cons, List.map_nil, List.cons_append, List.nil_append, List.getElem?_cons_zero, List.getElem?_cons_succ, List.length_cons, List.length_nil, Option.some.injEq, exists_eq_left', w_some, List.replicate, List.set_cons_zero, List.set_cons_succ, frz_nil, frz_dat, frz_new, frz_new0, ne_ss, list_t, mk_nil, mk1, mk2, mk3, U.dat.injEq, PyData.int.injEq, PyData.bool.injEq, PyData.str.injEq, U.cell.injEq, add_ii, sub_ii, lt_ii, le_ii, gt_ii, ge_ii, eq_ii, ne_ii, eq_tt0, ne_tt0, eq_ds, sl_t, len_t, isi_int, isi_bool, isi_str, isi_tup, abs_i, min_ii, max_ii, int_i, int_b, mod_ii, fdiv_ii, mul_ii, pow_ii, add_ss, add_tt, mul_ti, repr_d, frzU_dat, and_true, true_and, and_assoc, List.cons.injEq, exists_and_left, exists_and_right, exists_eq_left, exists_eq_right, ix_t, ix_s, sl_s, len_s, is_non, Nat.reduceAdd, Nat.reduceSub, sz0, sz1, sz2, sz3, sz4, sz5, sz6, sz7, sz8, sz9, sz10, sz11, sz12, sz13, sz14, sz15, sz16, sz17, sz18, sz19, sz20, sz21, sz22, sz23, sz24, sz25, sz26, sz27, sz28, sz29, sz30]
    refine ⟨_, seq_cell hc1, ?_⟩
    obtain ⟨M2, e2, s2, g2⟩ := lc2_gen (M1 := M1) (ws := cellsOf (.cell c)) (g := gNm 3) (g1 := gNm 4) (mi1 := iSeq (eTup (aCons (eC (.int 0)) (aCons (eC (.int 1)) aNil)))) (e := eTup (aStar (eVar 3) (aCons (eVar 4) aNil))) (vs1 := [4]) (ρ := wipeR [some (.dat (.int k)), some (.cell c), some (.dat (.int (0 + (j : Int)))), none, none] [3, 4]) rowF (fun c' hc' => by
        have : c' = c := by simpa [cellsOf] using hc'
        rw [this]
        exact (List.getElem?_eq_some_iff.mp hc1).1) ((rowL j).map fun r => U.dat (rowD r)) (M1 ++ [.lst false []]) [] (by rw [ecut, List.length_map]; exact Nat.le_trans (show _ ≤ 8 by simpa using hl) (by decide)) ⟨_, rfl⟩ (List.getElem?_concat_length ..) (fun u hu M' s lt => by
      obtain ⟨r, hr, rfl⟩ := List.mem_map.mp hu
      simp only [wipeR, w_fn, w_ret, w_seq, w_sif, w_of, w_trn, w_op, w_snil, w_pass, w_retn, w_asg, w_gnm, w_gsb, w_gtp, w_gcn, w_gn0, w_par, w_aug, w_drop, w_c, w_k, w_lst, w_tup, w_and, w_or, w_not, w_neg, w_ifx, w_tand, w_tor, w_tnot, w_cb, w_ck, w_mt, w_cons, w_nil, w_var, w_chain, w_sl, w_osome, w_onone, Pu.w_rev, w_dct0, w_for, w_iseq, w_irg1, w_lc, w_lc2, List.map_cons, List.map_nil, List.cons_append, List.nil_append, List.getElem?_cons_zero, List.getElem?_cons_succ, List.length_cons, List.length_nil, Option.some.injEq, exists_eq_left', w_some, List.replicate, List.set_cons_zero, List.set_cons_succ, frz_nil, frz_dat, frz_new, frz_new0, ne_ss, list_t, mk_nil, mk1, mk2, mk3, U.dat.injEq, PyData.int.injEq, PyData.bool.injEq, PyData.str.injEq, U.cell.injEq, add_ii, sub_ii, lt_ii, le_ii, gt_ii, ge_ii, eq_ii, ne_ii, eq_tt0, ne_tt0, eq_ds, sl_t, len_t, isi_int, isi_bool, isi_str, isi_tup, abs_i, min_ii, max_ii, int_i, int_b, mod_ii, fdiv_ii, mul_ii, pow_ii, add_ss, add_tt, mul_ti, repr_d, frzU_dat, and_true, true_and, and_assoc, List.cons.injEq, exists_and_left, exists_and_right, exists_eq_left, exists_eq_right, ix_t, ix_s, sl_s, len_s, is_non, Nat.reduceAdd, Nat.reduceSub, sz0, sz1, sz2, sz3, sz4, sz5, sz6, sz7, sz8, sz9, sz10, sz11, sz12, sz13, sz14, sz15, sz16, sz17, sz18, sz19, sz20, sz21, sz22, sz23, sz24, sz25, sz26, sz27, sz28, sz29, sz30]
      refine ⟨_, rfl, Same0.refl _, (fun c hc => by cases hc), rfl, ?_⟩
      intro i w hi M'' s''
      simp only [wipeR, w_star, w_fn, w_ret, w_seq, w_sif, w_of, w_trn, w_op, w_snil, w_pass, w_retn, w_asg, w_gnm, w_gsb, w_gtp, w_gcn, w_gn0, w_par, w_aug, w_drop, w_c, w_k, w_lst, w_tup, w_and, w_or, w_not, w_neg, w_ifx, w_tand, w_tor, w_tnot, w_cb, w_ck, w_mt, w_cons, w_nil, w_var, w_chain, w_sl, w_osome, w_onone, Pu.w_rev, w_dct0, w_for, w_iseq, w_irg1, w_lc, w_lc2, List.map_cons, List.map_nil, List.cons_append, List.nil_append, List.getElem?_cons_zero, List.getElem?_cons_succ, List.length_cons, List.length_nil, Option.some.injEq, exists_eq_left', w_some, List.replicate, List.set_cons_zero, List.set_cons_succ, frz_nil, frz_dat, frz_new, frz_new0, ne_ss, list_t, mk_nil, mk1, mk2, mk3, U.dat.injEq, PyData.int.injEq, PyData.bool.injEq, PyData.str.injEq, U.cell.injEq, add_ii, sub_ii, lt_ii, le_ii, gt_ii, ge_ii, eq_ii, ne_ii, eq_tt0, ne_tt0, eq_ds, sl_t, len_t, isi_int, isi_bool, isi_str, isi_tup, abs_i, min_ii, max_ii, int_i, int_b, mod_ii, fdiv_ii, mul_ii, pow_ii, add_ss, add_tt, mul_ti, repr_d, frzU_dat, and_true, true_and, and_assoc, List.cons.injEq, exists_and_left, exists_and_right, exists_eq_left, exists_eq_right, ix_t, ix_s, sl_s, len_s, is_non, Nat.reduceAdd, Nat.reduceSub, sz0, sz1, sz2, sz3, sz4, sz5, sz6, sz7, sz8, sz9, sz10, sz11, sz12, sz13, sz14, sz15, sz16, sz17, sz18, sz19, sz20, sz21, sz22, sz23, sz24, sz25, sz26, sz27, sz28, sz29, sz30]
      refine ⟨_, rfl, ?_⟩
      have rl := (rowL_mem j r hr).1
      have hz : ∀ w : U, (List.map U.dat (List.map PyData.int r) ++ [w]).length ≤ sizeLine := fun w => by
        simp only [List.length_append, List.length_map, List.length_cons, List.length_nil]
        exact Nat.le_trans (show _ ≤ 10 by omega) (by decide)
      match i, hi with
      | 0, hi =>
        cases hi
        refine ⟨hz _, _, rfl, ?_, ?_⟩
        · rw [frz_end]
          exact mkTup_dat _
        · rw [frz_end]
          exact Same0.refl _
      | 1, hi =>
        cases hi
        refine ⟨hz _, _, rfl, ?_, ?_⟩
        · rw [frz_end]
          exact mkTup_dat _
        · rw [frz_end]
          exact Same0.refl _
      | i + 2, hi => simp at hi)
    refine ⟨M2, e2, fun c hc => (by cases hc), M1.length, false, _, rfl, ?_, s1.trans s2, ?_⟩
    · rw [g2, List.nil_append, ecut, List.map_map, Nat.zero_add]
      rfl
    · obtain ⟨G, rfl⟩ := s1
      rw [List.length_append]
      omega
  · intro ρ M1 hI
    obtain ⟨c, f, y2, rfl, hc1, s1, hcl⟩ := hI
    rw [range_len] at hc1
    simp only [w_fn, w_ret, w_seq, w_sif, w_of, w_trn, w_op, w_snil, w_pass, w_retn, w_asg, w_gnm, w_gsb, w_gtp, w_gcn, w_gn0, w_par, w_aug, w_drop, w_c, w_k, w_lst, w_tup, w_and, w_or, w_not, w_neg, w_ifx, w_tand, w_tor, w_tnot, w_cb, w_ck, w_mt, w_cons, w_nil, w_var, w_chain, w_sl, w_osome, w_onone, Pu.w_rev, w_dct0, w_for, w_iseq, w_irg1, w_lc, w_lc2, List.map_cons, List.map_nil, List.cons_append, List.nil_append, List.getElem?_cons_zero, List.getElem?_cons_succ, List.length_cons, List.length_nil, Option.some.injEq, exists_eq_left', w_some, List.replicate, List.set_cons_zero, List.set_cons_succ, frz_nil, frz_dat, frz_new, frz_new0, ne_ss, list_t, mk_nil, mk1, mk2, mk3, U.dat.injEq, PyData.int.injEq, PyData.bool.injEq, PyData.str.injEq, U.cell.injEq, add_ii, sub_ii, lt_ii, le_ii, gt_ii, ge_ii, eq_ii, ne_ii, eq_tt0, ne_tt0, eq_ds, sl_t, len_t, isi_int, isi_bool, isi_str, isi_tup, abs_i, min_ii, max_ii, int_i, int_b, mod_ii, fdiv_ii, mul_ii, pow_ii, add_ss, add_tt, mul_ti, repr_d, frzU_dat, and_true, true_and, and_assoc, List.cons.injEq, exists_and_left, exists_and_right, exists_eq_left, exists_eq_right, ix_t, ix_s, sl_s, len_s, is_non, Nat.reduceAdd, Nat.reduceSub, sz0, sz1, sz2, sz3, sz4, sz5, sz6, sz7, sz8, sz9, sz10, sz11, sz12, sz13, sz14, sz15, sz16, sz17, sz18, sz19, sz20, sz21, sz22, sz23, sz24, sz25, sz26, sz27, sz28, sz29, sz30]
    refine ⟨⟨f, ?_⟩, s1, hcl⟩
    simpa using hc1
def LD (as : List (Str × Nat)) : List PyData := as.flatMap fun a => (rowL a.2).map fun r => .tuple (.str a.1 :: r.map .int)
def ldF : U → List PyData
  | .dat (.tuple [.str w, .int k]) => (rowL k.toNat).map fun r => .tuple (.str w :: r.map .int)
  | _ => []
theorem ldF_map : ∀ as : List (Str × Nat), ((as.map actD).map U.dat).flatMap ldF = LD as
  | [] => rfl
  | a :: as => by
    rw [List.map_cons, List.map_cons, List.flatMap_cons, ldF_map as]
    rfl
theorem ld_len : ∀ {as : List (Str × Nat)}, (∀ a ∈ as, a.2 ≤ 2) → (LD as).length ≤ 8 * as.length
  | [], _ => Nat.le_refl _
  | a :: as, h => by
    have h1 := ld_len (as := as) fun x hx => h x (List.mem_cons_of_mem _ hx)
    have h2 := rowL_len a.2 (by have := h a List.mem_cons_self; omega)
    show ((rowL a.2).map _ ++ LD as).length ≤ _
    rw [List.length_append, List.length_map, List.length_cons]
    omega
theorem ld_mem {as : List (Str × Nat)} {d : PyData} (h : d ∈ LD as) : ∃ a r, a ∈ as ∧ r ∈ rowL a.2 ∧ d = .tuple (.str a.1 :: r.map .int) := by
  obtain ⟨a, ha, hd⟩ := List.mem_flatMap.mp h
  obtain ⟨r, hr, rfl⟩ := List.mem_map.mp hd
  exact ⟨a, r, ha, hr, rfl⟩
theorem ld_gd {as : List (Str × Nat)} (has : ∀ a ∈ as, Nm a.1 ∧ a.2 ≤ 2) {d : PyData} (h : d ∈ LD as) : Gd 2 40 10 d := by
  obtain ⟨a, r, ha, hr, rfl⟩ := ld_mem h
  obtain ⟨rl, rb⟩ := rowL_mem _ _ hr
  have ha2 := (has a ha).2
  have g2 : GA 1 ((r.map PyData.int).length * 6) 10 (r.map PyData.int) := ga_all (m := 5) fun d hd => by
    obtain ⟨i, hi, rfl⟩ := List.mem_map.mp hd
    exact gd_small (by rcases rb i hi with rfl | rfl <;> decide) (Nat.le_refl _)
  refine (GA.cons (gd_name (has a ha).1) g2).tuple.mono (Nat.le_refl _) ?_ (Nat.le_refl _)
  rw [List.length_map, rl]
  omega
theorem ld_sort {as : List (Str × Nat)} (has : ∀ a ∈ as, Nm a.1 ∧ a.2 ≤ 2) : SortOk (LD as) := by
  refine .inr ⟨fun d hd d' hd' => ?_, .inl fun d hd => ?_, fun d hd => ?_⟩
  · obtain ⟨a, r, ha, hr, rfl⟩ := ld_mem hd
    obtain ⟨a', r', ha', hr', rfl⟩ := ld_mem hd'
    show PySem.W.alikeAll (.str a.1 :: r.map .int) (.str a'.1 :: r'.map .int) = true
    simp only [PySem.W.alikeAll, PySem.W.alike, Bool.true_and]
    exact PySem.W.alike_ints r r'
  · obtain ⟨a, r, ha, hr, rfl⟩ := ld_mem hd
    exact ⟨_, _, rfl⟩
  · exact Nat.le_trans (ld_gd has hd).bd.dp (by decide)
theorem p_deeds {ws : List Str} {as : List (Str × Nat)} {phs : List PyData} (has : ∀ a ∈ as, Nm a.1 ∧ a.2 ≤ 2) (hal : as.length ≤ 4) (M : Mem) : W (m_bit_deeds [.dat (progD ws as phs)] M) fun u M' => u = .dat (.tuple (sortD (LD as))) ∧ Same0 M M' := by
  have hll := ld_len fun a ha => (has a ha).2
  simp only [m_bit_deeds, w_fn, w_ret, w_seq, w_sif, w_of, w_trn, w_op, w_snil, w_pass, w_retn, w_asg, w_gnm, w_gsb, w_gtp, w_gcn, w_gn0, w_par, w_aug, w_drop, w_c, w_k, w_lst, w_tup, w_and, w_or, w_not, w_neg, w_ifx, w_tand, w_tor, w_tnot, w_cb, w_ck, w_mt, w_cons, w_nil, w_var, w_chain, w_sl, w_osome, w_onone, Pu.w_rev, w_dct0, w_for, w_iseq, w_irg1, w_lc, w_lc2, List.map_cons, List.map_nil, List.cons_append, List.nil_append, List.getElem?_cons_zero, List.getElem?_cons_succ, List.length_cons, List.length_nil, Option.some.injEq, exists_eq_left', w_some, List.replicate, List.set_cons_zero, List.set_cons_succ, frz_nil, frz_dat, frz_new, frz_new0, ne_ss, list_t, mk_nil, mk1, mk2, mk3, U.dat.injEq, PyData.int.injEq, PyData.bool.injEq, PyData.str.injEq, U.cell.injEq, add_ii, sub_ii, lt_ii, le_ii, gt_ii, ge_ii, eq_ii, ne_ii, eq_tt0, ne_tt0, eq_ds, sl_t, len_t, isi_int, isi_bool, isi_str, isi_tup, abs_i, min_ii, max_ii, int_i, int_b, mod_ii, fdiv_ii, mul_ii, pow_ii, add_ss, add_tt, mul_ti, repr_d, frzU_dat, and_true, true_and, and_assoc, List.cons.injEq, exists_and_left, exists_and_right, exists_eq_left, exists_eq_right, ix_t, ix_s, sl_s, len_s, is_non, Nat.reduceAdd, Nat.reduceSub, sz0, sz1, sz2, sz3, sz4, sz5, sz6, sz7, sz8, sz9, sz10, sz11, sz12, sz13, sz14, sz15, sz16, sz17, sz18, sz19, sz20, sz21, sz22, sz23, sz24, sz25, sz26, sz27, sz28, sz29, sz30]
  refine ⟨.tuple (as.map actD), rfl, _, rfl, ?_⟩
  obtain ⟨M2, e2, s2, g2⟩ := lc2_gen (M1 := M) (ws := cellsOf (.dat (.tuple (as.map actD)))) (g := gTp 2 (gCn (gNm 1) (gCn (gNm 2) gN0))) (g1 := gNm 3) (mi1 := iSeq (eCB m_bit_rows (aCons (eVar 2) aNil))) (e := eTup (aCons (eVar 1) (aStar (eVar 3) aNil))) (vs1 := [3]) (ρ := wipeR [some (.dat (progD ws as phs)), none, none, none] [1, 2, 3]) ldF (fun c hc => by cases hc) ((as.map actD).map .dat) (M ++ [.lst false []]) [] (by rw [ldF_map]; exact Nat.le_trans (show _ ≤ 100 by simp only [List.length_nil]; omega) (by decide)) ⟨_, rfl⟩ (List.getElem?_concat_length ..) (fun u hu M' s lt => by
    rw [List.map_map] at hu
    obtain ⟨a, ha, rfl⟩ := List.mem_map.mp hu
    simp only [wipeR, w_gtp, Function.comp, w_fn, w_ret, w_seq, w_sif, w_of, w_trn, w_op, w_snil, w_pass, w_retn, w_asg, w_gnm, w_gsb, w_gtp, w_gcn, w_gn0, w_par, w_aug, w_drop, w_c, w_k, w_lst, w_tup, w_and, w_or, w_not, w_neg, w_ifx, w_tand, w_tor, w_tnot, w_cb, w_ck, w_mt, w_cons, w_nil, w_var, w_chain, w_sl, w_osome, w_onone, Pu.w_rev, w_dct0, w_for, w_iseq, w_irg1, w_lc, w_lc2, List.map_cons, List.map_nil, List.cons_append, List.nil_append, List.getElem?_cons_zero, List.getElem?_cons_succ, List.length_cons, List.length_nil, Option.some.injEq, exists_eq_left', w_some, List.replicate, List.set_cons_zero, List.set_cons_succ, frz_nil, frz_dat, frz_new, frz_new0, ne_ss, list_t, mk_nil, mk1, mk2, mk3, U.dat.injEq, PyData.int.injEq, PyData.bool.injEq, PyData.str.injEq, U.cell.injEq, add_ii, sub_ii, lt_ii, le_ii, gt_ii, ge_ii, eq_ii, ne_ii, eq_tt0, ne_tt0, eq_ds, sl_t, len_t, isi_int, isi_bool, isi_str, isi_tup, abs_i, min_ii, max_ii, int_i, int_b, mod_ii, fdiv_ii, mul_ii, pow_ii, add_ss, add_tt, mul_ti, repr_d, frzU_dat, and_true, true_and, and_assoc, List.cons.injEq, exists_and_left, exists_and_right, exists_eq_left, exists_eq_right, ix_t, ix_s, sl_s, len_s, is_non, Nat.reduceAdd, Nat.reduceSub, sz0, sz1, sz2, sz3, sz4, sz5, sz6, sz7, sz8, sz9, sz10, sz11, sz12, sz13, sz14, sz15, sz16, sz17, sz18, sz19, sz20, sz21, sz22, sz23, sz24, sz25, sz26, sz27, sz28, sz29, sz30]
    refine ⟨[.dat (.str a.1), .dat (.int a.2)], rfl, rfl, ?_⟩
    simp only [w_fn, w_ret, w_seq, w_sif, w_of, w_trn, w_op, w_snil, w_pass, w_retn, w_asg, w_gnm, w_gsb, w_gtp, w_gcn, w_gn0, w_par, w_aug, w_drop, w_c, w_k, w_lst, w_tup, w_and, w_or, w_not, w_neg, w_ifx, w_tand, w_tor, w_tnot, w_cb, w_ck, w_mt, w_cons, w_nil, w_var, w_chain, w_sl, w_osome, w_onone, Pu.w_rev, w_dct0, w_for, w_iseq, w_irg1, w_lc, w_lc2, List.map_cons, List.map_nil, List.cons_append, List.nil_append, List.getElem?_cons_zero, List.getElem?_cons_succ, List.length_cons, List.length_nil, Option.some.injEq, exists_eq_left', w_some, List.replicate, List.set_cons_zero, List.set_cons_succ, frz_nil, frz_dat, frz_new, frz_new0, ne_ss, list_t, mk_nil, mk1, mk2, mk3, U.dat.injEq, PyData.int.injEq, PyData.bool.injEq, PyData.str.injEq, U.cell.injEq, add_ii, sub_ii, lt_ii, le_ii, gt_ii, ge_ii, eq_ii, ne_ii, eq_tt0, ne_tt0, eq_ds, sl_t, len_t, isi_int, isi_bool, isi_str, isi_tup, abs_i, min_ii, max_ii, int_i, int_b, mod_ii, fdiv_ii, mul_ii, pow_ii, add_ss, add_tt, mul_ti, repr_d, frzU_dat, and_true, true_and, and_assoc, List.cons.injEq, exists_and_left, exists_and_right, exists_eq_left, exists_eq_right, ix_t, ix_s, sl_s, len_s, is_non, Nat.reduceAdd, Nat.reduceSub, sz0, sz1, sz2, sz3, sz4, sz5, sz6, sz7, sz8, sz9, sz10, sz11, sz12, sz13, sz14, sz15, sz16, sz17, sz18, sz19, sz20, sz21, sz22, sz23, sz24, sz25, sz26, sz27, sz28, sz29, sz30]
    obtain ⟨u1, M3, e3, c, f, rfl, g3, s3, hcl⟩ := p_rows (has a ha).2 M'
    refine ⟨_, M3, e3, _, seq_cell g3, s3, ?_, ?_, ?_⟩
    · intro c' hc'
      have : c' = c := by simpa [cellsOf] using hc'
      rw [this]
      exact ⟨(List.getElem?_eq_some_iff.mp g3).1, by omega⟩
    · show _ = ((rowL ((a.2 : Nat) : Int).toNat).map _).length
      rw [Int.toNat_natCast, List.length_map, List.length_map]
    · intro i w hi M'' s''
      rw [List.getElem?_map] at hi
      obtain ⟨r, hr, rfl⟩ := Option.map_eq_some_iff.mp hi
      have rl := (rowL_mem _ r (List.mem_of_getElem? hr)).1
      have ha2 := (has a ha).2
      simp only [wipeR, w_star, w_fn, w_ret, w_seq, w_sif, w_of, w_trn, w_op, w_snil, w_pass, w_retn, w_asg, w_gnm, w_gsb, w_gtp, w_gcn, w_gn0, w_par, w_aug, w_drop, w_c, w_k, w_lst, w_tup, w_and, w_or, w_not, w_neg, w_ifx, w_tand, w_tor, w_tnot, w_cb, w_ck, w_mt, w_cons, w_nil, w_var, w_chain, w_sl, w_osome, w_onone, Pu.w_rev, w_dct0, w_for, w_iseq, w_irg1, w_lc, w_lc2, List.map_cons, List.map_nil, List.cons_append, List.nil_append, List.getElem?_cons_zero, List.getElem?_cons_succ, List.length_cons, List.length_nil, Option.some.injEq, exists_eq_left', w_some, List.replicate, List.set_cons_zero, List.set_cons_succ, frz_nil, frz_dat, frz_new, frz_new0, ne_ss, list_t, mk_nil, mk1, mk2, mk3, U.dat.injEq, PyData.int.injEq, PyData.bool.injEq, PyData.str.injEq, U.cell.injEq, add_ii, sub_ii, lt_ii, le_ii, gt_ii, ge_ii, eq_ii, ne_ii, eq_tt0, ne_tt0, eq_ds, sl_t, len_t, isi_int, isi_bool, isi_str, isi_tup, abs_i, min_ii, max_ii, int_i, int_b, mod_ii, fdiv_ii, mul_ii, pow_ii, add_ss, add_tt, mul_ti, repr_d, frzU_dat, and_true, true_and, and_assoc, List.cons.injEq, exists_and_left, exists_and_right, exists_eq_left, exists_eq_right, ix_t, ix_s, sl_s, len_s, is_non, Nat.reduceAdd, Nat.reduceSub, sz0, sz1, sz2, sz3, sz4, sz5, sz6, sz7, sz8, sz9, sz10, sz11, sz12, sz13, sz14, sz15, sz16, sz17, sz18, sz19, sz20, sz21, sz22, sz23, sz24, sz25, sz26, sz27, sz28, sz29, sz30]
      refine ⟨_, rfl, ?_, PyData.tuple (.str a.1 :: r.map .int), ?_, ?_, ?_⟩
      · simp only [List.length_cons, List.length_append, List.length_map, List.length_nil]
        exact Nat.le_trans (show _ ≤ 10 by omega) (by decide)
      · show ((rowL ((a.2 : Nat) : Int).toNat).map _)[i]? = _
        rw [Int.toNat_natCast, List.getElem?_map, hr]
        rfl
      · rw [List.append_nil, frzAll_dat]
        exact mkTup_dat (.str a.1 :: r.map .int)
      · rw [List.append_nil, frzAll_dat]
        exact Same0.refl _)
  refine ⟨M2, e2, ?_⟩
  rw [List.nil_append, ldF_map] at g2
  rw [sort_c g2]
  refine ⟨ld_sort has, ?_⟩
  rw [tup_c (List.getElem?_concat_length ..), w_some]
  exact ⟨rfl, s2.trans ⟨_, rfl⟩⟩
end Z

namespace Z
open PySem PySem.Spec PyProof.Rows L2 Lw Pu
def LtI (M : Mem) (as : List (Str × Nat)) (k : Nat) (ρ : Pu.Env) (M' : Mem) : Prop := ∃ (y2 y3 y4 : Option U), ρ = [some (actsU as), some (.cell M.length), y2, y3, y4, none] ∧ M'[M.length]? = some (.lst true ((LD (as.take k)).map .dat)) ∧ (∀ i, i < M.length → M'[i]? = M[i]?) ∧ M.length < M'.length
theorem rows_at {k : Nat} (hk : k ≤ 2) : atI [PyData.list [.tuple []], .list [.tuple [.int 0], .tuple [.int 1]], .list [.tuple [.int 0, .int 0], .tuple [.int 0, .int 1], .tuple [.int 1, .int 0], .tuple [.int 1, .int 1]]] (k : Int) = some (.list ((rowL k).map rowD)) := by
  match k, hk with
  | 0, _ => rfl
  | 1, _ => rfl
  | 2, _ => rfl
theorem ld_take {as : List (Str × Nat)} {i : Nat} {a : Str × Nat} (h : as[i]? = some a) : LD (as.take (i + 1)) = LD (as.take i) ++ (rowL a.2).map fun r => .tuple (.str a.1 :: r.map .int) := by
  have hi := (List.getElem?_eq_some_iff.mp h).1
  have e : as.take (i + 1) = as.take i ++ [a] := by
    rw [List.take_succ, h]
    rfl
  rw [e]
  unfold LD
  rw [List.flatMap_append]
  simp
theorem frz_at {M : Mem} {i : Nat} {ds : List PyData} {us : List U} (h : M[i]? = some (.lst true (ds.map .dat))) : frzAll (.cell i :: us) M = (.dat (.list ds) :: (frzAll us (M.set i (.fz ds))).1, (frzAll us (M.set i (.fz ds))).2) := by
  have e : frzU (.cell i) M = (.dat (.list ds), M.set i (.fz ds)) := by
    unfold frzU
    simp only [h, allDat_map]
  show (let (u', M1) := frzU (.cell i) M; let (us', M2) := frzAll us M1; (u' :: us', M2)) = _
  rw [e]
theorem frz3 {M : Mem} (a b c : List PyData) : ∃ M', frzAll [.cell M.length, .cell (M ++ [Cell.lst true (a.map .dat)]).length, .cell (M ++ [Cell.lst true (a.map .dat)] ++ [Cell.lst true (b.map .dat)]).length] (M ++ [.lst true (a.map .dat)] ++ [.lst true (b.map .dat)] ++ [.lst true (c.map .dat)]) = ([.dat (.list a), .dat (.list b), .dat (.list c)], M') ∧ (∀ i, i < M.length → M'[i]? = M[i]?) ∧ M.length ≤ M'.length := by
  have h1 : (M ++ [Cell.lst true (a.map .dat)] ++ [Cell.lst true (b.map .dat)] ++ [Cell.lst true (c.map .dat)])[M.length]? = some (.lst true (a.map .dat)) := by
    rw [List.append_assoc, List.append_assoc]
    exact lst_at
  have h2 : (M ++ [Cell.lst true (a.map .dat)] ++ [Cell.lst true (b.map .dat)] ++ [Cell.lst true (c.map .dat)])[(M ++ [Cell.lst true (a.map .dat)]).length]? = some (.lst true (b.map .dat)) := by
    rw [List.append_assoc (M ++ [Cell.lst true (a.map .dat)])]
    exact lst_at
  have h3 : (M ++ [Cell.lst true (a.map .dat)] ++ [Cell.lst true (b.map .dat)] ++ [Cell.lst true (c.map .dat)])[(M ++ [Cell.lst true (a.map .dat)] ++ [Cell.lst true (b.map .dat)]).length]? = some (.lst true (c.map .dat)) := List.getElem?_concat_length ..
  refine ⟨(((M ++ [Cell.lst true (a.map .dat)] ++ [Cell.lst true (b.map .dat)] ++ [Cell.lst true (c.map .dat)]).set M.length (.fz a)).set (M ++ [Cell.lst true (a.map .dat)]).length (.fz b)).set (M ++ [Cell.lst true (a.map .dat)] ++ [Cell.lst true (b.map .dat)]).length (.fz c), ?_, ?_, ?_⟩
  · rw [frz_at h1, frz_at (by rw [List.getElem?_set_ne (by simp)]; exact h2), frz_at (by rw [List.getElem?_set_ne (by simp), List.getElem?_set_ne (by simp only [List.length_append, List.length_cons, List.length_nil]; omega)]; exact h3), frz_nil]
  · intro i hi
    rw [List.getElem?_set_ne (by simp only [List.length_append, List.length_cons, List.length_nil]; omega), List.getElem?_set_ne (by simp only [List.length_append, List.length_cons, List.length_nil]; omega), List.getElem?_set_ne (by omega), List.append_assoc, List.append_assoc, List.getElem?_append_left hi]
  · simp only [List.length_set, List.length_append]
    omega
theorem p_letters {as : List (Str × Nat)} (has : ∀ a ∈ as, Nm a.1 ∧ a.2 ≤ 2) (hal : as.length ≤ 4) (M : Mem) : W (m__law_letters [actsU as] M) fun u M' => ∃ c, u = .cell c ∧ M'[c]? = some (.lst true ((sortD (LD as)).map .dat)) ∧ (∀ i, i < M.length → M'[i]? = M[i]?) ∧ M.length ≤ M'.length := by
  have big : ∀ z : Nat, z ≤ 1000 → z ≤ sizeLine := fun z hz => Nat.le_trans hz (by decide)
  simp only [m__law_letters, w_fn, w_ret, w_seq, w_sif, w_of, w_trn, w_op, w_snil, w_pass, w_retn, w_asg, w_gnm, w_gsb, w_gtp, w_gcn, w_gn0, w_par, w_aug, w_drop, w_c, w_k, w_lst, w_tup, w_and, w_or, w_not, w_neg, w_ifx, w_tand, w_tor, w_tnot, w_cb, w_ck, w_mt, w_cons, w_nil, w_var, w_chain, w_sl, w_osome, w_onone, Pu.w_rev, w_dct0, w_for, w_iseq, w_irg1, w_lc, w_lc2, List.map_cons, List.map_nil, List.cons_append, List.nil_append, List.getElem?_cons_zero, List.getElem?_cons_succ, List.length_cons, List.length_nil, Option.some.injEq, exists_eq_left', w_some, List.replicate, List.set_cons_zero, List.set_cons_succ, frz_nil, frz_dat, frz_new, frz_new0, ne_ss, list_t, mk_nil, mk1, mk2, mk3, U.dat.injEq, PyData.int.injEq, PyData.bool.injEq, PyData.str.injEq, U.cell.injEq, add_ii, sub_ii, lt_ii, le_ii, gt_ii, ge_ii, eq_ii, ne_ii, eq_tt0, ne_tt0, eq_ds, sl_t, len_t, isi_int, isi_bool, isi_str, isi_tup, abs_i, min_ii, max_ii, int_i, int_b, mod_ii, fdiv_ii, mul_ii, pow_ii, add_ss, add_tt, mul_ti, repr_d, frzU_dat, and_true, true_and, and_assoc, List.cons.injEq, exists_and_left, exists_and_right, exists_eq_left, exists_eq_right, ix_t, ix_s, sl_s, len_s, is_non, Nat.reduceAdd, Nat.reduceSub, sz0, sz1, sz2, sz3, sz4, sz5, sz6, sz7, sz8, sz9, sz10, sz11, sz12, sz13, sz14, sz15, sz16, sz17, sz18, sz19, sz20, sz21, sz22, sz23, sz24, sz25, sz26, sz27, sz28, sz29, sz30]
  refine ⟨_, rfl, ?_⟩
  refine for_inv (LtI M as) _ 0 _ _ ⟨none, none, none, rfl, List.getElem?_concat_length .., fun i hi => List.getElem?_append_left hi, by simp⟩ ?_ ?_
  · intro i u ρ M1 hi hI
    obtain ⟨y2, y3, y4, rfl, hc1, fr1, l1⟩ := hI
    rw [List.map_map, List.getElem?_map] at hi
    obtain ⟨a, ha, rfl⟩ := Option.map_eq_some_iff.mp hi
    have ham := List.mem_of_getElem? ha
    have ha2 := (has a ham).2
    simp only [Function.comp, w_fn, w_ret, w_seq, w_sif, w_of, w_trn, w_op, w_snil, w_pass, w_retn, w_asg, w_gnm, w_gsb, w_gtp, w_gcn, w_gn0, w_par, w_aug, w_drop, w_c, w_k, w_lst, w_tup, w_and, w_or, w_not, w_neg, w_ifx, w_tand, w_tor, w_tnot, w_cb, w_ck, w_mt, w_cons, w_nil, w_var, w_chain, w_sl, w_osome, w_onone, Pu.w_rev, w_dct0, w_for, w_iseq, w_irg1, w_lc, w_lc2, List.map_cons, List.map_nil, List.cons_append, List.nil_append, List.getElem?_cons_zero, List.getElem?_cons_succ, List.length_cons, List.length_nil, Option.some.injEq, exists_eq_left', w_some, List.replicate, List.set_cons_zero, List.set_cons_succ, frz_nil, frz_dat, frz_new, frz_new0, ne_ss, list_t, mk_nil, mk1, mk2, mk3, U.dat.injEq, PyData.int.injEq, PyData.bool.injEq, PyData.str.injEq, U.cell.injEq, add_ii, sub_ii, lt_ii, le_ii, gt_ii, ge_ii, eq_ii, ne_ii, eq_tt0, ne_tt0, eq_ds, sl_t, len_t, isi_int, isi_bool, isi_str, isi_tup, abs_i, min_ii, max_ii, int_i, int_b, mod_ii, fdiv_ii, mul_ii, pow_ii, add_ss, add_tt, mul_ti, repr_d, frzU_dat, and_true, true_and, and_assoc, List.cons.injEq, exists_and_left, exists_and_right, exists_eq_left, exists_eq_right, ix_t, ix_s, sl_s, len_s, is_non, Nat.reduceAdd, Nat.reduceSub, sz0, sz1, sz2, sz3, sz4, sz5, sz6, sz7, sz8, sz9, sz10, sz11, sz12, sz13, sz14, sz15, sz16, sz17, sz18, sz19, sz20, sz21, sz22, sz23, sz24, sz25, sz26, sz27, sz28, sz29, sz30]
    refine ⟨[.dat (.str a.1), .dat (.int a.2)], rfl, rfl, ?_⟩
    simp only [w_fn, w_ret, w_seq, w_sif, w_of, w_trn, w_op, w_snil, w_pass, w_retn, w_asg, w_gnm, w_gsb, w_gtp, w_gcn, w_gn0, w_par, w_aug, w_drop, w_c, w_k, w_lst, w_tup, w_and, w_or, w_not, w_neg, w_ifx, w_tand, w_tor, w_tnot, w_cb, w_ck, w_mt, w_cons, w_nil, w_var, w_chain, w_sl, w_osome, w_onone, Pu.w_rev, w_dct0, w_for, w_iseq, w_irg1, w_lc, w_lc2, List.map_cons, List.map_nil, List.cons_append, List.nil_append, List.getElem?_cons_zero, List.getElem?_cons_succ, List.length_cons, List.length_nil, Option.some.injEq, exists_eq_left', w_some, List.replicate, List.set_cons_zero, List.set_cons_succ, frz_nil, frz_dat, frz_new, frz_new0, ne_ss, list_t, mk_nil, mk1, mk2, mk3, U.dat.injEq, PyData.int.injEq, PyData.bool.injEq, PyData.str.injEq, U.cell.injEq, add_ii, sub_ii, lt_ii, le_ii, gt_ii, ge_ii, eq_ii, ne_ii, eq_tt0, ne_tt0, eq_ds, sl_t, len_t, isi_int, isi_bool, isi_str, isi_tup, abs_i, min_ii, max_ii, int_i, int_b, mod_ii, fdiv_ii, mul_ii, pow_ii, add_ss, add_tt, mul_ti, repr_d, frzU_dat, and_true, true_and, and_assoc, List.cons.injEq, exists_and_left, exists_and_right, exists_eq_left, exists_eq_right, ix_t, ix_s, sl_s, len_s, is_non, Nat.reduceAdd, Nat.reduceSub, sz0, sz1, sz2, sz3, sz4, sz5, sz6, sz7, sz8, sz9, sz10, sz11, sz12, sz13, sz14, sz15, sz16, sz17, sz18, sz19, sz20, sz21, sz22, sz23, sz24, sz25, sz26, sz27, sz28, sz29, sz30]
    obtain ⟨M5, e5, k5, l5⟩ := frz3 (M := M1) [.tuple []] [.tuple [.int 0], .tuple [.int 1]] [.tuple [.int 0, .int 0], .tuple [.int 0, .int 1], .tuple [.int 1, .int 0], .tuple [.int 1, .int 1]]
    simp only [List.map_cons, List.map_nil] at e5
    simp only [e5]
    refine (ix_seq' (seq_cell (List.getElem?_concat_length ..))).mpr ?_
    refine ⟨.dat (.list ((rowL a.2).map rowD)), ?_, ?_⟩
    · have := rows_at ha2
      have e6 : [U.dat (.list [.tuple []]), .dat (.list [.tuple [.int 0], .tuple [.int 1]]), .dat (.list [.tuple [.int 0, .int 0], .tuple [.int 0, .int 1], .tuple [.int 1, .int 0], .tuple [.int 1, .int 1]])] = [PyData.list [.tuple []], .list [.tuple [.int 0], .tuple [.int 1]], .list [.tuple [.int 0, .int 0], .tuple [.int 0, .int 1], .tuple [.int 1, .int 0], .tuple [.int 1, .int 1]]].map U.dat := rfl
      rw [e6, atI_map, this]
      rfl
    · have hc5 : (M5 ++ [Cell.lst true [.dat (.list [.tuple []]), .dat (.list [.tuple [.int 0], .tuple [.int 1]]), .dat (.list [.tuple [.int 0, .int 0], .tuple [.int 0, .int 1], .tuple [.int 1, .int 0], .tuple [.int 1, .int 1]])]])[M.length]? = some (.lst true ((LD (as.take (0 + i))).map .dat)) := by
        rw [List.getElem?_append_left (by omega), k5 _ l1]
        exact hc1
      have fr5 : ∀ j, j < M.length → (M5 ++ [Cell.lst true [.dat (.list [.tuple []]), .dat (.list [.tuple [.int 0], .tuple [.int 1]]), .dat (.list [.tuple [.int 0, .int 0], .tuple [.int 0, .int 1], .tuple [.int 1, .int 0], .tuple [.int 1, .int 1]])]])[j]? = M[j]? := fun j hj => by
        rw [List.getElem?_append_left (by omega), k5 _ (by omega)]
        exact fr1 j hj
      have l6 : M.length < (M5 ++ [Cell.lst true [.dat (.list [.tuple []]), .dat (.list [.tuple [.int 0], .tuple [.int 1]]), .dat (.list [.tuple [.int 0, .int 0], .tuple [.int 0, .int 1], .tuple [.int 1, .int 0], .tuple [.int 1, .int 1]])]]).length := by
        rw [List.length_append]
        omega
      generalize M5 ++ [Cell.lst true [.dat (.list [.tuple []]), .dat (.list [.tuple [.int 0], .tuple [.int 1]]), .dat (.list [.tuple [.int 0, .int 0], .tuple [.int 0, .int 1], .tuple [.int 1, .int 0], .tuple [.int 1, .int 1]])]] = M6 at hc5 fr5 l6
      refine ⟨ty_l hc5, _, rfl, ?_⟩
      have rlen := rowL_len a.2 (by omega)
      obtain ⟨M7, e7, s7, g7⟩ := lc_pure (M1 := M6) (ws := cellsOf (.dat (.list ((rowL a.2).map rowD)))) (g := gNm 5) (e := eOp addU (eTup (aCons (eVar 2) aNil)) (eVar 5)) (ρ := wipeR [some (actsU as), some (.cell M.length), some (.dat (.str a.1)), some (.dat (.int a.2)), some (.dat (.list ((rowL a.2).map rowD))), none] [5]) (items := ((rowL a.2).map rowD).map .dat) (fun u => match u with | .dat (.tuple xs) => .tuple (.str a.1 :: xs) | _ => .none) (fun c hc => by cases hc) (by rw [List.length_map, List.length_map]; exact big _ (by omega)) (fun u hu M' s => by
        rw [List.map_map] at hu
        obtain ⟨r, hr, rfl⟩ := List.mem_map.mp hu
        have rl := (rowL_mem _ r hr).1
        simp only [wipeR, Function.comp, rowD, w_fn, w_ret, w_seq, w_sif, w_of, w_trn, w_op, w_snil, w_pass, w_retn, w_asg, w_gnm, w_gsb, w_gtp, w_gcn, w_gn0, w_par, w_aug, w_drop, w_c, w_k, w_lst, w_tup, w_and, w_or, w_not, w_neg, w_ifx, w_tand, w_tor, w_tnot, w_cb, w_ck, w_mt, w_cons, w_nil, w_var, w_chain, w_sl, w_osome, w_onone, Pu.w_rev, w_dct0, w_for, w_iseq, w_irg1, w_lc, w_lc2, List.map_cons, List.map_nil, List.cons_append, List.nil_append, List.getElem?_cons_zero, List.getElem?_cons_succ, List.length_cons, List.length_nil, Option.some.injEq, exists_eq_left', w_some, List.replicate, List.set_cons_zero, List.set_cons_succ, frz_nil, frz_dat, frz_new, frz_new0, ne_ss, list_t, mk_nil, mk1, mk2, mk3, U.dat.injEq, PyData.int.injEq, PyData.bool.injEq, PyData.str.injEq, U.cell.injEq, add_ii, sub_ii, lt_ii, le_ii, gt_ii, ge_ii, eq_ii, ne_ii, eq_tt0, ne_tt0, eq_ds, sl_t, len_t, isi_int, isi_bool, isi_str, isi_tup, abs_i, min_ii, max_ii, int_i, int_b, mod_ii, fdiv_ii, mul_ii, pow_ii, add_ss, add_tt, mul_ti, repr_d, frzU_dat, and_true, true_and, and_assoc, List.cons.injEq, exists_and_left, exists_and_right, exists_eq_left, exists_eq_right, ix_t, ix_s, sl_s, len_s, is_non, Nat.reduceAdd, Nat.reduceSub, sz0, sz1, sz2, sz3, sz4, sz5, sz6, sz7, sz8, sz9, sz10, sz11, sz12, sz13, sz14, sz15, sz16, sz17, sz18, sz19, sz20, sz21, sz22, sz23, sz24, sz25, sz26, sz27, sz28, sz29, sz30]
        refine ⟨?_, Same0.refl _⟩
        rw [List.length_map]
        exact big _ (by omega))
      refine ⟨M7, e7, ?_⟩
      have g8 : M7[M6.length]? = some (.lst false (((rowL a.2).map fun r => PyData.tuple (.str a.1 :: r.map .int)).map .dat)) := by
        rw [g7, List.map_map, List.map_map, List.map_map]
        rfl
      have hc7 := s7.get hc5
      have hld := ld_len (as := as.take (0 + i)) fun x hx => (has x (List.mem_of_mem_take hx)).2
      have htl : (as.take (0 + i)).length ≤ 4 := by rw [List.length_take]; omega
      rw [extend_l hc7 (lst_cell g8) (big _ (by simp only [List.length_map]; omega)), w_some]
      refine ⟨fun c hc => (by cases hc), _, _, _, rfl, ?_, ?_, ?_⟩
      · rw [get_set hc7]
        have ee := ld_take ha
        rw [Nat.zero_add] at *
        rw [ee, List.map_append]
      · intro j hj
        rw [List.getElem?_set_ne (by omega)]
        obtain ⟨G, rfl⟩ := s7
        rw [List.getElem?_append_left (by omega)]
        exact fr5 j hj
      · rw [List.length_set]
        obtain ⟨G, rfl⟩ := s7
        rw [List.length_append]
        omega
  · intro ρ M1 hI
    obtain ⟨y2, y3, y4, rfl, hc1, fr1, l1⟩ := hI
    rw [List.length_map, List.length_map, Nat.zero_add, List.take_length] at hc1
    simp only [w_fn, w_ret, w_seq, w_sif, w_of, w_trn, w_op, w_snil, w_pass, w_retn, w_asg, w_gnm, w_gsb, w_gtp, w_gcn, w_gn0, w_par, w_aug, w_drop, w_c, w_k, w_lst, w_tup, w_and, w_or, w_not, w_neg, w_ifx, w_tand, w_tor, w_tnot, w_cb, w_ck, w_mt, w_cons, w_nil, w_var, w_chain, w_sl, w_osome, w_onone, Pu.w_rev, w_dct0, w_for, w_iseq, w_irg1, w_lc, w_lc2, List.map_cons, List.map_nil, List.cons_append, List.nil_append, List.getElem?_cons_zero, List.getElem?_cons_succ, List.length_cons, List.length_nil, Option.some.injEq, exists_eq_left', w_some, List.replicate, List.set_cons_zero, List.set_cons_succ, frz_nil, frz_dat, frz_new, frz_new0, ne_ss, list_t, mk_nil, mk1, mk2, mk3, U.dat.injEq, PyData.int.injEq, PyData.bool.injEq, PyData.str.injEq, U.cell.injEq, add_ii, sub_ii, lt_ii, le_ii, gt_ii, ge_ii, eq_ii, ne_ii, eq_tt0, ne_tt0, eq_ds, sl_t, len_t, isi_int, isi_bool, isi_str, isi_tup, abs_i, min_ii, max_ii, int_i, int_b, mod_ii, fdiv_ii, mul_ii, pow_ii, add_ss, add_tt, mul_ti, repr_d, frzU_dat, and_true, true_and, and_assoc, List.cons.injEq, exists_and_left, exists_and_right, exists_eq_left, exists_eq_right, ix_t, ix_s, sl_s, len_s, is_non, Nat.reduceAdd, Nat.reduceSub, sz0, sz1, sz2, sz3, sz4, sz5, sz6, sz7, sz8, sz9, sz10, sz11, sz12, sz13, sz14, sz15, sz16, sz17, sz18, sz19, sz20, sz21, sz22, sz23, sz24, sz25, sz26, sz27, sz28, sz29, sz30]
    rw [sort_c hc1]
    refine ⟨ld_sort has, M1.length, rfl, List.getElem?_concat_length .., fun i hi => ?_, by rw [List.length_append]; omega⟩
    rw [List.getElem?_append_left (by omega)]
    exact fr1 i hi
end Z

namespace Z
open PySem PySem.Spec PyProof.Rows L2 Lw Pu
def wholeD : PyData → Bool
  | .int _ => true
  | _ => false
def withinD (x y : Int) : PyData → Bool
  | .int i => decide (x ≤ i) && decide (i ≤ y)
  | _ => false
def rwD (x y : Int) : PyData → Bool
  | .tuple ds => decide (x ≤ (ds.length : Int)) && decide ((ds.length : Int) ≤ y)
  | _ => false
abbrev Pl (r : Option (U × Mem)) (M : Mem) (d : PyData) : Prop := W r fun u M' => u = .dat d ∧ Same0 M M'
theorem e_whole (d : PyData) (M : Mem) : m_is_whole [.dat d] M = some (.dat (.bool (wholeD d)), M) := by cases d <;> rfl
theorem e_within (d : PyData) (x y : Int) (M : Mem) : m_is_within [.dat d, .dat (.int x), .dat (.int y)] M = some (.dat (.bool (withinD x y d)), M) := by
  have key : W (m_is_within [.dat d, .dat (.int x), .dat (.int y)] M) fun u M' => u = .dat (.bool (withinD x y d)) ∧ M' = M := by
    simp only [m_is_within, e_whole, w_fn, w_ret, w_seq, w_sif, w_of, w_trn, w_op, w_snil, w_pass, w_retn, w_asg, w_gnm, w_gsb, w_gtp, w_gcn, w_gn0, w_par, w_aug, w_drop, w_c, w_k, w_lst, w_tup, w_and, w_or, w_not, w_neg, w_ifx, w_tand, w_tor, w_tnot, w_cb, w_ck, w_mt, w_cons, w_nil, w_var, w_chain, w_sl, w_osome, w_onone, Pu.w_rev, w_dct0, w_for, w_iseq, w_irg1, w_lc, w_lc2, List.map_cons, List.map_nil, List.cons_append, List.nil_append, List.getElem?_cons_zero, List.getElem?_cons_succ, List.length_cons, List.length_nil, Option.some.injEq, exists_eq_left', w_some, List.replicate, List.set_cons_zero, List.set_cons_succ, frz_nil, frz_dat, frz_new, frz_new0, ne_ss, list_t, mk_nil, mk1, mk2, mk3, U.dat.injEq, PyData.int.injEq, PyData.bool.injEq, PyData.str.injEq, U.cell.injEq, add_ii, sub_ii, lt_ii, le_ii, gt_ii, ge_ii, eq_ii, ne_ii, eq_tt0, ne_tt0, eq_ds, sl_t, len_t, isi_int, isi_bool, isi_str, isi_tup, abs_i, min_ii, max_ii, int_i, int_b, mod_ii, fdiv_ii, mul_ii, pow_ii, add_ss, add_tt, mul_ti, repr_d, frzU_dat, and_true, true_and, and_assoc, List.cons.injEq, exists_and_left, exists_and_right, exists_eq_left, exists_eq_right, ix_t, ix_s, sl_s, len_s, is_non, Nat.reduceAdd, Nat.reduceSub, sz0, sz1, sz2, sz3, sz4, sz5, sz6, sz7, sz8, sz9, sz10, sz11, sz12, sz13, sz14, sz15, sz16, sz17, sz18, sz19, sz20, sz21, sz22, sz23, sz24, sz25, sz26, sz27, sz28, sz29, sz30]
    cases d with
    | int i =>
      simp only [wholeD, w_fn, w_ret, w_seq, w_sif, w_of, w_trn, w_op, w_snil, w_pass, w_retn, w_asg, w_gnm, w_gsb, w_gtp, w_gcn, w_gn0, w_par, w_aug, w_drop, w_c, w_k, w_lst, w_tup, w_and, w_or, w_not, w_neg, w_ifx, w_tand, w_tor, w_tnot, w_cb, w_ck, w_mt, w_cons, w_nil, w_var, w_chain, w_sl, w_osome, w_onone, Pu.w_rev, w_dct0, w_for, w_iseq, w_irg1, w_lc, w_lc2, List.map_cons, List.map_nil, List.cons_append, List.nil_append, List.getElem?_cons_zero, List.getElem?_cons_succ, List.length_cons, List.length_nil, Option.some.injEq, exists_eq_left', w_some, List.replicate, List.set_cons_zero, List.set_cons_succ, frz_nil, frz_dat, frz_new, frz_new0, ne_ss, list_t, mk_nil, mk1, mk2, mk3, U.dat.injEq, PyData.int.injEq, PyData.bool.injEq, PyData.str.injEq, U.cell.injEq, add_ii, sub_ii, lt_ii, le_ii, gt_ii, ge_ii, eq_ii, ne_ii, eq_tt0, ne_tt0, eq_ds, sl_t, len_t, isi_int, isi_bool, isi_str, isi_tup, abs_i, min_ii, max_ii, int_i, int_b, mod_ii, fdiv_ii, mul_ii, pow_ii, add_ss, add_tt, mul_ti, repr_d, frzU_dat, and_true, true_and, and_assoc, List.cons.injEq, exists_and_left, exists_and_right, exists_eq_left, exists_eq_right, ix_t, ix_s, sl_s, len_s, is_non, Nat.reduceAdd, Nat.reduceSub, sz0, sz1, sz2, sz3, sz4, sz5, sz6, sz7, sz8, sz9, sz10, sz11, sz12, sz13, sz14, sz15, sz16, sz17, sz18, sz19, sz20, sz21, sz22, sz23, sz24, sz25, sz26, sz27, sz28, sz29, sz30]
      cases h : decide (x ≤ i) with
      | true =>
        simp only [w_fn, w_ret, w_seq, w_sif, w_of, w_trn, w_op, w_snil, w_pass, w_retn, w_asg, w_gnm, w_gsb, w_gtp, w_gcn, w_gn0, w_par, w_aug, w_drop, w_c, w_k, w_lst, w_tup, w_and, w_or, w_not, w_neg, w_ifx, w_tand, w_tor, w_tnot, w_cb, w_ck, w_mt, w_cons, w_nil, w_var, w_chain, w_sl, w_osome, w_onone, Pu.w_rev, w_dct0, w_for, w_iseq, w_irg1, w_lc, w_lc2, List.map_cons, List.map_nil, List.cons_append, List.nil_append, List.getElem?_cons_zero, List.getElem?_cons_succ, List.length_cons, List.length_nil, Option.some.injEq, exists_eq_left', w_some, List.replicate, List.set_cons_zero, List.set_cons_succ, frz_nil, frz_dat, frz_new, frz_new0, ne_ss, list_t, mk_nil, mk1, mk2, mk3, U.dat.injEq, PyData.int.injEq, PyData.bool.injEq, PyData.str.injEq, U.cell.injEq, add_ii, sub_ii, lt_ii, le_ii, gt_ii, ge_ii, eq_ii, ne_ii, eq_tt0, ne_tt0, eq_ds, sl_t, len_t, isi_int, isi_bool, isi_str, isi_tup, abs_i, min_ii, max_ii, int_i, int_b, mod_ii, fdiv_ii, mul_ii, pow_ii, add_ss, add_tt, mul_ti, repr_d, frzU_dat, and_true, true_and, and_assoc, List.cons.injEq, exists_and_left, exists_and_right, exists_eq_left, exists_eq_right, ix_t, ix_s, sl_s, len_s, is_non, Nat.reduceAdd, Nat.reduceSub, sz0, sz1, sz2, sz3, sz4, sz5, sz6, sz7, sz8, sz9, sz10, sz11, sz12, sz13, sz14, sz15, sz16, sz17, sz18, sz19, sz20, sz21, sz22, sz23, sz24, sz25, sz26, sz27, sz28, sz29, sz30, withinD, h, Bool.true_and]
      | false => simp only [withinD, h, Bool.false_and, and_self]
    | _ => first | rfl | exact ⟨rfl, rfl⟩
  obtain ⟨u, M', e, rfl, rfl⟩ := key
  exact e
theorem e_bit (d : PyData) (M : Mem) : m_is_bit [.dat d] M = some (.dat (.bool (withinD 0 1 d)), M) := by
  have key : W (m_is_bit [.dat d] M) fun u M' => u = .dat (.bool (withinD 0 1 d)) ∧ M' = M := by
    simp only [m_is_bit, e_within, w_fn, w_ret, w_seq, w_sif, w_of, w_trn, w_op, w_snil, w_pass, w_retn, w_asg, w_gnm, w_gsb, w_gtp, w_gcn, w_gn0, w_par, w_aug, w_drop, w_c, w_k, w_lst, w_tup, w_and, w_or, w_not, w_neg, w_ifx, w_tand, w_tor, w_tnot, w_cb, w_ck, w_mt, w_cons, w_nil, w_var, w_chain, w_sl, w_osome, w_onone, Pu.w_rev, w_dct0, w_for, w_iseq, w_irg1, w_lc, w_lc2, List.map_cons, List.map_nil, List.cons_append, List.nil_append, List.getElem?_cons_zero, List.getElem?_cons_succ, List.length_cons, List.length_nil, Option.some.injEq, exists_eq_left', w_some, List.replicate, List.set_cons_zero, List.set_cons_succ, frz_nil, frz_dat, frz_new, frz_new0, ne_ss, list_t, mk_nil, mk1, mk2, mk3, U.dat.injEq, PyData.int.injEq, PyData.bool.injEq, PyData.str.injEq, U.cell.injEq, add_ii, sub_ii, lt_ii, le_ii, gt_ii, ge_ii, eq_ii, ne_ii, eq_tt0, ne_tt0, eq_ds, sl_t, len_t, isi_int, isi_bool, isi_str, isi_tup, abs_i, min_ii, max_ii, int_i, int_b, mod_ii, fdiv_ii, mul_ii, pow_ii, add_ss, add_tt, mul_ti, repr_d, frzU_dat, and_true, true_and, and_assoc, List.cons.injEq, exists_and_left, exists_and_right, exists_eq_left, exists_eq_right, ix_t, ix_s, sl_s, len_s, is_non, Nat.reduceAdd, Nat.reduceSub, sz0, sz1, sz2, sz3, sz4, sz5, sz6, sz7, sz8, sz9, sz10, sz11, sz12, sz13, sz14, sz15, sz16, sz17, sz18, sz19, sz20, sz21, sz22, sz23, sz24, sz25, sz26, sz27, sz28, sz29, sz30]
  obtain ⟨u, M', e, rfl, rfl⟩ := key
  exact e
theorem e_row (d : PyData) (x y : Int) (M : Mem) : m_is_row [.dat d, .dat (.int x), .dat (.int y)] M = some (.dat (.bool (rwD x y d)), M) := by
  have key : W (m_is_row [.dat d, .dat (.int x), .dat (.int y)] M) fun u M' => u = .dat (.bool (rwD x y d)) ∧ M' = M := by
    simp only [m_is_row, w_fn, w_ret, w_seq, w_sif, w_of, w_trn, w_op, w_snil, w_pass, w_retn, w_asg, w_gnm, w_gsb, w_gtp, w_gcn, w_gn0, w_par, w_aug, w_drop, w_c, w_k, w_lst, w_tup, w_and, w_or, w_not, w_neg, w_ifx, w_tand, w_tor, w_tnot, w_cb, w_ck, w_mt, w_cons, w_nil, w_var, w_chain, w_sl, w_osome, w_onone, Pu.w_rev, w_dct0, w_for, w_iseq, w_irg1, w_lc, w_lc2, List.map_cons, List.map_nil, List.cons_append, List.nil_append, List.getElem?_cons_zero, List.getElem?_cons_succ, List.length_cons, List.length_nil, Option.some.injEq, exists_eq_left', w_some, List.replicate, List.set_cons_zero, List.set_cons_succ, frz_nil, frz_dat, frz_new, frz_new0, ne_ss, list_t, mk_nil, mk1, mk2, mk3, U.dat.injEq, PyData.int.injEq, PyData.bool.injEq, PyData.str.injEq, U.cell.injEq, add_ii, sub_ii, lt_ii, le_ii, gt_ii, ge_ii, eq_ii, ne_ii, eq_tt0, ne_tt0, eq_ds, sl_t, len_t, isi_int, isi_bool, isi_str, isi_tup, abs_i, min_ii, max_ii, int_i, int_b, mod_ii, fdiv_ii, mul_ii, pow_ii, add_ss, add_tt, mul_ti, repr_d, frzU_dat, and_true, true_and, and_assoc, List.cons.injEq, exists_and_left, exists_and_right, exists_eq_left, exists_eq_right, ix_t, ix_s, sl_s, len_s, is_non, Nat.reduceAdd, Nat.reduceSub, sz0, sz1, sz2, sz3, sz4, sz5, sz6, sz7, sz8, sz9, sz10, sz11, sz12, sz13, sz14, sz15, sz16, sz17, sz18, sz19, sz20, sz21, sz22, sz23, sz24, sz25, sz26, sz27, sz28, sz29, sz30]
    cases d with
    | tuple ds =>
      simp only [isTupD, w_fn, w_ret, w_seq, w_sif, w_of, w_trn, w_op, w_snil, w_pass, w_retn, w_asg, w_gnm, w_gsb, w_gtp, w_gcn, w_gn0, w_par, w_aug, w_drop, w_c, w_k, w_lst, w_tup, w_and, w_or, w_not, w_neg, w_ifx, w_tand, w_tor, w_tnot, w_cb, w_ck, w_mt, w_cons, w_nil, w_var, w_chain, w_sl, w_osome, w_onone, Pu.w_rev, w_dct0, w_for, w_iseq, w_irg1, w_lc, w_lc2, List.map_cons, List.map_nil, List.cons_append, List.nil_append, List.getElem?_cons_zero, List.getElem?_cons_succ, List.length_cons, List.length_nil, Option.some.injEq, exists_eq_left', w_some, List.replicate, List.set_cons_zero, List.set_cons_succ, frz_nil, frz_dat, frz_new, frz_new0, ne_ss, list_t, mk_nil, mk1, mk2, mk3, U.dat.injEq, PyData.int.injEq, PyData.bool.injEq, PyData.str.injEq, U.cell.injEq, add_ii, sub_ii, lt_ii, le_ii, gt_ii, ge_ii, eq_ii, ne_ii, eq_tt0, ne_tt0, eq_ds, sl_t, len_t, isi_int, isi_bool, isi_str, isi_tup, abs_i, min_ii, max_ii, int_i, int_b, mod_ii, fdiv_ii, mul_ii, pow_ii, add_ss, add_tt, mul_ti, repr_d, frzU_dat, and_true, true_and, and_assoc, List.cons.injEq, exists_and_left, exists_and_right, exists_eq_left, exists_eq_right, ix_t, ix_s, sl_s, len_s, is_non, Nat.reduceAdd, Nat.reduceSub, sz0, sz1, sz2, sz3, sz4, sz5, sz6, sz7, sz8, sz9, sz10, sz11, sz12, sz13, sz14, sz15, sz16, sz17, sz18, sz19, sz20, sz21, sz22, sz23, sz24, sz25, sz26, sz27, sz28, sz29, sz30]
      cases h : decide (x ≤ (ds.length : Int)) with
      | true => simp only [w_fn, w_ret, w_seq, w_sif, w_of, w_trn, w_op, w_snil, w_pass, w_retn, w_asg, w_gnm, w_gsb, w_gtp, w_gcn, w_gn0, w_par, w_aug, w_drop, w_c, w_k, w_lst, w_tup, w_and, w_or, w_not, w_neg, w_ifx, w_tand, w_tor, w_tnot, w_cb, w_ck, w_mt, w_cons, w_nil, w_var, w_chain, w_sl, w_osome, w_onone, Pu.w_rev, w_dct0, w_for, w_iseq, w_irg1, w_lc, w_lc2, List.map_cons, List.map_nil, List.cons_append, List.nil_append, List.getElem?_cons_zero, List.getElem?_cons_succ, List.length_cons, List.length_nil, Option.some.injEq, exists_eq_left', w_some, List.replicate, List.set_cons_zero, List.set_cons_succ, frz_nil, frz_dat, frz_new, frz_new0, ne_ss, list_t, mk_nil, mk1, mk2, mk3, U.dat.injEq, PyData.int.injEq, PyData.bool.injEq, PyData.str.injEq, U.cell.injEq, add_ii, sub_ii, lt_ii, le_ii, gt_ii, ge_ii, eq_ii, ne_ii, eq_tt0, ne_tt0, eq_ds, sl_t, len_t, isi_int, isi_bool, isi_str, isi_tup, abs_i, min_ii, max_ii, int_i, int_b, mod_ii, fdiv_ii, mul_ii, pow_ii, add_ss, add_tt, mul_ti, repr_d, frzU_dat, and_true, true_and, and_assoc, List.cons.injEq, exists_and_left, exists_and_right, exists_eq_left, exists_eq_right, ix_t, ix_s, sl_s, len_s, is_non, Nat.reduceAdd, Nat.reduceSub, sz0, sz1, sz2, sz3, sz4, sz5, sz6, sz7, sz8, sz9, sz10, sz11, sz12, sz13, sz14, sz15, sz16, sz17, sz18, sz19, sz20, sz21, sz22, sz23, sz24, sz25, sz26, sz27, sz28, sz29, sz30, rwD, h, Bool.true_and]
      | false => simp only [rwD, h, Bool.false_and, and_self]
    | _ => first | rfl | exact ⟨rfl, rfl⟩
  obtain ⟨u, M', e, rfl, rfl⟩ := key
  exact e
theorem e_below (d : PyData) (y : Int) (M : Mem) : m__law_below [.dat d, .dat (.int y)] M = some (.dat (.bool (withinD 0 (y - 1) d)), M) := by
  have key : W (m__law_below [.dat d, .dat (.int y)] M) fun u M' => u = .dat (.bool (withinD 0 (y - 1) d)) ∧ M' = M := by
    simp only [m__law_below, w_fn, w_ret, w_seq, w_sif, w_of, w_trn, w_op, w_snil, w_pass, w_retn, w_asg, w_gnm, w_gsb, w_gtp, w_gcn, w_gn0, w_par, w_aug, w_drop, w_c, w_k, w_lst, w_tup, w_and, w_or, w_not, w_neg, w_ifx, w_tand, w_tor, w_tnot, w_cb, w_ck, w_mt, w_cons, w_nil, w_var, w_chain, w_sl, w_osome, w_onone, Pu.w_rev, w_dct0, w_for, w_iseq, w_irg1, w_lc, w_lc2, List.map_cons, List.map_nil, List.cons_append, List.nil_append, List.getElem?_cons_zero, List.getElem?_cons_succ, List.length_cons, List.length_nil, Option.some.injEq, exists_eq_left', w_some, List.replicate, List.set_cons_zero, List.set_cons_succ, frz_nil, frz_dat, frz_new, frz_new0, ne_ss, list_t, mk_nil, mk1, mk2, mk3, U.dat.injEq, PyData.int.injEq, PyData.bool.injEq, PyData.str.injEq, U.cell.injEq, add_ii, sub_ii, lt_ii, le_ii, gt_ii, ge_ii, eq_ii, ne_ii, eq_tt0, ne_tt0, eq_ds, sl_t, len_t, isi_int, isi_bool, isi_str, isi_tup, abs_i, min_ii, max_ii, int_i, int_b, mod_ii, fdiv_ii, mul_ii, pow_ii, add_ss, add_tt, mul_ti, repr_d, frzU_dat, and_true, true_and, and_assoc, List.cons.injEq, exists_and_left, exists_and_right, exists_eq_left, exists_eq_right, ix_t, ix_s, sl_s, len_s, is_non, Nat.reduceAdd, Nat.reduceSub, sz0, sz1, sz2, sz3, sz4, sz5, sz6, sz7, sz8, sz9, sz10, sz11, sz12, sz13, sz14, sz15, sz16, sz17, sz18, sz19, sz20, sz21, sz22, sz23, sz24, sz25, sz26, sz27, sz28, sz29, sz30]
    cases d with
    | int i =>
      simp only [isIntD, isBoolD, Bool.not_false, w_fn, w_ret, w_seq, w_sif, w_of, w_trn, w_op, w_snil, w_pass, w_retn, w_asg, w_gnm, w_gsb, w_gtp, w_gcn, w_gn0, w_par, w_aug, w_drop, w_c, w_k, w_lst, w_tup, w_and, w_or, w_not, w_neg, w_ifx, w_tand, w_tor, w_tnot, w_cb, w_ck, w_mt, w_cons, w_nil, w_var, w_chain, w_sl, w_osome, w_onone, Pu.w_rev, w_dct0, w_for, w_iseq, w_irg1, w_lc, w_lc2, List.map_cons, List.map_nil, List.cons_append, List.nil_append, List.getElem?_cons_zero, List.getElem?_cons_succ, List.length_cons, List.length_nil, Option.some.injEq, exists_eq_left', w_some, List.replicate, List.set_cons_zero, List.set_cons_succ, frz_nil, frz_dat, frz_new, frz_new0, ne_ss, list_t, mk_nil, mk1, mk2, mk3, U.dat.injEq, PyData.int.injEq, PyData.bool.injEq, PyData.str.injEq, U.cell.injEq, add_ii, sub_ii, lt_ii, le_ii, gt_ii, ge_ii, eq_ii, ne_ii, eq_tt0, ne_tt0, eq_ds, sl_t, len_t, isi_int, isi_bool, isi_str, isi_tup, abs_i, min_ii, max_ii, int_i, int_b, mod_ii, fdiv_ii, mul_ii, pow_ii, add_ss, add_tt, mul_ti, repr_d, frzU_dat, and_true, true_and, and_assoc, List.cons.injEq, exists_and_left, exists_and_right, exists_eq_left, exists_eq_right, ix_t, ix_s, sl_s, len_s, is_non, Nat.reduceAdd, Nat.reduceSub, sz0, sz1, sz2, sz3, sz4, sz5, sz6, sz7, sz8, sz9, sz10, sz11, sz12, sz13, sz14, sz15, sz16, sz17, sz18, sz19, sz20, sz21, sz22, sz23, sz24, sz25, sz26, sz27, sz28, sz29, sz30]
      have e : decide (i < y) = decide (i ≤ y - 1) := by
        by_cases h : i < y
        · rw [decide_eq_true h, decide_eq_true (by omega)]
        · rw [decide_eq_false h, decide_eq_false (by omega)]
      cases h : decide ((0 : Int) ≤ i) with
      | true => simp only [w_fn, w_ret, w_seq, w_sif, w_of, w_trn, w_op, w_snil, w_pass, w_retn, w_asg, w_gnm, w_gsb, w_gtp, w_gcn, w_gn0, w_par, w_aug, w_drop, w_c, w_k, w_lst, w_tup, w_and, w_or, w_not, w_neg, w_ifx, w_tand, w_tor, w_tnot, w_cb, w_ck, w_mt, w_cons, w_nil, w_var, w_chain, w_sl, w_osome, w_onone, Pu.w_rev, w_dct0, w_for, w_iseq, w_irg1, w_lc, w_lc2, List.map_cons, List.map_nil, List.cons_append, List.nil_append, List.getElem?_cons_zero, List.getElem?_cons_succ, List.length_cons, List.length_nil, Option.some.injEq, exists_eq_left', w_some, List.replicate, List.set_cons_zero, List.set_cons_succ, frz_nil, frz_dat, frz_new, frz_new0, ne_ss, list_t, mk_nil, mk1, mk2, mk3, U.dat.injEq, PyData.int.injEq, PyData.bool.injEq, PyData.str.injEq, U.cell.injEq, add_ii, sub_ii, lt_ii, le_ii, gt_ii, ge_ii, eq_ii, ne_ii, eq_tt0, ne_tt0, eq_ds, sl_t, len_t, isi_int, isi_bool, isi_str, isi_tup, abs_i, min_ii, max_ii, int_i, int_b, mod_ii, fdiv_ii, mul_ii, pow_ii, add_ss, add_tt, mul_ti, repr_d, frzU_dat, and_true, true_and, and_assoc, List.cons.injEq, exists_and_left, exists_and_right, exists_eq_left, exists_eq_right, ix_t, ix_s, sl_s, len_s, is_non, Nat.reduceAdd, Nat.reduceSub, sz0, sz1, sz2, sz3, sz4, sz5, sz6, sz7, sz8, sz9, sz10, sz11, sz12, sz13, sz14, sz15, sz16, sz17, sz18, sz19, sz20, sz21, sz22, sz23, sz24, sz25, sz26, sz27, sz28, sz29, sz30, withinD, h, e, Bool.true_and]
      | false => simp only [withinD, h, Bool.false_and, and_self]
    | _ => first | rfl | exact ⟨rfl, rfl⟩
  obtain ⟨u, M', e, rfl, rfl⟩ := key
  exact e
def bitsD (c : Nat) : PyData → Bool
  | .tuple bs => decide (bs.length = c) && bs.all (withinD 0 1)
  | _ => false
def shadeD (s p c : Nat) : PyData → Bool
  | .tuple [a, m, b] => withinD 0 ((s : Int) - 1) a && (withinD 0 ((p : Int) - 1) m && bitsD c b)
  | _ => false
theorem p_allb {M : Mem} {bs : List PyData} {M1 : Mem} (hl : bs.length ≤ 100) {g : MG} {e : ME} {ρ : Pu.Env} {f : PyData → Bool} (he : ∀ d ∈ bs, ∀ M', Same0 M M' → W (g (.dat d) ρ M') fun ρ1 M2 => W (e ρ1 M2) fun y M3 => y = .dat (.bool (f d)) ∧ Same0 M' M3) :
    ∃ M2, lcM (Wt M (cellsOf (.dat (.tuple bs)))) g tYesM e M.length ρ (bs.map .dat) (M ++ [.lst false []]) = some M2 ∧ Same0 M M2 ∧ allF [.cell M.length] M2 = some (.dat (.bool (bs.all f)), M2) := by
  obtain ⟨M2, e2, s2, g2⟩ := lc_pure (M1 := M) (ws := cellsOf (.dat (.tuple bs))) (g := g) (e := e) (ρ := ρ) (items := bs.map .dat) (fun u => match u with | .dat x => .bool (f x) | _ => .none) (fun c hc => by cases hc) (by rw [List.length_map]; exact Nat.le_trans hl (by decide)) (fun u hu M' s => by
    obtain ⟨x, hx, rfl⟩ := List.mem_map.mp hu
    exact he x hx M' s)
  refine ⟨M2, e2, s2, ?_⟩
  rw [List.map_map] at g2
  have g3 : M2[M.length]? = some (.lst false ((bs.map f).map fun b => .dat (.bool b))) := by
    rw [g2, List.map_map]
    rfl
  rw [all_c g3, List.all_map]
  rfl
theorem wlen {d : PyData} {bs : List PyData} (h : d = .tuple bs) : bs.length ≤ d.weight := by
  subst h
  simp only [PyData.weight]
  exact len_le_wa bs
theorem p_shade {ws : List Str} {as : List (Str × Nat)} {phs gs : List PyData} {d : PyData} (M : Mem) (hd : d.weight ≤ 90) : Pl (m__law_is_shade [.dat (progD ws as phs), .dat (.tuple gs), .dat d] M) M (.bool (shadeD gs.length phs.length ws.length d)) := by
  simp only [Pl, m__law_is_shade, w_fn, w_ret, w_seq, w_sif, w_of, w_trn, w_op, w_snil, w_pass, w_retn, w_asg, w_gnm, w_gsb, w_gtp, w_gcn, w_gn0, w_par, w_aug, w_drop, w_c, w_k, w_lst, w_tup, w_and, w_or, w_not, w_neg, w_ifx, w_tand, w_tor, w_tnot, w_cb, w_ck, w_mt, w_cons, w_nil, w_var, w_chain, w_sl, w_osome, w_onone, Pu.w_rev, w_dct0, w_for, w_iseq, w_irg1, w_lc, w_lc2, List.map_cons, List.map_nil, List.cons_append, List.nil_append, List.getElem?_cons_zero, List.getElem?_cons_succ, List.length_cons, List.length_nil, Option.some.injEq, exists_eq_left', w_some, List.replicate, List.set_cons_zero, List.set_cons_succ, frz_nil, frz_dat, frz_new, frz_new0, ne_ss, list_t, mk_nil, mk1, mk2, mk3, U.dat.injEq, PyData.int.injEq, PyData.bool.injEq, PyData.str.injEq, U.cell.injEq, add_ii, sub_ii, lt_ii, le_ii, gt_ii, ge_ii, eq_ii, ne_ii, eq_tt0, ne_tt0, eq_ds, sl_t, len_t, isi_int, isi_bool, isi_str, isi_tup, abs_i, min_ii, max_ii, int_i, int_b, mod_ii, fdiv_ii, mul_ii, pow_ii, add_ss, add_tt, mul_ti, repr_d, frzU_dat, and_true, true_and, and_assoc, List.cons.injEq, exists_and_left, exists_and_right, exists_eq_left, exists_eq_right, ix_t, ix_s, sl_s, len_s, is_non, Nat.reduceAdd, Nat.reduceSub, sz0, sz1, sz2, sz3, sz4, sz5, sz6, sz7, sz8, sz9, sz10, sz11, sz12, sz13, sz14, sz15, sz16, sz17, sz18, sz19, sz20, sz21, sz22, sz23, sz24, sz25, sz26, sz27, sz28, sz29, sz30]
  cases d with
  | tuple ds =>
    simp only [isTupD, Bool.not_true, w_fn, w_ret, w_seq, w_sif, w_of, w_trn, w_op, w_snil, w_pass, w_retn, w_asg, w_gnm, w_gsb, w_gtp, w_gcn, w_gn0, w_par, w_aug, w_drop, w_c, w_k, w_lst, w_tup, w_and, w_or, w_not, w_neg, w_ifx, w_tand, w_tor, w_tnot, w_cb, w_ck, w_mt, w_cons, w_nil, w_var, w_chain, w_sl, w_osome, w_onone, Pu.w_rev, w_dct0, w_for, w_iseq, w_irg1, w_lc, w_lc2, List.map_cons, List.map_nil, List.cons_append, List.nil_append, List.getElem?_cons_zero, List.getElem?_cons_succ, List.length_cons, List.length_nil, Option.some.injEq, exists_eq_left', w_some, List.replicate, List.set_cons_zero, List.set_cons_succ, frz_nil, frz_dat, frz_new, frz_new0, ne_ss, list_t, mk_nil, mk1, mk2, mk3, U.dat.injEq, PyData.int.injEq, PyData.bool.injEq, PyData.str.injEq, U.cell.injEq, add_ii, sub_ii, lt_ii, le_ii, gt_ii, ge_ii, eq_ii, ne_ii, eq_tt0, ne_tt0, eq_ds, sl_t, len_t, isi_int, isi_bool, isi_str, isi_tup, abs_i, min_ii, max_ii, int_i, int_b, mod_ii, fdiv_ii, mul_ii, pow_ii, add_ss, add_tt, mul_ti, repr_d, frzU_dat, and_true, true_and, and_assoc, List.cons.injEq, exists_and_left, exists_and_right, exists_eq_left, exists_eq_right, ix_t, ix_s, sl_s, len_s, is_non, Nat.reduceAdd, Nat.reduceSub, sz0, sz1, sz2, sz3, sz4, sz5, sz6, sz7, sz8, sz9, sz10, sz11, sz12, sz13, sz14, sz15, sz16, sz17, sz18, sz19, sz20, sz21, sz22, sz23, sz24, sz25, sz26, sz27, sz28, sz29, sz30]
    match ds, hd with
    | [a, m, b], hd =>
      simp only [e_below, w_fn, w_ret, w_seq, w_sif, w_of, w_trn, w_op, w_snil, w_pass, w_retn, w_asg, w_gnm, w_gsb, w_gtp, w_gcn, w_gn0, w_par, w_aug, w_drop, w_c, w_k, w_lst, w_tup, w_and, w_or, w_not, w_neg, w_ifx, w_tand, w_tor, w_tnot, w_cb, w_ck, w_mt, w_cons, w_nil, w_var, w_chain, w_sl, w_osome, w_onone, Pu.w_rev, w_dct0, w_for, w_iseq, w_irg1, w_lc, w_lc2, List.map_cons, List.map_nil, List.cons_append, List.nil_append, List.getElem?_cons_zero, List.getElem?_cons_succ, List.length_cons, List.length_nil, Option.some.injEq, exists_eq_left', w_some, List.replicate, List.set_cons_zero, List.set_cons_succ, frz_nil, frz_dat, frz_new, frz_new0, ne_ss, list_t, mk_nil, mk1, mk2, mk3, U.dat.injEq, PyData.int.injEq, PyData.bool.injEq, PyData.str.injEq, U.cell.injEq, add_ii, sub_ii, lt_ii, le_ii, gt_ii, ge_ii, eq_ii, ne_ii, eq_tt0, ne_tt0, eq_ds, sl_t, len_t, isi_int, isi_bool, isi_str, isi_tup, abs_i, min_ii, max_ii, int_i, int_b, mod_ii, fdiv_ii, mul_ii, pow_ii, add_ss, add_tt, mul_ti, repr_d, frzU_dat, and_true, true_and, and_assoc, List.cons.injEq, exists_and_left, exists_and_right, exists_eq_left, exists_eq_right, ix_t, ix_s, sl_s, len_s, is_non, Nat.reduceAdd, Nat.reduceSub, sz0, sz1, sz2, sz3, sz4, sz5, sz6, sz7, sz8, sz9, sz10, sz11, sz12, sz13, sz14, sz15, sz16, sz17, sz18, sz19, sz20, sz21, sz22, sz23, sz24, sz25, sz26, sz27, sz28, sz29, sz30]
      have h3 : decide (((2 + 1 : Nat) : Int) = 3) = true := rfl
      simp only [h3, Bool.not_true]
      refine ⟨a, rfl, ?_⟩
      cases h1 : withinD 0 ((gs.length : Int) - 1) a with
      | false => simp only [Bool.not_false, shadeD, h1, Bool.false_and]; first | exact ⟨rfl, Same0.refl M⟩ | exact ⟨trivial, Same0.refl M⟩ | exact Same0.refl M
      | true =>
        simp only [Bool.not_true]
        refine ⟨m, rfl, .tuple phs, rfl, ?_⟩
        simp only [e_below, w_fn, w_ret, w_seq, w_sif, w_of, w_trn, w_op, w_snil, w_pass, w_retn, w_asg, w_gnm, w_gsb, w_gtp, w_gcn, w_gn0, w_par, w_aug, w_drop, w_c, w_k, w_lst, w_tup, w_and, w_or, w_not, w_neg, w_ifx, w_tand, w_tor, w_tnot, w_cb, w_ck, w_mt, w_cons, w_nil, w_var, w_chain, w_sl, w_osome, w_onone, Pu.w_rev, w_dct0, w_for, w_iseq, w_irg1, w_lc, w_lc2, List.map_cons, List.map_nil, List.cons_append, List.nil_append, List.getElem?_cons_zero, List.getElem?_cons_succ, List.length_cons, List.length_nil, Option.some.injEq, exists_eq_left', w_some, List.replicate, List.set_cons_zero, List.set_cons_succ, frz_nil, frz_dat, frz_new, frz_new0, ne_ss, list_t, mk_nil, mk1, mk2, mk3, U.dat.injEq, PyData.int.injEq, PyData.bool.injEq, PyData.str.injEq, U.cell.injEq, add_ii, sub_ii, lt_ii, le_ii, gt_ii, ge_ii, eq_ii, ne_ii, eq_tt0, ne_tt0, eq_ds, sl_t, len_t, isi_int, isi_bool, isi_str, isi_tup, abs_i, min_ii, max_ii, int_i, int_b, mod_ii, fdiv_ii, mul_ii, pow_ii, add_ss, add_tt, mul_ti, repr_d, frzU_dat, and_true, true_and, and_assoc, List.cons.injEq, exists_and_left, exists_and_right, exists_eq_left, exists_eq_right, ix_t, ix_s, sl_s, len_s, is_non, Nat.reduceAdd, Nat.reduceSub, sz0, sz1, sz2, sz3, sz4, sz5, sz6, sz7, sz8, sz9, sz10, sz11, sz12, sz13, sz14, sz15, sz16, sz17, sz18, sz19, sz20, sz21, sz22, sz23, sz24, sz25, sz26, sz27, sz28, sz29, sz30]
        cases h2 : withinD 0 ((phs.length : Int) - 1) m with
        | false => simp only [Bool.not_false, shadeD, h1, h2, Bool.false_and, Bool.and_false]; first | exact ⟨rfl, Same0.refl M⟩ | exact ⟨trivial, Same0.refl M⟩ | exact Same0.refl M
        | true =>
          simp only [Bool.not_true]
          refine ⟨b, rfl, ?_⟩
          simp only [shadeD, h1, h2, Bool.true_and]
          cases b with
          | tuple bs =>
            have hbl : bs.length ≤ 90 := by
              simp only [PyData.weight, PyData.weightAll] at hd
              have := len_le_wa bs
              omega
            simp only [isTupD, Bool.not_true, w_fn, w_ret, w_seq, w_sif, w_of, w_trn, w_op, w_snil, w_pass, w_retn, w_asg, w_gnm, w_gsb, w_gtp, w_gcn, w_gn0, w_par, w_aug, w_drop, w_c, w_k, w_lst, w_tup, w_and, w_or, w_not, w_neg, w_ifx, w_tand, w_tor, w_tnot, w_cb, w_ck, w_mt, w_cons, w_nil, w_var, w_chain, w_sl, w_osome, w_onone, Pu.w_rev, w_dct0, w_for, w_iseq, w_irg1, w_lc, w_lc2, List.map_cons, List.map_nil, List.cons_append, List.nil_append, List.getElem?_cons_zero, List.getElem?_cons_succ, List.length_cons, List.length_nil, Option.some.injEq, exists_eq_left', w_some, List.replicate, List.set_cons_zero, List.set_cons_succ, frz_nil, frz_dat, frz_new, frz_new0, ne_ss, list_t, mk_nil, mk1, mk2, mk3, U.dat.injEq, PyData.int.injEq, PyData.bool.injEq, PyData.str.injEq, U.cell.injEq, add_ii, sub_ii, lt_ii, le_ii, gt_ii, ge_ii, eq_ii, ne_ii, eq_tt0, ne_tt0, eq_ds, sl_t, len_t, isi_int, isi_bool, isi_str, isi_tup, abs_i, min_ii, max_ii, int_i, int_b, mod_ii, fdiv_ii, mul_ii, pow_ii, add_ss, add_tt, mul_ti, repr_d, frzU_dat, and_true, true_and, and_assoc, List.cons.injEq, exists_and_left, exists_and_right, exists_eq_left, exists_eq_right, ix_t, ix_s, sl_s, len_s, is_non, Nat.reduceAdd, Nat.reduceSub, sz0, sz1, sz2, sz3, sz4, sz5, sz6, sz7, sz8, sz9, sz10, sz11, sz12, sz13, sz14, sz15, sz16, sz17, sz18, sz19, sz20, sz21, sz22, sz23, sz24, sz25, sz26, sz27, sz28, sz29, sz30]
            refine ⟨.tuple bs, rfl, ?_⟩
            try simp only [w_fn, w_ret, w_seq, w_sif, w_of, w_trn, w_op, w_snil, w_pass, w_retn, w_asg, w_gnm, w_gsb, w_gtp, w_gcn, w_gn0, w_par, w_aug, w_drop, w_c, w_k, w_lst, w_tup, w_and, w_or, w_not, w_neg, w_ifx, w_tand, w_tor, w_tnot, w_cb, w_ck, w_mt, w_cons, w_nil, w_var, w_chain, w_sl, w_osome, w_onone, Pu.w_rev, w_dct0, w_for, w_iseq, w_irg1, w_lc, w_lc2, List.map_cons, List.map_nil, List.cons_append, List.nil_append, List.getElem?_cons_zero, List.getElem?_cons_succ, List.length_cons, List.length_nil, Option.some.injEq, exists_eq_left', w_some, List.replicate, List.set_cons_zero, List.set_cons_succ, frz_nil, frz_dat, frz_new, frz_new0, ne_ss, list_t, mk_nil, mk1, mk2, mk3, U.dat.injEq, PyData.int.injEq, PyData.bool.injEq, PyData.str.injEq, U.cell.injEq, add_ii, sub_ii, lt_ii, le_ii, gt_ii, ge_ii, eq_ii, ne_ii, eq_tt0, ne_tt0, eq_ds, sl_t, len_t, isi_int, isi_bool, isi_str, isi_tup, abs_i, min_ii, max_ii, int_i, int_b, mod_ii, fdiv_ii, mul_ii, pow_ii, add_ss, add_tt, mul_ti, repr_d, frzU_dat, and_true, true_and, and_assoc, List.cons.injEq, exists_and_left, exists_and_right, exists_eq_left, exists_eq_right, ix_t, ix_s, sl_s, len_s, is_non, Nat.reduceAdd, Nat.reduceSub, sz0, sz1, sz2, sz3, sz4, sz5, sz6, sz7, sz8, sz9, sz10, sz11, sz12, sz13, sz14, sz15, sz16, sz17, sz18, sz19, sz20, sz21, sz22, sz23, sz24, sz25, sz26, sz27, sz28, sz29, sz30]
            refine ⟨.tuple (ws.map .str), rfl, ?_⟩
            simp only [List.length_map, w_fn, w_ret, w_seq, w_sif, w_of, w_trn, w_op, w_snil, w_pass, w_retn, w_asg, w_gnm, w_gsb, w_gtp, w_gcn, w_gn0, w_par, w_aug, w_drop, w_c, w_k, w_lst, w_tup, w_and, w_or, w_not, w_neg, w_ifx, w_tand, w_tor, w_tnot, w_cb, w_ck, w_mt, w_cons, w_nil, w_var, w_chain, w_sl, w_osome, w_onone, Pu.w_rev, w_dct0, w_for, w_iseq, w_irg1, w_lc, w_lc2, List.map_cons, List.map_nil, List.cons_append, List.nil_append, List.getElem?_cons_zero, List.getElem?_cons_succ, List.length_cons, List.length_nil, Option.some.injEq, exists_eq_left', w_some, List.replicate, List.set_cons_zero, List.set_cons_succ, frz_nil, frz_dat, frz_new, frz_new0, ne_ss, list_t, mk_nil, mk1, mk2, mk3, U.dat.injEq, PyData.int.injEq, PyData.bool.injEq, PyData.str.injEq, U.cell.injEq, add_ii, sub_ii, lt_ii, le_ii, gt_ii, ge_ii, eq_ii, ne_ii, eq_tt0, ne_tt0, eq_ds, sl_t, len_t, isi_int, isi_bool, isi_str, isi_tup, abs_i, min_ii, max_ii, int_i, int_b, mod_ii, fdiv_ii, mul_ii, pow_ii, add_ss, add_tt, mul_ti, repr_d, frzU_dat, and_true, true_and, and_assoc, List.cons.injEq, exists_and_left, exists_and_right, exists_eq_left, exists_eq_right, ix_t, ix_s, sl_s, len_s, is_non, Nat.reduceAdd, Nat.reduceSub, sz0, sz1, sz2, sz3, sz4, sz5, sz6, sz7, sz8, sz9, sz10, sz11, sz12, sz13, sz14, sz15, sz16, sz17, sz18, sz19, sz20, sz21, sz22, sz23, sz24, sz25, sz26, sz27, sz28, sz29, sz30]
            by_cases hl : bs.length = ws.length
            · rw [decide_eq_true (show (bs.length : Int) = (ws.length : Int) by omega)]
              simp only [Bool.not_true]
              refine ⟨_, rfl, _, rfl, ?_⟩
              obtain ⟨M2, e2, s2, g2⟩ := p_allb (M := M) (M1 := M) (bs := bs) (by omega) (g := gNm 3) (e := eCB m__law_below (aCons (eVar 3) (aCons (eC (.int 2)) aNil))) (ρ := wipeR [some (.dat (progD ws as phs)), some (.dat (.tuple gs)), some (.dat (.tuple [a, m, .tuple bs])), none] [3]) (f := withinD 0 1) (fun d hd M' s => by
                simp only [wipeR, e_below, w_fn, w_ret, w_seq, w_sif, w_of, w_trn, w_op, w_snil, w_pass, w_retn, w_asg, w_gnm, w_gsb, w_gtp, w_gcn, w_gn0, w_par, w_aug, w_drop, w_c, w_k, w_lst, w_tup, w_and, w_or, w_not, w_neg, w_ifx, w_tand, w_tor, w_tnot, w_cb, w_ck, w_mt, w_cons, w_nil, w_var, w_chain, w_sl, w_osome, w_onone, Pu.w_rev, w_dct0, w_for, w_iseq, w_irg1, w_lc, w_lc2, List.map_cons, List.map_nil, List.cons_append, List.nil_append, List.getElem?_cons_zero, List.getElem?_cons_succ, List.length_cons, List.length_nil, Option.some.injEq, exists_eq_left', w_some, List.replicate, List.set_cons_zero, List.set_cons_succ, frz_nil, frz_dat, frz_new, frz_new0, ne_ss, list_t, mk_nil, mk1, mk2, mk3, U.dat.injEq, PyData.int.injEq, PyData.bool.injEq, PyData.str.injEq, U.cell.injEq, add_ii, sub_ii, lt_ii, le_ii, gt_ii, ge_ii, eq_ii, ne_ii, eq_tt0, ne_tt0, eq_ds, sl_t, len_t, isi_int, isi_bool, isi_str, isi_tup, abs_i, min_ii, max_ii, int_i, int_b, mod_ii, fdiv_ii, mul_ii, pow_ii, add_ss, add_tt, mul_ti, repr_d, frzU_dat, and_true, true_and, and_assoc, List.cons.injEq, exists_and_left, exists_and_right, exists_eq_left, exists_eq_right, ix_t, ix_s, sl_s, len_s, is_non, Nat.reduceAdd, Nat.reduceSub, sz0, sz1, sz2, sz3, sz4, sz5, sz6, sz7, sz8, sz9, sz10, sz11, sz12, sz13, sz14, sz15, sz16, sz17, sz18, sz19, sz20, sz21, sz22, sz23, sz24, sz25, sz26, sz27, sz28, sz29, sz30]
                exact ⟨rfl, Same0.refl _⟩)
              refine ⟨M2, e2, ?_⟩
              rw [g2, w_some]
              simp only [bitsD, decide_eq_true hl, Bool.true_and]
              first | exact ⟨rfl, s2⟩ | exact ⟨trivial, s2⟩ | exact s2
            · rw [decide_eq_false (show ¬ (bs.length : Int) = (ws.length : Int) by omega)]
              simp only [Bool.not_false, bitsD, decide_eq_false hl, Bool.false_and]
              first | exact ⟨rfl, Same0.refl M⟩ | exact ⟨trivial, Same0.refl M⟩ | exact Same0.refl M
          | _ =>
            simp only [isTupD, Bool.not_false, bitsD]
            first | exact ⟨rfl, Same0.refl M⟩ | exact ⟨trivial, Same0.refl M⟩ | exact Same0.refl M
    | [], _ => first | exact ⟨rfl, Same0.refl M⟩ | exact ⟨trivial, Same0.refl M⟩ | exact Same0.refl M
    | [_], _ => first | exact ⟨rfl, Same0.refl M⟩ | exact ⟨trivial, Same0.refl M⟩ | exact Same0.refl M
    | [_, _], _ => first | exact ⟨rfl, Same0.refl M⟩ | exact ⟨trivial, Same0.refl M⟩ | exact Same0.refl M
    | _ :: _ :: _ :: _ :: r, _ =>
      simp only [w_fn, w_ret, w_seq, w_sif, w_of, w_trn, w_op, w_snil, w_pass, w_retn, w_asg, w_gnm, w_gsb, w_gtp, w_gcn, w_gn0, w_par, w_aug, w_drop, w_c, w_k, w_lst, w_tup, w_and, w_or, w_not, w_neg, w_ifx, w_tand, w_tor, w_tnot, w_cb, w_ck, w_mt, w_cons, w_nil, w_var, w_chain, w_sl, w_osome, w_onone, Pu.w_rev, w_dct0, w_for, w_iseq, w_irg1, w_lc, w_lc2, List.map_cons, List.map_nil, List.cons_append, List.nil_append, List.getElem?_cons_zero, List.getElem?_cons_succ, List.length_cons, List.length_nil, Option.some.injEq, exists_eq_left', w_some, List.replicate, List.set_cons_zero, List.set_cons_succ, frz_nil, frz_dat, frz_new, frz_new0, ne_ss, list_t, mk_nil, mk1, mk2, mk3, U.dat.injEq, PyData.int.injEq, PyData.bool.injEq, PyData.str.injEq, U.cell.injEq, add_ii, sub_ii, lt_ii, le_ii, gt_ii, ge_ii, eq_ii, ne_ii, eq_tt0, ne_tt0, eq_ds, sl_t, len_t, isi_int, isi_bool, isi_str, isi_tup, abs_i, min_ii, max_ii, int_i, int_b, mod_ii, fdiv_ii, mul_ii, pow_ii, add_ss, add_tt, mul_ti, repr_d, frzU_dat, and_true, true_and, and_assoc, List.cons.injEq, exists_and_left, exists_and_right, exists_eq_left, exists_eq_right, ix_t, ix_s, sl_s, len_s, is_non, Nat.reduceAdd, Nat.reduceSub, sz0, sz1, sz2, sz3, sz4, sz5, sz6, sz7, sz8, sz9, sz10, sz11, sz12, sz13, sz14, sz15, sz16, sz17, sz18, sz19, sz20, sz21, sz22, sz23, sz24, sz25, sz26, sz27, sz28, sz29, sz30]
      rw [decide_eq_false (by omega)]
      simp only [Bool.not_false, shadeD]
      first | exact ⟨rfl, Same0.refl M⟩ | exact ⟨trivial, Same0.refl M⟩ | exact Same0.refl M
  | _ =>
    simp only [isTupD, Bool.not_false, shadeD]
    first | exact ⟨rfl, Same0.refl M⟩ | exact ⟨trivial, Same0.refl M⟩ | exact Same0.refl M
theorem mul1 {d : PyData} {k : Nat} {M : Mem} {Q : U → Mem → Prop} : W (mulU (.dat (.tuple [d])) (.dat (.int (k : Int))) M) Q ↔ k ≤ 1000 ∧ Q (.dat (.tuple (List.replicate k d))) M := by
  rw [mul_ti, Int.toNat_natCast, List.flatten_replicate_singleton]
  constructor
  · exact fun h => ⟨by omega, h.2⟩
  · exact fun h => ⟨⟨by simp, by omega, by omega, by simp⟩, h.2⟩
theorem e_free {as : List (Str × Nat)} (hal : as.length ≤ 4) (M : Mem) : m_free [actsU as] M = some (.dat (.tuple [.tuple (List.replicate as.length (.int 0))]), M) := by
  have key : W (m_free [actsU as] M) fun u M' => u = .dat (.tuple [.tuple (List.replicate as.length (.int 0))]) ∧ M' = M := by
    simp only [m_free, List.length_map, w_fn, w_ret, w_seq, w_sif, w_of, w_trn, w_op, w_snil, w_pass, w_retn, w_asg, w_gnm, w_gsb, w_gtp, w_gcn, w_gn0, w_par, w_aug, w_drop, w_c, w_k, w_lst, w_tup, w_and, w_or, w_not, w_neg, w_ifx, w_tand, w_tor, w_tnot, w_cb, w_ck, w_mt, w_cons, w_nil, w_var, w_chain, w_sl, w_osome, w_onone, Pu.w_rev, w_dct0, w_for, w_iseq, w_irg1, w_lc, w_lc2, List.map_cons, List.map_nil, List.cons_append, List.nil_append, List.getElem?_cons_zero, List.getElem?_cons_succ, List.length_cons, List.length_nil, Option.some.injEq, exists_eq_left', w_some, List.replicate, List.set_cons_zero, List.set_cons_succ, frz_nil, frz_dat, frz_new, frz_new0, ne_ss, list_t, mk_nil, mk1, mk2, mk3, U.dat.injEq, PyData.int.injEq, PyData.bool.injEq, PyData.str.injEq, U.cell.injEq, add_ii, sub_ii, lt_ii, le_ii, gt_ii, ge_ii, eq_ii, ne_ii, eq_tt0, ne_tt0, eq_ds, sl_t, len_t, isi_int, isi_bool, isi_str, isi_tup, abs_i, min_ii, max_ii, int_i, int_b, mod_ii, fdiv_ii, mul_ii, pow_ii, add_ss, add_tt, mul1, repr_d, frzU_dat, and_true, true_and, and_assoc, List.cons.injEq, exists_and_left, exists_and_right, exists_eq_left, exists_eq_right, ix_t, ix_s, sl_s, len_s, is_non, Nat.reduceAdd, Nat.reduceSub, sz0, sz1, sz2, sz3, sz4, sz5, sz6, sz7, sz8, sz9, sz10, sz11, sz12, sz13, sz14, sz15, sz16, sz17, sz18, sz19, sz20, sz21, sz22, sz23, sz24, sz25, sz26, sz27, sz28, sz29, sz30]
    first | exact ⟨by omega, rfl, rfl⟩ | exact (by omega)
  obtain ⟨u, M', e, rfl, rfl⟩ := key
  exact e
theorem e_lfree {as : List (Str × Nat)} (hal : as.length ≤ 4) (M : Mem) : m__law_free [actsU as] M = some (.dat (.tuple [.tuple (List.replicate as.length (.int 0))]), M) := by
  have key : W (m__law_free [actsU as] M) fun u M' => u = .dat (.tuple [.tuple (List.replicate as.length (.int 0))]) ∧ M' = M := by
    simp only [m__law_free, List.length_map, w_fn, w_ret, w_seq, w_sif, w_of, w_trn, w_op, w_snil, w_pass, w_retn, w_asg, w_gnm, w_gsb, w_gtp, w_gcn, w_gn0, w_par, w_aug, w_drop, w_c, w_k, w_lst, w_tup, w_and, w_or, w_not, w_neg, w_ifx, w_tand, w_tor, w_tnot, w_cb, w_ck, w_mt, w_cons, w_nil, w_var, w_chain, w_sl, w_osome, w_onone, Pu.w_rev, w_dct0, w_for, w_iseq, w_irg1, w_lc, w_lc2, List.map_cons, List.map_nil, List.cons_append, List.nil_append, List.getElem?_cons_zero, List.getElem?_cons_succ, List.length_cons, List.length_nil, Option.some.injEq, exists_eq_left', w_some, List.replicate, List.set_cons_zero, List.set_cons_succ, frz_nil, frz_dat, frz_new, frz_new0, ne_ss, list_t, mk_nil, mk1, mk2, mk3, U.dat.injEq, PyData.int.injEq, PyData.bool.injEq, PyData.str.injEq, U.cell.injEq, add_ii, sub_ii, lt_ii, le_ii, gt_ii, ge_ii, eq_ii, ne_ii, eq_tt0, ne_tt0, eq_ds, sl_t, len_t, isi_int, isi_bool, isi_str, isi_tup, abs_i, min_ii, max_ii, int_i, int_b, mod_ii, fdiv_ii, mul_ii, pow_ii, add_ss, add_tt, mul1, repr_d, frzU_dat, and_true, true_and, and_assoc, List.cons.injEq, exists_and_left, exists_and_right, exists_eq_left, exists_eq_right, ix_t, ix_s, sl_s, len_s, is_non, Nat.reduceAdd, Nat.reduceSub, sz0, sz1, sz2, sz3, sz4, sz5, sz6, sz7, sz8, sz9, sz10, sz11, sz12, sz13, sz14, sz15, sz16, sz17, sz18, sz19, sz20, sz21, sz22, sz23, sz24, sz25, sz26, sz27, sz28, sz29, sz30]
    first | exact ⟨by omega, rfl, rfl⟩ | exact (by omega)
  obtain ⟨u, M', e, rfl, rfl⟩ := key
  exact e
def gLen : PyData → Nat
  | .tuple gs => gs.length
  | _ => 1
theorem p_gof {ws : List Str} {as : List (Str × Nat)} {phs : List PyData} (hal : as.length ≤ 4) {gd : PyData} (hg : gd = .none ∨ ∃ gs, gd = .tuple gs) (M : Mem) : W (m_guard_or_free [.dat (progD ws as phs), .dat gd] M) fun u M' => M' = M ∧ ∃ gs, u = .dat (.tuple gs) ∧ gs.length = gLen gd := by
  simp only [m_guard_or_free, w_fn, w_ret, w_seq, w_sif, w_of, w_trn, w_op, w_snil, w_pass, w_retn, w_asg, w_gnm, w_gsb, w_gtp, w_gcn, w_gn0, w_par, w_aug, w_drop, w_c, w_k, w_lst, w_tup, w_and, w_or, w_not, w_neg, w_ifx, w_tand, w_tor, w_tnot, w_cb, w_ck, w_mt, w_cons, w_nil, w_var, w_chain, w_sl, w_osome, w_onone, Pu.w_rev, w_dct0, w_for, w_iseq, w_irg1, w_lc, w_lc2, List.map_cons, List.map_nil, List.cons_append, List.nil_append, List.getElem?_cons_zero, List.getElem?_cons_succ, List.length_cons, List.length_nil, Option.some.injEq, exists_eq_left', w_some, List.replicate, List.set_cons_zero, List.set_cons_succ, frz_nil, frz_dat, frz_new, frz_new0, ne_ss, list_t, mk_nil, mk1, mk2, mk3, U.dat.injEq, PyData.int.injEq, PyData.bool.injEq, PyData.str.injEq, U.cell.injEq, add_ii, sub_ii, lt_ii, le_ii, gt_ii, ge_ii, eq_ii, ne_ii, eq_tt0, ne_tt0, eq_ds, sl_t, len_t, isi_int, isi_bool, isi_str, isi_tup, abs_i, min_ii, max_ii, int_i, int_b, mod_ii, fdiv_ii, mul_ii, pow_ii, add_ss, add_tt, mul_ti, repr_d, frzU_dat, and_true, true_and, and_assoc, List.cons.injEq, exists_and_left, exists_and_right, exists_eq_left, exists_eq_right, ix_t, ix_s, sl_s, len_s, is_non, Nat.reduceAdd, Nat.reduceSub, sz0, sz1, sz2, sz3, sz4, sz5, sz6, sz7, sz8, sz9, sz10, sz11, sz12, sz13, sz14, sz15, sz16, sz17, sz18, sz19, sz20, sz21, sz22, sz23, sz24, sz25, sz26, sz27, sz28, sz29, sz30]
  rcases hg with rfl | ⟨gs, rfl⟩
  · refine ⟨.tuple (as.map actD), rfl, ?_⟩
    rw [e_free hal, w_some]
    exact ⟨rfl, _, rfl, rfl⟩
  · first | exact ⟨rfl, gs, rfl, rfl⟩ | exact ⟨gs, rfl, rfl⟩
end Z

namespace Z
open PySem PySem.Spec PyProof.Rows L2 Lw Pu
theorem p_shadow {ws : List Str} {as : List (Str × Nat)} {phs : List PyData} (hal : as.length ≤ 4) {gd : PyData} (hg : gd = .none ∨ ∃ gs, gd = .tuple gs) {d : PyData} (M : Mem) (hd : d.weight ≤ 90) : Pl (m_is_shadow [.dat (progD ws as phs), .dat d, .dat gd] M) M (.bool (shadeD (gLen gd) phs.length ws.length d)) := by
  simp only [Pl, m_is_shadow, e_row, w_fn, w_ret, w_seq, w_sif, w_of, w_trn, w_op, w_snil, w_pass, w_retn, w_asg, w_gnm, w_gsb, w_gtp, w_gcn, w_gn0, w_par, w_aug, w_drop, w_c, w_k, w_lst, w_tup, w_and, w_or, w_not, w_neg, w_ifx, w_tand, w_tor, w_tnot, w_cb, w_ck, w_mt, w_cons, w_nil, w_var, w_chain, w_sl, w_osome, w_onone, Pu.w_rev, w_dct0, w_for, w_iseq, w_irg1, w_lc, w_lc2, List.map_cons, List.map_nil, List.cons_append, List.nil_append, List.getElem?_cons_zero, List.getElem?_cons_succ, List.length_cons, List.length_nil, Option.some.injEq, exists_eq_left', w_some, List.replicate, List.set_cons_zero, List.set_cons_succ, frz_nil, frz_dat, frz_new, frz_new0, ne_ss, list_t, mk_nil, mk1, mk2, mk3, U.dat.injEq, PyData.int.injEq, PyData.bool.injEq, PyData.str.injEq, U.cell.injEq, add_ii, sub_ii, lt_ii, le_ii, gt_ii, ge_ii, eq_ii, ne_ii, eq_tt0, ne_tt0, eq_ds, sl_t, len_t, isi_int, isi_bool, isi_str, isi_tup, abs_i, min_ii, max_ii, int_i, int_b, mod_ii, fdiv_ii, mul_ii, pow_ii, add_ss, add_tt, mul_ti, repr_d, frzU_dat, and_true, true_and, and_assoc, List.cons.injEq, exists_and_left, exists_and_right, exists_eq_left, exists_eq_right, ix_t, ix_s, sl_s, len_s, is_non, Nat.reduceAdd, Nat.reduceSub, sz0, sz1, sz2, sz3, sz4, sz5, sz6, sz7, sz8, sz9, sz10, sz11, sz12, sz13, sz14, sz15, sz16, sz17, sz18, sz19, sz20, sz21, sz22, sz23, sz24, sz25, sz26, sz27, sz28, sz29, sz30]
  cases d with
  | tuple ds =>
    match ds, hd with
    | [a, m, b], hd =>
      have h3 : rwD 3 3 (.tuple [a, m, b]) = true := rfl
      simp only [h3, Bool.not_true]
      refine ⟨[.dat a, .dat m, .dat b], rfl, rfl, ?_⟩
      simp only [w_fn, w_ret, w_seq, w_sif, w_of, w_trn, w_op, w_snil, w_pass, w_retn, w_asg, w_gnm, w_gsb, w_gtp, w_gcn, w_gn0, w_par, w_aug, w_drop, w_c, w_k, w_lst, w_tup, w_and, w_or, w_not, w_neg, w_ifx, w_tand, w_tor, w_tnot, w_cb, w_ck, w_mt, w_cons, w_nil, w_var, w_chain, w_sl, w_osome, w_onone, Pu.w_rev, w_dct0, w_for, w_iseq, w_irg1, w_lc, w_lc2, List.map_cons, List.map_nil, List.cons_append, List.nil_append, List.getElem?_cons_zero, List.getElem?_cons_succ, List.length_cons, List.length_nil, Option.some.injEq, exists_eq_left', w_some, List.replicate, List.set_cons_zero, List.set_cons_succ, frz_nil, frz_dat, frz_new, frz_new0, ne_ss, list_t, mk_nil, mk1, mk2, mk3, U.dat.injEq, PyData.int.injEq, PyData.bool.injEq, PyData.str.injEq, U.cell.injEq, add_ii, sub_ii, lt_ii, le_ii, gt_ii, ge_ii, eq_ii, ne_ii, eq_tt0, ne_tt0, eq_ds, sl_t, len_t, isi_int, isi_bool, isi_str, isi_tup, abs_i, min_ii, max_ii, int_i, int_b, mod_ii, fdiv_ii, mul_ii, pow_ii, add_ss, add_tt, mul_ti, repr_d, frzU_dat, and_true, true_and, and_assoc, List.cons.injEq, exists_and_left, exists_and_right, exists_eq_left, exists_eq_right, ix_t, ix_s, sl_s, len_s, is_non, Nat.reduceAdd, Nat.reduceSub, sz0, sz1, sz2, sz3, sz4, sz5, sz6, sz7, sz8, sz9, sz10, sz11, sz12, sz13, sz14, sz15, sz16, sz17, sz18, sz19, sz20, sz21, sz22, sz23, sz24, sz25, sz26, sz27, sz28, sz29, sz30]
      refine ⟨[.dat (.tuple (ws.map .str)), .dat (.tuple (as.map actD)), .dat (.tuple phs)], rfl, rfl, ?_⟩
      simp only [w_fn, w_ret, w_seq, w_sif, w_of, w_trn, w_op, w_snil, w_pass, w_retn, w_asg, w_gnm, w_gsb, w_gtp, w_gcn, w_gn0, w_par, w_aug, w_drop, w_c, w_k, w_lst, w_tup, w_and, w_or, w_not, w_neg, w_ifx, w_tand, w_tor, w_tnot, w_cb, w_ck, w_mt, w_cons, w_nil, w_var, w_chain, w_sl, w_osome, w_onone, Pu.w_rev, w_dct0, w_for, w_iseq, w_irg1, w_lc, w_lc2, List.map_cons, List.map_nil, List.cons_append, List.nil_append, List.getElem?_cons_zero, List.getElem?_cons_succ, List.length_cons, List.length_nil, Option.some.injEq, exists_eq_left', w_some, List.replicate, List.set_cons_zero, List.set_cons_succ, frz_nil, frz_dat, frz_new, frz_new0, ne_ss, list_t, mk_nil, mk1, mk2, mk3, U.dat.injEq, PyData.int.injEq, PyData.bool.injEq, PyData.str.injEq, U.cell.injEq, add_ii, sub_ii, lt_ii, le_ii, gt_ii, ge_ii, eq_ii, ne_ii, eq_tt0, ne_tt0, eq_ds, sl_t, len_t, isi_int, isi_bool, isi_str, isi_tup, abs_i, min_ii, max_ii, int_i, int_b, mod_ii, fdiv_ii, mul_ii, pow_ii, add_ss, add_tt, mul_ti, repr_d, frzU_dat, and_true, true_and, and_assoc, List.cons.injEq, exists_and_left, exists_and_right, exists_eq_left, exists_eq_right, ix_t, ix_s, sl_s, len_s, is_non, Nat.reduceAdd, Nat.reduceSub, sz0, sz1, sz2, sz3, sz4, sz5, sz6, sz7, sz8, sz9, sz10, sz11, sz12, sz13, sz14, sz15, sz16, sz17, sz18, sz19, sz20, sz21, sz22, sz23, sz24, sz25, sz26, sz27, sz28, sz29, sz30]
      obtain ⟨u1, M1, e1, rfl, gs, rfl, hgs⟩ := p_gof (ws := ws) (phs := phs) hal hg M
      refine ⟨_, M1, e1, ?_⟩
      simp only [e_within, hgs, w_fn, w_ret, w_seq, w_sif, w_of, w_trn, w_op, w_snil, w_pass, w_retn, w_asg, w_gnm, w_gsb, w_gtp, w_gcn, w_gn0, w_par, w_aug, w_drop, w_c, w_k, w_lst, w_tup, w_and, w_or, w_not, w_neg, w_ifx, w_tand, w_tor, w_tnot, w_cb, w_ck, w_mt, w_cons, w_nil, w_var, w_chain, w_sl, w_osome, w_onone, Pu.w_rev, w_dct0, w_for, w_iseq, w_irg1, w_lc, w_lc2, List.map_cons, List.map_nil, List.cons_append, List.nil_append, List.getElem?_cons_zero, List.getElem?_cons_succ, List.length_cons, List.length_nil, Option.some.injEq, exists_eq_left', w_some, List.replicate, List.set_cons_zero, List.set_cons_succ, frz_nil, frz_dat, frz_new, frz_new0, ne_ss, list_t, mk_nil, mk1, mk2, mk3, U.dat.injEq, PyData.int.injEq, PyData.bool.injEq, PyData.str.injEq, U.cell.injEq, add_ii, sub_ii, lt_ii, le_ii, gt_ii, ge_ii, eq_ii, ne_ii, eq_tt0, ne_tt0, eq_ds, sl_t, len_t, isi_int, isi_bool, isi_str, isi_tup, abs_i, min_ii, max_ii, int_i, int_b, mod_ii, fdiv_ii, mul_ii, pow_ii, add_ss, add_tt, mul_ti, repr_d, frzU_dat, and_true, true_and, and_assoc, List.cons.injEq, exists_and_left, exists_and_right, exists_eq_left, exists_eq_right, ix_t, ix_s, sl_s, len_s, is_non, Nat.reduceAdd, Nat.reduceSub, sz0, sz1, sz2, sz3, sz4, sz5, sz6, sz7, sz8, sz9, sz10, sz11, sz12, sz13, sz14, sz15, sz16, sz17, sz18, sz19, sz20, sz21, sz22, sz23, sz24, sz25, sz26, sz27, sz28, sz29, sz30]
      cases h1 : withinD 0 ((gLen gd : Int) - 1) a with
      | false =>
        simp only [Bool.not_false, shadeD, h1, Bool.false_and]
        first | exact ⟨rfl, Same0.refl M1⟩ | exact ⟨trivial, Same0.refl M1⟩ | exact Same0.refl M1
      | true =>
        simp only [Bool.not_true, w_fn, w_ret, w_seq, w_sif, w_of, w_trn, w_op, w_snil, w_pass, w_retn, w_asg, w_gnm, w_gsb, w_gtp, w_gcn, w_gn0, w_par, w_aug, w_drop, w_c, w_k, w_lst, w_tup, w_and, w_or, w_not, w_neg, w_ifx, w_tand, w_tor, w_tnot, w_cb, w_ck, w_mt, w_cons, w_nil, w_var, w_chain, w_sl, w_osome, w_onone, Pu.w_rev, w_dct0, w_for, w_iseq, w_irg1, w_lc, w_lc2, List.map_cons, List.map_nil, List.cons_append, List.nil_append, List.getElem?_cons_zero, List.getElem?_cons_succ, List.length_cons, List.length_nil, Option.some.injEq, exists_eq_left', w_some, List.replicate, List.set_cons_zero, List.set_cons_succ, frz_nil, frz_dat, frz_new, frz_new0, ne_ss, list_t, mk_nil, mk1, mk2, mk3, U.dat.injEq, PyData.int.injEq, PyData.bool.injEq, PyData.str.injEq, U.cell.injEq, add_ii, sub_ii, lt_ii, le_ii, gt_ii, ge_ii, eq_ii, ne_ii, eq_tt0, ne_tt0, eq_ds, sl_t, len_t, isi_int, isi_bool, isi_str, isi_tup, abs_i, min_ii, max_ii, int_i, int_b, mod_ii, fdiv_ii, mul_ii, pow_ii, add_ss, add_tt, mul_ti, repr_d, frzU_dat, and_true, true_and, and_assoc, List.cons.injEq, exists_and_left, exists_and_right, exists_eq_left, exists_eq_right, ix_t, ix_s, sl_s, len_s, is_non, Nat.reduceAdd, Nat.reduceSub, sz0, sz1, sz2, sz3, sz4, sz5, sz6, sz7, sz8, sz9, sz10, sz11, sz12, sz13, sz14, sz15, sz16, sz17, sz18, sz19, sz20, sz21, sz22, sz23, sz24, sz25, sz26, sz27, sz28, sz29, sz30]
        cases h2 : withinD 0 ((phs.length : Int) - 1) m with
        | false =>
          simp only [Bool.not_false, shadeD, h1, h2, Bool.false_and, Bool.and_false]
          first | exact ⟨rfl, Same0.refl M1⟩ | exact ⟨trivial, Same0.refl M1⟩ | exact Same0.refl M1
        | true =>
          simp only [Bool.not_true, List.length_map, e_row, shadeD, h1, h2, Bool.true_and, w_fn, w_ret, w_seq, w_sif, w_of, w_trn, w_op, w_snil, w_pass, w_retn, w_asg, w_gnm, w_gsb, w_gtp, w_gcn, w_gn0, w_par, w_aug, w_drop, w_c, w_k, w_lst, w_tup, w_and, w_or, w_not, w_neg, w_ifx, w_tand, w_tor, w_tnot, w_cb, w_ck, w_mt, w_cons, w_nil, w_var, w_chain, w_sl, w_osome, w_onone, Pu.w_rev, w_dct0, w_for, w_iseq, w_irg1, w_lc, w_lc2, List.map_cons, List.map_nil, List.cons_append, List.nil_append, List.getElem?_cons_zero, List.getElem?_cons_succ, List.length_cons, List.length_nil, Option.some.injEq, exists_eq_left', w_some, List.replicate, List.set_cons_zero, List.set_cons_succ, frz_nil, frz_dat, frz_new, frz_new0, ne_ss, list_t, mk_nil, mk1, mk2, mk3, U.dat.injEq, PyData.int.injEq, PyData.bool.injEq, PyData.str.injEq, U.cell.injEq, add_ii, sub_ii, lt_ii, le_ii, gt_ii, ge_ii, eq_ii, ne_ii, eq_tt0, ne_tt0, eq_ds, sl_t, len_t, isi_int, isi_bool, isi_str, isi_tup, abs_i, min_ii, max_ii, int_i, int_b, mod_ii, fdiv_ii, mul_ii, pow_ii, add_ss, add_tt, mul_ti, repr_d, frzU_dat, and_true, true_and, and_assoc, List.cons.injEq, exists_and_left, exists_and_right, exists_eq_left, exists_eq_right, ix_t, ix_s, sl_s, len_s, is_non, Nat.reduceAdd, Nat.reduceSub, sz0, sz1, sz2, sz3, sz4, sz5, sz6, sz7, sz8, sz9, sz10, sz11, sz12, sz13, sz14, sz15, sz16, sz17, sz18, sz19, sz20, sz21, sz22, sz23, sz24, sz25, sz26, sz27, sz28, sz29, sz30]
          cases b with
          | tuple bs =>
            have hbl : bs.length ≤ 90 := by
              simp only [PyData.weight, PyData.weightAll] at hd
              have := len_le_wa bs
              omega
            have er : rwD (ws.length : Int) (ws.length : Int) (.tuple bs) = decide (bs.length = ws.length) := by
              show (decide ((ws.length : Int) ≤ (bs.length : Int)) && decide ((bs.length : Int) ≤ (ws.length : Int))) = _
              by_cases h : bs.length = ws.length
              · rw [decide_eq_true h, h]
                simp
              · rw [decide_eq_false h]
                by_cases h' : (ws.length : Int) ≤ (bs.length : Int)
                · rw [decide_eq_true h', decide_eq_false (by omega)]
                  rfl
                · rw [decide_eq_false h']
                  rfl
            rw [er]
            by_cases hl : bs.length = ws.length
            · rw [decide_eq_true hl]
              simp only
              refine ⟨_, rfl, ?_⟩
              obtain ⟨M2, e2, s2, g2⟩ := p_allb (M := M1) (M1 := M1) (bs := bs) (by omega) (g := gNm 9) (e := eCB m_is_bit (aCons (eVar 9) aNil)) (ρ := wipeR [some (.dat (progD ws as phs)), some (.dat (.tuple [a, m, .tuple bs])), some (.dat gd), some (.dat a), some (.dat m), some (.dat (.tuple bs)), some (.dat (.tuple (ws.map .str))), some (.dat (.tuple (as.map actD))), some (.dat (.tuple phs)), none] [9]) (f := withinD 0 1) (fun d hd M' s => by
                simp only [wipeR, e_bit, w_fn, w_ret, w_seq, w_sif, w_of, w_trn, w_op, w_snil, w_pass, w_retn, w_asg, w_gnm, w_gsb, w_gtp, w_gcn, w_gn0, w_par, w_aug, w_drop, w_c, w_k, w_lst, w_tup, w_and, w_or, w_not, w_neg, w_ifx, w_tand, w_tor, w_tnot, w_cb, w_ck, w_mt, w_cons, w_nil, w_var, w_chain, w_sl, w_osome, w_onone, Pu.w_rev, w_dct0, w_for, w_iseq, w_irg1, w_lc, w_lc2, List.map_cons, List.map_nil, List.cons_append, List.nil_append, List.getElem?_cons_zero, List.getElem?_cons_succ, List.length_cons, List.length_nil, Option.some.injEq, exists_eq_left', w_some, List.replicate, List.set_cons_zero, List.set_cons_succ, frz_nil, frz_dat, frz_new, frz_new0, ne_ss, list_t, mk_nil, mk1, mk2, mk3, U.dat.injEq, PyData.int.injEq, PyData.bool.injEq, PyData.str.injEq, U.cell.injEq, add_ii, sub_ii, lt_ii, le_ii, gt_ii, ge_ii, eq_ii, ne_ii, eq_tt0, ne_tt0, eq_ds, sl_t, len_t, isi_int, isi_bool, isi_str, isi_tup, abs_i, min_ii, max_ii, int_i, int_b, mod_ii, fdiv_ii, mul_ii, pow_ii, add_ss, add_tt, mul_ti, repr_d, frzU_dat, and_true, true_and, and_assoc, List.cons.injEq, exists_and_left, exists_and_right, exists_eq_left, exists_eq_right, ix_t, ix_s, sl_s, len_s, is_non, Nat.reduceAdd, Nat.reduceSub, sz0, sz1, sz2, sz3, sz4, sz5, sz6, sz7, sz8, sz9, sz10, sz11, sz12, sz13, sz14, sz15, sz16, sz17, sz18, sz19, sz20, sz21, sz22, sz23, sz24, sz25, sz26, sz27, sz28, sz29, sz30]
                exact Same0.refl _)
              refine ⟨M2, e2, ?_⟩
              rw [g2, w_some]
              simp only [bitsD, decide_eq_true hl, Bool.true_and]
              first | exact ⟨rfl, s2⟩ | exact ⟨trivial, s2⟩ | exact s2
            · rw [decide_eq_false hl]
              simp only [bitsD, decide_eq_false hl, Bool.false_and]
              first | exact ⟨rfl, Same0.refl M1⟩ | exact ⟨trivial, Same0.refl M1⟩ | exact Same0.refl M1
          | _ =>
            simp only [rwD, bitsD]
            first | exact ⟨rfl, Same0.refl M1⟩ | exact ⟨trivial, Same0.refl M1⟩ | exact Same0.refl M1
    | [], _ => first | exact ⟨rfl, Same0.refl M⟩ | exact ⟨trivial, Same0.refl M⟩ | exact Same0.refl M
    | [_], _ => first | exact ⟨rfl, Same0.refl M⟩ | exact ⟨trivial, Same0.refl M⟩ | exact Same0.refl M
    | [_, _], _ => first | exact ⟨rfl, Same0.refl M⟩ | exact ⟨trivial, Same0.refl M⟩ | exact Same0.refl M
    | x :: y :: z :: w :: r, _ =>
      have h4 : rwD 3 3 (.tuple (x :: y :: z :: w :: r)) = false := by
        show (decide ((3 : Int) ≤ ((x :: y :: z :: w :: r).length : Int)) && decide (((x :: y :: z :: w :: r).length : Int) ≤ 3)) = false
        simp only [List.length_cons]
        rw [Bool.and_eq_false_iff]
        exact .inr (decide_eq_false (by omega))
      simp only [h4, Bool.not_false, shadeD]
      first | exact ⟨rfl, Same0.refl M⟩ | exact ⟨trivial, Same0.refl M⟩ | exact Same0.refl M
  | _ =>
    simp only [rwD, Bool.not_false, shadeD]
    first | exact ⟨rfl, Same0.refl M⟩ | exact ⟨trivial, Same0.refl M⟩ | exact Same0.refl M
def ab : Nat → List (List Int)
  | 0 => [[]]
  | k + 1 => (ab k).map (· ++ [0]) ++ (ab k).map (· ++ [1])
theorem ab_mem : ∀ (k : Nat) (r : List Int), r ∈ ab k → r.length = k ∧ ∀ i ∈ r, i = 0 ∨ i = 1
  | 0, r, h => by
    rw [show r = [] from List.mem_singleton.mp h]
    exact ⟨rfl, fun i hi => by cases hi⟩
  | k + 1, r, h => by
    rcases List.mem_append.mp h with h | h
    · obtain ⟨q, hq, rfl⟩ := List.mem_map.mp h
      obtain ⟨h1, h2⟩ := ab_mem k q hq
      refine ⟨by simp [h1], fun i hi => ?_⟩
      rcases List.mem_append.mp hi with hi | hi
      · exact h2 i hi
      · exact .inl (List.mem_singleton.mp hi)
    · obtain ⟨q, hq, rfl⟩ := List.mem_map.mp h
      obtain ⟨h1, h2⟩ := ab_mem k q hq
      refine ⟨by simp [h1], fun i hi => ?_⟩
      rcases List.mem_append.mp hi with hi | hi
      · exact h2 i hi
      · exact .inr (List.mem_singleton.mp hi)
theorem ab_len : ∀ k, k ≤ 3 → (ab k).length ≤ 8
  | 0, _ => by decide
  | 1, _ => by decide
  | 2, _ => by decide
  | 3, _ => by decide
theorem ab_sort (k : Nat) : SortOk ((ab k).map rowD) := by
  cases k with
  | zero => exact .inl (by decide)
  | succ k =>
    refine .inr ⟨fun d hd d' hd' => ?_, .inl fun d hd => ?_, fun d hd => ?_⟩
    · obtain ⟨r, hr, rfl⟩ := List.mem_map.mp hd
      obtain ⟨r', hr', rfl⟩ := List.mem_map.mp hd'
      show PySem.W.alikeAll (r.map .int) (r'.map .int) = true
      exact PySem.W.alike_ints r r'
    · obtain ⟨r, hr, rfl⟩ := List.mem_map.mp hd
      have hl := (ab_mem _ r hr).1
      match r, hl with
      | i :: r, _ => exact ⟨.int i, r.map .int, rfl⟩
    · obtain ⟨r, hr, rfl⟩ := List.mem_map.mp hd
      show PyData.depth (.tuple (r.map .int)) ≤ 60
      simp only [PyData.depth, PySem.W.depth_ints]
      decide
def AbI (M : Mem) (kk : Int) (k : Nat) (ρ : Pu.Env) (M' : Mem) : Prop := ∃ (c : Nat) (f : Bool) (y2 : Option U), ρ = [some (.dat (.int kk)), some (.cell c), y2, none] ∧ M'[c]? = some (.lst f (((ab k).map rowD).map .dat)) ∧ Same0 M M'
theorem p_allbits {k : Nat} (hk : k ≤ 3) (M : Mem) : W (m__law_all_bits [.dat (.int k)] M) fun u M' => ∃ c, u = .cell c ∧ M'[c]? = some (.lst true ((sortD ((ab k).map rowD)).map .dat)) ∧ Same0 M M' := by
  have big : ∀ z : Nat, z ≤ 1000 → z ≤ sizeLine := fun z hz => Nat.le_trans hz (by decide)
  simp only [m__law_all_bits, w_fn, w_ret, w_seq, w_sif, w_of, w_trn, w_op, w_snil, w_pass, w_retn, w_asg, w_gnm, w_gsb, w_gtp, w_gcn, w_gn0, w_par, w_aug, w_drop, w_c, w_k, w_lst, w_tup, w_and, w_or, w_not, w_neg, w_ifx, w_tand, w_tor, w_tnot, w_cb, w_ck, w_mt, w_cons, w_nil, w_var, w_chain, w_sl, w_osome, w_onone, Pu.w_rev, w_dct0, w_for, w_iseq, w_irg1, w_lc, w_lc2, List.map_cons, List.map_nil, List.cons_append, List.nil_append, List.getElem?_cons_zero, List.getElem?_cons_succ, List.length_cons, List.length_nil, Option.some.injEq, exists_eq_left', w_some, List.replicate, List.set_cons_zero, List.set_cons_succ, frz_nil, frz_dat, frz_new, frz_new0, ne_ss, list_t, mk_nil, mk1, mk2, mk3, U.dat.injEq, PyData.int.injEq, PyData.bool.injEq, PyData.str.injEq, U.cell.injEq, add_ii, sub_ii, lt_ii, le_ii, gt_ii, ge_ii, eq_ii, ne_ii, eq_tt0, ne_tt0, eq_ds, sl_t, len_t, isi_int, isi_bool, isi_str, isi_tup, abs_i, min_ii, max_ii, int_i, int_b, mod_ii, fdiv_ii, mul_ii, pow_ii, add_ss, add_tt, mul_ti, repr_d, frzU_dat, and_true, true_and, and_assoc, List.cons.injEq, exists_and_left, exists_and_right, exists_eq_left, exists_eq_right, ix_t, ix_s, sl_s, len_s, is_non, Nat.reduceAdd, Nat.reduceSub, sz0, sz1, sz2, sz3, sz4, sz5, sz6, sz7, sz8, sz9, sz10, sz11, sz12, sz13, sz14, sz15, sz16, sz17, sz18, sz19, sz20, sz21, sz22, sz23, sz24, sz25, sz26, sz27, sz28, sz29, sz30]
  refine ⟨by omega, by omega, ?_⟩
  refine for_inv (AbI M k) _ 0 _ _ ⟨M.length, true, none, rfl, List.getElem?_concat_length .., ⟨_, rfl⟩⟩ ?_ ?_
  · intro j u ρ M1 hj hI
    obtain ⟨hj1, rfl⟩ := range_get hj
    have hj2 : j < 3 := by omega
    obtain ⟨c, f, y2, rfl, hc1, s1⟩ := hI
    rw [Nat.zero_add] at hc1
    have hl : (ab j).length ≤ 8 := ab_len _ (by omega)
    have lcx : c < M1.length := (List.getElem?_eq_some_iff.mp hc1).1
    have step : ∀ (x : Int) (M2 : Mem), Same0 M1 M2 → ∃ M3, lcM (Wt M2 (cellsOf (.cell c))) (gNm 3) tYesM (eOp addU (eVar 3) (eTup (aCons (eC (.int x)) aNil))) M2.length (wipeR [some (.dat (.int k)), some (.cell c), some (.dat (.int (0 + (j : Int)))), none] [3]) (((ab j).map rowD).map .dat) (M2 ++ [.lst false []]) = some M3 ∧ Same0 M2 M3 ∧ M3[M2.length]? = some (.lst false ((((ab j).map (· ++ [x])).map rowD).map .dat)) := by
      intro x M2 s12
      obtain ⟨M3, e3, s3, g3⟩ := lc_pure (M1 := M2) (ws := cellsOf (.cell c)) (g := gNm 3) (e := eOp addU (eVar 3) (eTup (aCons (eC (.int x)) aNil))) (ρ := wipeR [some (.dat (.int k)), some (.cell c), some (.dat (.int (0 + (j : Int)))), none] [3]) (items := ((ab j).map rowD).map .dat) (fun u => match u with | .dat (.tuple xs) => .tuple (xs ++ [.int x]) | _ => .none) (fun c' hc' => by
          have : c' = c := by simpa [cellsOf] using hc'
          rw [this]
          obtain ⟨G, rfl⟩ := s12
          rw [List.length_append]
          omega) (by rw [List.length_map, List.length_map]; exact big _ (by omega)) (fun u hu M' s => by
        rw [List.map_map] at hu
        obtain ⟨r, hr, rfl⟩ := List.mem_map.mp hu
        have rl := (ab_mem _ r hr).1
        simp only [wipeR, Function.comp, rowD, w_fn, w_ret, w_seq, w_sif, w_of, w_trn, w_op, w_snil, w_pass, w_retn, w_asg, w_gnm, w_gsb, w_gtp, w_gcn, w_gn0, w_par, w_aug, w_drop, w_c, w_k, w_lst, w_tup, w_and, w_or, w_not, w_neg, w_ifx, w_tand, w_tor, w_tnot, w_cb, w_ck, w_mt, w_cons, w_nil, w_var, w_chain, w_sl, w_osome, w_onone, Pu.w_rev, w_dct0, w_for, w_iseq, w_irg1, w_lc, w_lc2, List.map_cons, List.map_nil, List.cons_append, List.nil_append, List.getElem?_cons_zero, List.getElem?_cons_succ, List.length_cons, List.length_nil, Option.some.injEq, exists_eq_left', w_some, List.replicate, List.set_cons_zero, List.set_cons_succ, frz_nil, frz_dat, frz_new, frz_new0, ne_ss, list_t, mk_nil, mk1, mk2, mk3, U.dat.injEq, PyData.int.injEq, PyData.bool.injEq, PyData.str.injEq, U.cell.injEq, add_ii, sub_ii, lt_ii, le_ii, gt_ii, ge_ii, eq_ii, ne_ii, eq_tt0, ne_tt0, eq_ds, sl_t, len_t, isi_int, isi_bool, isi_str, isi_tup, abs_i, min_ii, max_ii, int_i, int_b, mod_ii, fdiv_ii, mul_ii, pow_ii, add_ss, add_tt, mul_ti, repr_d, frzU_dat, and_true, true_and, and_assoc, List.cons.injEq, exists_and_left, exists_and_right, exists_eq_left, exists_eq_right, ix_t, ix_s, sl_s, len_s, is_non, Nat.reduceAdd, Nat.reduceSub, sz0, sz1, sz2, sz3, sz4, sz5, sz6, sz7, sz8, sz9, sz10, sz11, sz12, sz13, sz14, sz15, sz16, sz17, sz18, sz19, sz20, sz21, sz22, sz23, sz24, sz25, sz26, sz27, sz28, sz29, sz30]
        refine ⟨?_, Same0.refl _⟩
        rw [List.length_map]
        exact big _ (by omega))
      refine ⟨M3, e3, s3, ?_⟩
      rw [g3, List.map_map, List.map_map, List.map_map, List.map_map]
      congr 2
      apply List.map_congr_left
      intro r hr
      simp only [Function.comp, rowD, List.map_append]
      rfl
    simp only [w_fn, w_ret, w_seq, w_sif, w_of, w_trn, w_op, w_snil, w_pass, w_retn, w_asg, w_gnm, w_gsb, w_gtp, w_gcn, w_gn0, w_par, w_aug, w_drop, w_c, w_k, w_lst, w_tup, w_and, w_or, w_not, w_neg, w_ifx, w_tand, w_tor, w_tnot, w_cb, w_ck, w_mt, w_cons, w_nil, w_var, w_chain, w_sl, w_osome, w_onone, Pu.w_rev, w_dct0, w_for, w_iseq, w_irg1, w_lc, w_lc2, List.map_cons, List.map_nil, List.cons_append, List.nil_append, List.getElem?_cons_zero, List.getElem?_cons_succ, List.length_cons, List.length_nil, Option.some.injEq, exists_eq_left', w_some, List.replicate, List.set_cons_zero, List.set_cons_succ, frz_nil, frz_dat, frz_new, frz_new0, ne_ss, list_t, mk_nil, mk1, mk2, mk3, U.dat.injEq, PyData.int.injEq, PyData.bool.injEq, PyData.str.injEq, U.cell.injEq, add_ii, sub_ii, lt_ii, le_ii, gt_ii, ge_ii, eq_ii, ne_ii, eq_tt0, ne_tt0, eq_ds, sl_t, len_t, isi_int, isi_bool, isi_str, isi_tup, abs_i, min_ii, max_ii, int_i, int_b, mod_ii, fdiv_ii, mul_ii, pow_ii, add_ss, add_tt, mul_ti, repr_d, frzU_dat, and_true, true_and, and_assoc, List.cons.injEq, exists_and_left, exists_and_right, exists_eq_left, exists_eq_right, ix_t, ix_s, sl_s, len_s, is_non, Nat.reduceAdd, Nat.reduceSub, sz0, sz1, sz2, sz3, sz4, sz5, sz6, sz7, sz8, sz9, sz10, sz11, sz12, sz13, sz14, sz15, sz16, sz17, sz18, sz19, sz20, sz21, sz22, sz23, sz24, sz25, sz26, sz27, sz28, sz29, sz30]
    refine ⟨_, seq_cell hc1, ?_⟩
    obtain ⟨M2, e2, s2, g2⟩ := step 0 M1 (Same0.refl _)
    refine ⟨M2, e2, _, seq_cell (s2.get hc1), ?_⟩
    obtain ⟨M3, e3, s3, g3⟩ := step 1 M2 s2
    refine ⟨M3, e3, ?_⟩
    rw [add_ll (lst_cell (s3.get g2)) (lst_cell g3)]
    refine ⟨big _ (by simp only [List.length_map]; omega), fun c hc => (by cases hc), M3.length, false, _, rfl, ?_, ((s1.trans s2).trans s3).trans ⟨_, rfl⟩⟩
    rw [List.getElem?_concat_length, Nat.zero_add]
    show _ = some (Cell.lst false ((((ab j).map (· ++ [0]) ++ (ab j).map (· ++ [1])).map rowD).map .dat))
    rw [List.map_append, List.map_append]
  · intro ρ M1 hI
    obtain ⟨c, f, y2, rfl, hc1, s1⟩ := hI
    rw [range_len, Nat.zero_add, Int.toNat_natCast] at hc1
    simp only [w_fn, w_ret, w_seq, w_sif, w_of, w_trn, w_op, w_snil, w_pass, w_retn, w_asg, w_gnm, w_gsb, w_gtp, w_gcn, w_gn0, w_par, w_aug, w_drop, w_c, w_k, w_lst, w_tup, w_and, w_or, w_not, w_neg, w_ifx, w_tand, w_tor, w_tnot, w_cb, w_ck, w_mt, w_cons, w_nil, w_var, w_chain, w_sl, w_osome, w_onone, Pu.w_rev, w_dct0, w_for, w_iseq, w_irg1, w_lc, w_lc2, List.map_cons, List.map_nil, List.cons_append, List.nil_append, List.getElem?_cons_zero, List.getElem?_cons_succ, List.length_cons, List.length_nil, Option.some.injEq, exists_eq_left', w_some, List.replicate, List.set_cons_zero, List.set_cons_succ, frz_nil, frz_dat, frz_new, frz_new0, ne_ss, list_t, mk_nil, mk1, mk2, mk3, U.dat.injEq, PyData.int.injEq, PyData.bool.injEq, PyData.str.injEq, U.cell.injEq, add_ii, sub_ii, lt_ii, le_ii, gt_ii, ge_ii, eq_ii, ne_ii, eq_tt0, ne_tt0, eq_ds, sl_t, len_t, isi_int, isi_bool, isi_str, isi_tup, abs_i, min_ii, max_ii, int_i, int_b, mod_ii, fdiv_ii, mul_ii, pow_ii, add_ss, add_tt, mul_ti, repr_d, frzU_dat, and_true, true_and, and_assoc, List.cons.injEq, exists_and_left, exists_and_right, exists_eq_left, exists_eq_right, ix_t, ix_s, sl_s, len_s, is_non, Nat.reduceAdd, Nat.reduceSub, sz0, sz1, sz2, sz3, sz4, sz5, sz6, sz7, sz8, sz9, sz10, sz11, sz12, sz13, sz14, sz15, sz16, sz17, sz18, sz19, sz20, sz21, sz22, sz23, sz24, sz25, sz26, sz27, sz28, sz29, sz30]
    rw [sort_c hc1]
    exact ⟨ab_sort k, M1.length, rfl, List.getElem?_concat_length .., s1.trans ⟨_, rfl⟩⟩
end Z

namespace Z
open PySem PySem.Spec PyProof.Rows L2 Lw Pu
theorem frz_new1 {M : Mem} {d : PyData} {us : List U} : frzAll (.cell M.length :: us) (M ++ [.lst true [.dat d]]) = (.dat (.list [d]) :: (frzAll us (M ++ [.fz [d]])).1, (frzAll us (M ++ [.fz [d]])).2) := frz_new (ds := [d])
theorem frz_two {M : Mem} {ds : List PyData} {e x : PyData} : ∃ M', frzAll [.cell M.length, .dat x, .cell (M ++ [Cell.lst true (ds.map .dat)]).length] (M ++ [.lst true (ds.map .dat)] ++ [.lst true [.dat e]]) = ([.dat (.list ds), .dat x, .dat (.list [e])], M') ∧ (∀ i, i < M.length → M'[i]? = M[i]?) ∧ M.length ≤ M'.length := by
  have h1 : (M ++ [Cell.lst true (ds.map .dat)] ++ [Cell.lst true [.dat e]])[M.length]? = some (.lst true (ds.map .dat)) := by
    rw [List.append_assoc]
    exact lst_at
  have h2 : (M ++ [Cell.lst true (ds.map .dat)] ++ [Cell.lst true [.dat e]])[(M ++ [Cell.lst true (ds.map .dat)]).length]? = some (.lst true ([e].map .dat)) := List.getElem?_concat_length ..
  refine ⟨((M ++ [Cell.lst true (ds.map .dat)] ++ [Cell.lst true [.dat e]]).set M.length (.fz ds)).set (M ++ [Cell.lst true (ds.map .dat)]).length (.fz [e]), ?_, ?_, ?_⟩
  · rw [frz_at h1, frz_dat, frz_at (by rw [List.getElem?_set_ne (by simp)]; exact h2), frz_nil]
  · intro i hi
    rw [List.getElem?_set_ne (by simp only [List.length_append, List.length_cons, List.length_nil]; omega), List.getElem?_set_ne (by omega), List.append_assoc, List.getElem?_append_left hi]
  · simp only [List.length_set, List.length_append]
    omega
def ThD (d : PyData) : Prop := Bd 20 90 d
def Ths (us : List U) : Prop := ∃ ds : List PyData, us = ds.map .dat ∧ ∀ d ∈ ds, ThD d
theorem Ths.nil : Ths [] := ⟨[], rfl, fun d h => by cases h⟩
theorem Ths.cons {d : PyData} {us : List U} (h : ThD d) (g : Ths us) : Ths (.dat d :: us) := by
  obtain ⟨ds, rfl, p⟩ := g
  refine ⟨d :: ds, rfl, fun x hx => ?_⟩
  rcases List.mem_cons.mp hx with rfl | hx
  · exact h
  · exact p x hx
theorem Ths.app {us ws : List U} (g : Ths us) (h : Ths ws) : Ths (us ++ ws) := by
  obtain ⟨ds, rfl, p⟩ := g
  obtain ⟨es, rfl, q⟩ := h
  exact ⟨ds ++ es, by rw [List.map_append], fun x hx => (List.mem_append.mp hx).elim (p x) (q x)⟩
theorem th_of {n m B : Nat} {d : PyData} (h : Gd n m B d) (hn : n ≤ 20) (hm : m ≤ 90) : ThD d := h.bd.mono hn hm
theorem ga3 {n a b c B : Nat} {x y z : PyData} (hx : Gd n a B x) (hy : Gd n b B y) (hz : Gd n c B z) : GA n (a + 1 + (b + 1 + (c + 1))) B [x, y, z] := GA.cons hx (GA.cons hy (GA.one hz))
theorem zeros {k : Nat} (hk : k ≤ 3) (M : Mem) : ∃ z : Str, mulZ (.dat (.str (Str.ofString "0"))) (.dat (.int (k : Int))) M = some (.dat (.str z), M) ∧ z.length ≤ 3 ∧ ∀ c ∈ z.cps.toList, c < 128 := by
  match k, hk with
  | 0, _ => exact ⟨Str.empty, rfl, by decide, fun c hc => by cases hc⟩
  | 1, _ => exact ⟨Str.ofString "0", rfl, by decide, by decide⟩
  | 2, _ =>
    refine ⟨repS (Str.ofString "0") 2, ?_, by decide, by decide⟩
    have h : mulU (.dat (.str (Str.ofString "0"))) (.dat (.int 2)) M = none := rfl
    show orF mulU mulSN (.dat (.str (Str.ofString "0"))) (.dat (.int 2)) M = _
    unfold orF
    rw [h]
    rfl
  | 3, _ =>
    refine ⟨repS (Str.ofString "0") 3, ?_, by decide, by decide⟩
    have h : mulU (.dat (.str (Str.ofString "0"))) (.dat (.int 3)) M = none := rfl
    show orF mulU mulSN (.dat (.str (Str.ofString "0"))) (.dat (.int 3)) M = _
    unfold orF
    rw [h]
    rfl
theorem things_spec {M : Mem} {h n : Nat} {ws : List Str} {as : List (Str × Nat)} {phs gs : List PyData} {Q : U → Mem → Prop} (hwl : ws.length ≤ 3) (hp1 : 1 ≤ phs.length) (hp3 : phs.length ≤ 3) (hg1 : 1 ≤ gs.length) (hg3 : gs.length ≤ 3) (hh : Hand M h n) (hn : n + 10 ≤ 800000)
    (q : ∀ c f us M', M'[c]? = some (.lst f us) → us.length ≤ 60 → Ths us → Hand M' h (n + 10) → Q (.cell c) M') : W (m__law_things [.cell h, .dat (progD ws as phs), .dat (.tuple gs)] M) Q := by
  have hlt := hh.lt
  have big : ∀ z : Nat, z ≤ 1000 → z ≤ sizeLine := fun z hz => Nat.le_trans hz (by decide)
  simp only [m__law_things, w_fn, w_ret, w_seq, w_sif, w_of, w_trn, w_op, w_snil, w_pass, w_retn, w_asg, w_gnm, w_gsb, w_gtp, w_gcn, w_gn0, w_par, w_aug, w_drop, w_c, w_k, w_lst, w_tup, w_and, w_or, w_not, w_neg, w_ifx, w_tand, w_tor, w_tnot, w_cb, w_ck, w_mt, w_cons, w_nil, w_var, w_chain, w_sl, w_osome, w_onone, Pu.w_rev, w_dct0, w_for, w_iseq, w_irg1, w_lc, w_lc2, List.map_cons, List.map_nil, List.cons_append, List.nil_append, List.getElem?_cons_zero, List.getElem?_cons_succ, List.length_cons, List.length_nil, Option.some.injEq, exists_eq_left', w_some, List.replicate, List.set_cons_zero, List.set_cons_succ, frz_nil, frz_dat, frz_new, frz_new0, ne_ss, list_t, mk_nil, mk1, mk2, mk3, U.dat.injEq, PyData.int.injEq, PyData.bool.injEq, PyData.str.injEq, U.cell.injEq, add_ii, sub_ii, lt_ii, le_ii, gt_ii, ge_ii, eq_ii, ne_ii, eq_tt0, ne_tt0, eq_ds, sl_t, len_t, isi_int, isi_bool, isi_str, isi_tup, abs_i, min_ii, max_ii, int_i, int_b, mod_ii, fdiv_ii, mul_ii, pow_ii, add_ss, add_tt, mul_ti, repr_d, frzU_dat, and_true, true_and, and_assoc, List.cons.injEq, exists_and_left, exists_and_right, exists_eq_left, exists_eq_right, ix_t, ix_s, sl_s, len_s, is_non, Nat.reduceAdd, Nat.reduceSub, sz0, sz1, sz2, sz3, sz4, sz5, sz6, sz7, sz8, sz9, sz10, sz11, sz12, sz13, sz14, sz15, sz16, sz17, sz18, sz19, sz20, sz21, sz22, sz23, sz24, sz25, sz26, sz27, sz28, sz29, sz30]
  refine ⟨.tuple phs, rfl, ?_⟩
  simp only [w_fn, w_ret, w_seq, w_sif, w_of, w_trn, w_op, w_snil, w_pass, w_retn, w_asg, w_gnm, w_gsb, w_gtp, w_gcn, w_gn0, w_par, w_aug, w_drop, w_c, w_k, w_lst, w_tup, w_and, w_or, w_not, w_neg, w_ifx, w_tand, w_tor, w_tnot, w_cb, w_ck, w_mt, w_cons, w_nil, w_var, w_chain, w_sl, w_osome, w_onone, Pu.w_rev, w_dct0, w_for, w_iseq, w_irg1, w_lc, w_lc2, List.map_cons, List.map_nil, List.cons_append, List.nil_append, List.getElem?_cons_zero, List.getElem?_cons_succ, List.length_cons, List.length_nil, Option.some.injEq, exists_eq_left', w_some, List.replicate, List.set_cons_zero, List.set_cons_succ, frz_nil, frz_dat, frz_new, frz_new0, ne_ss, list_t, mk_nil, mk1, mk2, mk3, U.dat.injEq, PyData.int.injEq, PyData.bool.injEq, PyData.str.injEq, U.cell.injEq, add_ii, sub_ii, lt_ii, le_ii, gt_ii, ge_ii, eq_ii, ne_ii, eq_tt0, ne_tt0, eq_ds, sl_t, len_t, isi_int, isi_bool, isi_str, isi_tup, abs_i, min_ii, max_ii, int_i, int_b, mod_ii, fdiv_ii, mul_ii, pow_ii, add_ss, add_tt, mul_ti, repr_d, frzU_dat, and_true, true_and, and_assoc, List.cons.injEq, exists_and_left, exists_and_right, exists_eq_left, exists_eq_right, ix_t, ix_s, sl_s, len_s, is_non, Nat.reduceAdd, Nat.reduceSub, sz0, sz1, sz2, sz3, sz4, sz5, sz6, sz7, sz8, sz9, sz10, sz11, sz12, sz13, sz14, sz15, sz16, sz17, sz18, sz19, sz20, sz21, sz22, sz23, sz24, sz25, sz26, sz27, sz28, sz29, sz30]
  refine ⟨.tuple (ws.map .str), rfl, _, rfl, ?_⟩
  obtain ⟨M1, ds, e1, hh1, fr1, g1, len1, r1⟩ := lc_draw (M1 := M) (ws := cellsOf (.dat (.tuple (ws.map .str)))) (g := gNm 8) (e := eCB m__law_take (aCons (eVar 0) (aCons (eC (.int 2)) aNil))) (ρ := wipeR [some (.cell h), some (.dat (progD ws as phs)), some (.dat (.tuple gs)), some (.dat (.int gs.length)), some (.dat (.int phs.length)), none, none, none, none, none] [8]) (items := (ws.map PyData.str).map .dat)
    (fun M' j => Hand M' h (n + j)) h (fun _ d => ∃ i : Int, d = .int i ∧ i.natAbs < 10) (fun M' j x hx => hx.set (by omega)) (fun c hc => by cases hc) (by rw [List.length_map, List.length_map]; exact big _ (by omega)) hlt (hh.same ⟨_, rfl⟩) (fun j u M' hj hx fr => by
      have hj3 : j < 3 := by
        have := (List.getElem?_eq_some_iff.mp hj).1
        simp at this
        omega
      simp only [wipeR, w_fn, w_ret, w_seq, w_sif, w_of, w_trn, w_op, w_snil, w_pass, w_retn, w_asg, w_gnm, w_gsb, w_gtp, w_gcn, w_gn0, w_par, w_aug, w_drop, w_c, w_k, w_lst, w_tup, w_and, w_or, w_not, w_neg, w_ifx, w_tand, w_tor, w_tnot, w_cb, w_ck, w_mt, w_cons, w_nil, w_var, w_chain, w_sl, w_osome, w_onone, Pu.w_rev, w_dct0, w_for, w_iseq, w_irg1, w_lc, w_lc2, List.map_cons, List.map_nil, List.cons_append, List.nil_append, List.getElem?_cons_zero, List.getElem?_cons_succ, List.length_cons, List.length_nil, Option.some.injEq, exists_eq_left', w_some, List.replicate, List.set_cons_zero, List.set_cons_succ, frz_nil, frz_dat, frz_new, frz_new0, ne_ss, list_t, mk_nil, mk1, mk2, mk3, U.dat.injEq, PyData.int.injEq, PyData.bool.injEq, PyData.str.injEq, U.cell.injEq, add_ii, sub_ii, lt_ii, le_ii, gt_ii, ge_ii, eq_ii, ne_ii, eq_tt0, ne_tt0, eq_ds, sl_t, len_t, isi_int, isi_bool, isi_str, isi_tup, abs_i, min_ii, max_ii, int_i, int_b, mod_ii, fdiv_ii, mul_ii, pow_ii, add_ss, add_tt, mul_ti, repr_d, frzU_dat, and_true, true_and, and_assoc, List.cons.injEq, exists_and_left, exists_and_right, exists_eq_left, exists_eq_right, ix_t, ix_s, sl_s, len_s, is_non, Nat.reduceAdd, Nat.reduceSub, sz0, sz1, sz2, sz3, sz4, sz5, sz6, sz7, sz8, sz9, sz10, sz11, sz12, sz13, sz14, sz15, sz16, sz17, sz18, sz19, sz20, sz21, sz22, sz23, sz24, sz25, sz26, sz27, sz28, sz29, sz30]
      refine take_spec hx (by omega) (by decide) (by decide) fun v M7 v0 v1 hh7 fr7 => ⟨_, rfl, ⟨v, rfl, by omega⟩, hh7.mono (by omega), fr7⟩)
  refine ⟨M1, e1, ?_⟩
  simp only [List.length_map] at hh1 len1
  obtain ⟨bs, rfl, hbs⟩ := list_choose (f := PyData.int) (P := fun i => i.natAbs < 10) (fun d hd => by
    obtain ⟨u, _, h1⟩ := all_at (R := fun _ d => ∃ i : Int, d = .int i ∧ i.natAbs < 10) (by simp only [List.length_map]; exact len1) r1 d hd
    exact h1)
  rw [List.length_map] at len1
  rw [tup_c g1, w_some]
  try simp only [w_fn, w_ret, w_seq, w_sif, w_of, w_trn, w_op, w_snil, w_pass, w_retn, w_asg, w_gnm, w_gsb, w_gtp, w_gcn, w_gn0, w_par, w_aug, w_drop, w_c, w_k, w_lst, w_tup, w_and, w_or, w_not, w_neg, w_ifx, w_tand, w_tor, w_tnot, w_cb, w_ck, w_mt, w_cons, w_nil, w_var, w_chain, w_sl, w_osome, w_onone, Pu.w_rev, w_dct0, w_for, w_iseq, w_irg1, w_lc, w_lc2, List.map_cons, List.map_nil, List.cons_append, List.nil_append, List.getElem?_cons_zero, List.getElem?_cons_succ, List.length_cons, List.length_nil, Option.some.injEq, exists_eq_left', w_some, List.replicate, List.set_cons_zero, List.set_cons_succ, frz_nil, frz_dat, frz_new, frz_new0, ne_ss, list_t, mk_nil, mk1, mk2, mk3, U.dat.injEq, PyData.int.injEq, PyData.bool.injEq, PyData.str.injEq, U.cell.injEq, add_ii, sub_ii, lt_ii, le_ii, gt_ii, ge_ii, eq_ii, ne_ii, eq_tt0, ne_tt0, eq_ds, sl_t, len_t, isi_int, isi_bool, isi_str, isi_tup, abs_i, min_ii, max_ii, int_i, int_b, mod_ii, fdiv_ii, mul_ii, pow_ii, add_ss, add_tt, mul_ti, repr_d, frzU_dat, and_true, true_and, and_assoc, List.cons.injEq, exists_and_left, exists_and_right, exists_eq_left, exists_eq_right, ix_t, ix_s, sl_s, len_s, is_non, Nat.reduceAdd, Nat.reduceSub, sz0, sz1, sz2, sz3, sz4, sz5, sz6, sz7, sz8, sz9, sz10, sz11, sz12, sz13, sz14, sz15, sz16, sz17, sz18, sz19, sz20, sz21, sz22, sz23, sz24, sz25, sz26, sz27, sz28, sz29, sz30]
  have hh1' : Hand M1 h (n + 3) := hh1.mono (by omega)
  refine take_spec hh1' (by omega) (by omega) (by omega) fun p M2 p0 p1 hh2 fr2 => ?_
  refine take_spec hh2 (by omega) (by omega) (by omega) fun m M3 m0 m1 hh3 fr3 => ?_
  have c1 : ∀ a b c : PyData, Lw.cutD [a, b, c] (some 1) none = [b, c] := fun _ _ _ => rfl
  have c2 : ∀ a b c : PyData, Lw.cutD [a, b, c] none (some 2) = [a, b] := fun _ _ _ => rfl
  have a0 : ∀ a b c : PyData, atI [a, b, c] 0 = some a := fun _ _ _ => rfl
  simp only [frz_new1, c1, c2, a0, List.length_map, w_fn, w_ret, w_seq, w_sif, w_of, w_trn, w_op, w_snil, w_pass, w_retn, w_asg, w_gnm, w_gsb, w_gtp, w_gcn, w_gn0, w_par, w_aug, w_drop, w_c, w_k, w_lst, w_tup, w_and, w_or, w_not, w_neg, w_ifx, w_tand, w_tor, w_tnot, w_cb, w_ck, w_mt, w_cons, w_nil, w_var, w_chain, w_sl, w_osome, w_onone, Pu.w_rev, w_dct0, w_for, w_iseq, w_irg1, w_lc, w_lc2, List.map_cons, List.map_nil, List.cons_append, List.nil_append, List.getElem?_cons_zero, List.getElem?_cons_succ, List.length_cons, List.length_nil, Option.some.injEq, exists_eq_left', w_some, List.replicate, List.set_cons_zero, List.set_cons_succ, frz_nil, frz_dat, frz_new, frz_new0, ne_ss, list_t, mk_nil, mk1, mk2, mk3, U.dat.injEq, PyData.int.injEq, PyData.bool.injEq, PyData.str.injEq, U.cell.injEq, add_ii, sub_ii, lt_ii, le_ii, gt_ii, ge_ii, eq_ii, ne_ii, eq_tt0, ne_tt0, eq_ds, sl_t, len_t, isi_int, isi_bool, isi_str, isi_tup, abs_i, min_ii, max_ii, int_i, int_b, mod_ii, fdiv_ii, mul_ii, pow_ii, add_ss, add_tt, mul_ti, repr_d, frzU_dat, and_true, true_and, and_assoc, List.cons.injEq, exists_and_left, exists_and_right, exists_eq_left, exists_eq_right, ix_t, ix_s, sl_s, len_s, is_non, Nat.reduceAdd, Nat.reduceSub, sz0, sz1, sz2, sz3, sz4, sz5, sz6, sz7, sz8, sz9, sz10, sz11, sz12, sz13, sz14, sz15, sz16, sz17, sz18, sz19, sz20, sz21, sz22, sz23, sz24, sz25, sz26, sz27, sz28, sz29, sz30]
  refine ⟨big _ (by omega), ?_⟩
  generalize hone : PyData.tuple [.int p, .int m, .tuple (bs.map .int)] = one
  generalize hL : [U.dat one, _, _, _, _, _, _] = L1
  have hL7 : L1.length = 7 := by rw [← hL]; rfl
  obtain ⟨M5, e5, k5, l5⟩ := frz_two (M := M3 ++ [.lst true L1] ++ [.fz (bs.map .int)]) (ds := [.int p, .int m, .tuple (bs.map .int)]) (e := one) (x := .tuple [one])
  simp only [List.map_cons, List.map_nil] at e5
  simp only [e5]
  have g5 : M5[M3.length]? = some (.lst true L1) := by
    rw [k5 _ (by simp only [List.length_append, List.length_cons, List.length_nil]; omega), List.append_assoc]
    exact lst_at
  have s5 : Hand M5 h (n + 5) := by
    obtain ⟨g, mm, c, e, r1, r2, r3, r4⟩ := hh3
    have hl3 := (List.getElem?_eq_some_iff.mp e).1
    refine ⟨g, mm, c, ?_, r1, r2, r3, by omega⟩
    rw [k5 _ (by simp only [List.length_append, List.length_cons, List.length_nil]; omega), List.append_assoc, List.getElem?_append_left hl3]
    exact e
  rw [add_ll (lst_cell (get_app g5)) (lst_cell (us := _ :: _ :: _ :: [_, _, _]) (f := true) (List.getElem?_concat_length ..))]
  refine ⟨big _ (by simp only [List.length_cons, List.length_nil]; omega), ?_⟩
  generalize hL2 : L1 ++ _ :: _ :: _ :: [_, _, _] = L2
  generalize hM5 : M5 ++ [Cell.lst true _] = M6
  have s6 : Hand M6 h (n + 5) := by rw [← hM5]; exact s5.same ⟨_, rfl⟩
  have hL13 : L2.length = 13 := by rw [← hL2]; simp only [List.length_append, List.length_cons, List.length_nil]; omega
  rw [add_ll (lst_cell (get_app (List.getElem?_concat_length ..))) (lst_cell (us := [_, _, _, _, _, _, _, _]) (f := true) (List.getElem?_concat_length ..))]
  refine ⟨big _ (by simp only [List.length_cons, List.length_nil]; omega), ?_⟩
  generalize hL3 : L2 ++ [_, _, _, _, _, _, _, _] = L3
  have hL21 : L3.length = 21 := by rw [← hL3]; simp only [List.length_append, List.length_cons, List.length_nil]; omega
  generalize hM7 : M6 ++ [Cell.lst false L2] ++ [Cell.lst true _] = M7
  have s7 : Hand M7 h (n + 5) := by rw [← hM7]; exact s6.same ((Same0.refl _).app.app)
  have mk6 : ∀ a b c d e f : PyData, mkTup [.dat a, .dat b, .dat c, .dat d, .dat e, .dat f] = .dat (.tuple [a, b, c, d, e, f]) := fun _ _ _ _ _ _ => rfl
  simp only [mk6]
  refine ⟨_, rfl, ?_⟩
  have g8 : (M7 ++ [Cell.lst false L3])[M7.length]? = some (.lst false L3) := List.getElem?_concat_length ..
  have s8 : Hand (M7 ++ [Cell.lst false L3]) h (n + 5) := s7.same ⟨_, rfl⟩
  generalize hM8 : M7 ++ [Cell.lst false L3] = M8 at g8 s8
  obtain ⟨M9, e9, t9, g9⟩ := lc_pure (M1 := M8) (ws := cellsOf (.dat (.tuple [.int 2, .int (-1), .bool true, .none, .str (Str.ofString "0"), .tuple [.int 0]]))) (g := gNm 9) (e := eOp addU (eSl (eVar 6) oNone (oSome (eC (.int 2)))) (eTup (aCons (eOp addU (eTup (aCons (eVar 9) aNil)) (eSl (eVar 5) (oSome (eC (.int 1))) oNone)) aNil))) (ρ := wipeR [some (.cell h), some (.dat (progD ws as phs)), some (.dat (.tuple gs)), some (.dat (.int gs.length)), some (.dat (.int phs.length)), some (.dat (.tuple (bs.map .int))), some (.dat one), some (.cell M7.length), none, none] [9]) (items := [.int 2, .int (-1), .bool true, .none, .str (Str.ofString "0"), .tuple [.int 0]].map U.dat) (fun u => match u with | .dat d => .tuple [.int p, .int m, .tuple (d :: Lw.cutD (bs.map .int) (some 1) none)] | _ => .none) (fun c hc => by cases hc) (big _ (by simp)) (fun u hu M' s => by
    obtain ⟨d, _, rfl⟩ := List.mem_map.mp hu
    rw [← hone]
    simp only [wipeR, c2, w_fn, w_ret, w_seq, w_sif, w_of, w_trn, w_op, w_snil, w_pass, w_retn, w_asg, w_gnm, w_gsb, w_gtp, w_gcn, w_gn0, w_par, w_aug, w_drop, w_c, w_k, w_lst, w_tup, w_and, w_or, w_not, w_neg, w_ifx, w_tand, w_tor, w_tnot, w_cb, w_ck, w_mt, w_cons, w_nil, w_var, w_chain, w_sl, w_osome, w_onone, Pu.w_rev, w_dct0, w_for, w_iseq, w_irg1, w_lc, w_lc2, List.map_cons, List.map_nil, List.cons_append, List.nil_append, List.getElem?_cons_zero, List.getElem?_cons_succ, List.length_cons, List.length_nil, Option.some.injEq, exists_eq_left', w_some, List.replicate, List.set_cons_zero, List.set_cons_succ, frz_nil, frz_dat, frz_new, frz_new0, ne_ss, list_t, mk_nil, mk1, mk2, mk3, U.dat.injEq, PyData.int.injEq, PyData.bool.injEq, PyData.str.injEq, U.cell.injEq, add_ii, sub_ii, lt_ii, le_ii, gt_ii, ge_ii, eq_ii, ne_ii, eq_tt0, ne_tt0, eq_ds, sl_t, len_t, isi_int, isi_bool, isi_str, isi_tup, abs_i, min_ii, max_ii, int_i, int_b, mod_ii, fdiv_ii, mul_ii, pow_ii, add_ss, add_tt, mul_ti, repr_d, frzU_dat, and_true, true_and, and_assoc, List.cons.injEq, exists_and_left, exists_and_right, exists_eq_left, exists_eq_right, ix_t, ix_s, sl_s, len_s, is_non, Nat.reduceAdd, Nat.reduceSub, sz0, sz1, sz2, sz3, sz4, sz5, sz6, sz7, sz8, sz9, sz10, sz11, sz12, sz13, sz14, sz15, sz16, sz17, sz18, sz19, sz20, sz21, sz22, sz23, sz24, sz25, sz26, sz27, sz28, sz29, sz30]
    have : (Lw.cutD (bs.map PyData.int) (some 1) none).length ≤ 3 := by
      unfold Lw.cutD
      rw [List.length_take, List.length_drop, List.length_map]
      omega
    exact ⟨big _ (by omega), Same0.refl _⟩)
  refine ⟨M9, e9, ?_⟩
  rw [add_ll (lst_cell (t9.get g8)) (lst_cell g9)]
  refine ⟨big _ (by simp only [List.length_map, List.length_cons, List.length_nil]; omega), ?_⟩
  simp only [List.map_cons, List.map_nil]
  generalize hL4 : L3 ++ [_, _, _, _, _, _] = L4
  have hL27 : L4.length = 27 := by rw [← hL4]; simp only [List.length_append, List.length_cons, List.length_nil]; omega
  obtain ⟨z, ez, hz1, hz2⟩ := zeros (k := bs.length) (by omega) (M9 ++ [Cell.lst false L4])
  rw [ez, w_some]
  simp only [w_dctv, frz_new1, w_fn, w_ret, w_seq, w_sif, w_of, w_trn, w_op, w_snil, w_pass, w_retn, w_asg, w_gnm, w_gsb, w_gtp, w_gcn, w_gn0, w_par, w_aug, w_drop, w_c, w_k, w_lst, w_tup, w_and, w_or, w_not, w_neg, w_ifx, w_tand, w_tor, w_tnot, w_cb, w_ck, w_mt, w_cons, w_nil, w_var, w_chain, w_sl, w_osome, w_onone, Pu.w_rev, w_dct0, w_for, w_iseq, w_irg1, w_lc, w_lc2, List.map_cons, List.map_nil, List.cons_append, List.nil_append, List.getElem?_cons_zero, List.getElem?_cons_succ, List.length_cons, List.length_nil, Option.some.injEq, exists_eq_left', w_some, List.replicate, List.set_cons_zero, List.set_cons_succ, frz_nil, frz_dat, frz_new, frz_new0, ne_ss, list_t, mk_nil, mk1, mk2, mk3, U.dat.injEq, PyData.int.injEq, PyData.bool.injEq, PyData.str.injEq, U.cell.injEq, add_ii, sub_ii, lt_ii, le_ii, gt_ii, ge_ii, eq_ii, ne_ii, eq_tt0, ne_tt0, eq_ds, sl_t, len_t, isi_int, isi_bool, isi_str, isi_tup, abs_i, min_ii, max_ii, int_i, int_b, mod_ii, fdiv_ii, mul_ii, pow_ii, add_ss, add_tt, mul_ti, repr_d, frzU_dat, and_true, true_and, and_assoc, List.cons.injEq, exists_and_left, exists_and_right, exists_eq_left, exists_eq_right, ix_t, ix_s, sl_s, len_s, is_non, Nat.reduceAdd, Nat.reduceSub, sz0, sz1, sz2, sz3, sz4, sz5, sz6, sz7, sz8, sz9, sz10, sz11, sz12, sz13, sz14, sz15, sz16, sz17, sz18, sz19, sz20, sz21, sz22, sz23, sz24, sz25, sz26, sz27, sz28, sz29, sz30]
  have g10 : (M9 ++ [Cell.lst false L4] ++ [Cell.fz [one]] ++ [Cell.fz [.list [one]]] ++ [Cell.fz [.list [.list [one]]]] ++ [Cell.lst true [.dat (.tuple [.int p, .int m, .str z]), .dat (.tuple [.none, .none, .none]), .dat (.tuple [.tuple [.int 0, .int 0], one]), .dat (.dict [(.str (Str.ofString "shadow"), one)]), .dat (.list [.list [.list [one]]])]])[M9.length]? = some (.lst false L4) := by
    refine (((Same0.refl _).app.app.app.app).get (List.getElem?_concat_length ..))
  rw [add_ll (lst_cell g10) (lst_cell (us := [_, _, _, _, _]) (f := true) (List.getElem?_concat_length ..))]
  refine ⟨big _ (by simp only [List.length_cons, List.length_nil]; omega), ?_⟩
  refine q _ _ _ _ (List.getElem?_concat_length ..) (by simp only [List.length_append, List.length_cons, List.length_nil]; omega) ?_ ((((s8.same t9).same ((Same0.refl _).app.app.app.app)).same ((Same0.refl _).app.app)).mono (by omega))
  have gi : ∀ i : Int, i.natAbs < 10 → Gd 9 5 10 (.int i) := fun i hi => gd_small hi (Nat.le_refl _)
  have gp := gi p (by omega)
  have gm := gi m (by omega)
  have gBA : GA 8 18 10 (bs.map PyData.int) := by
    have := ga_all (n := 8) (m := 5) (B := 10) (ds := bs.map PyData.int) (fun d hd => by
      obtain ⟨i, hi, rfl⟩ := List.mem_map.mp hd
      exact gd_small (hbs i hi) (Nat.le_refl _))
    refine this.mono (Nat.le_refl _) ?_ (Nat.le_refl _)
    rw [List.length_map]
    omega
  have gB : Gd 9 18 10 (.tuple (bs.map .int)) := gBA.tuple
  have gone : Gd 10 31 10 one := by rw [← hone]; exact (ga3 gp gm gB).tuple.mono (Nat.le_refl _) (by decide) (Nat.le_refl _)
  have t3 : ∀ {a b c : Nat} {x y z : PyData}, Gd 9 a 10 x → Gd 9 b 10 y → Gd 9 c 10 z → a + b + c + 3 ≤ 90 → ThD (.tuple [x, y, z]) := fun hx hy hz hs => th_of (ga3 hx hy hz).tuple (by decide) (by omega)
  have gst : ∀ s : String, (s.toList.all fun c => decide (c.toNat < 128)) = true → (Str.ofString s).length ≤ 8 → Gd 9 8 10 (.str (Str.ofString s)) := fun s h1 h2 => gd_lit s h1 h2
  have fl : ∀ d : PyData, (d = .none ∨ (∃ b, d = .bool b) ∨ d = .tuple [] ∨ d = .list [] ∨ d = .dict []) → Gd 9 1 10 d := fun d h => gd_flat h (by decide) (by decide)
  have gcut : ∀ {x : PyData} {k : Nat}, Gd 8 k 10 x → Gd 9 (k + 19) 10 (.tuple (x :: Lw.cutD (bs.map .int) (some 1) none)) := fun hx => (GA.cons hx (gBA.cut _ _)).tuple.mono (Nat.le_refl _) (by omega) (Nat.le_refl _)
  have t1 : Ths L1 := by
    rw [← hL]
    refine .cons (th_of gone (by decide) (by decide)) (.cons (t3 (gi _ (by omega)) gm gB (by decide)) (.cons (t3 (gi _ (by decide)) gm gB (by decide)) (.cons (t3 gp (gi _ (by omega)) gB (by decide)) (.cons (t3 gp (gi _ (by decide)) gB (by decide)) (.cons (th_of (GA.cons gp (GA.one gm)).tuple (by decide) (by decide)) (.cons (th_of (GA.cons gp (ga3 gm gB (gi 0 (by decide)))).tuple (by decide) (by decide)) .nil))))))
  have t2 : Ths L2 := by
    rw [← hL2]
    refine t1.app ?_
    refine .cons (t3 gp gm (gBA.append (GA.one (gd_small (i := 0) (by decide) (Nat.le_refl _)))).tuple (by decide)) (.cons (t3 gp gm (gBA.cut _ _).tuple (by decide)) (.cons (t3 gp gm gBA.list (by decide)) (.cons (th_of (ga3 gp gm gB).list (by decide) (by decide)) (.cons (th_of (GA.one gone).tuple (by decide) (by decide)) (.cons (th_of (GA.one gone).list (by decide) (by decide)) .nil)))))
  have t4 : Ths L3 := by
    rw [← hL3]
    refine t2.app ?_
    refine .cons (t3 (fl _ (.inr (.inl ⟨_, rfl⟩))) gm gB (by decide)) (.cons (t3 gp (fl _ (.inr (.inl ⟨_, rfl⟩))) gB (by decide)) (.cons (t3 (gst "0" (by decide) (by decide)) gm gB (by decide)) (.cons (th_of (fl _ (.inl rfl)) (by decide) (by decide)) (.cons (th_of (gst "" (by decide) (by decide)) (by decide) (by decide)) (.cons (th_of (gi 0 (by decide)) (by decide) (by decide)) (.cons (th_of (fl _ (.inr (.inr (.inl rfl)))) (by decide) (by decide)) (.cons (th_of (fl _ (.inr (.inr (.inr (.inr rfl))))) (by decide) (by decide)) .nil)))))))
  have t5 : Ths L4 := by
    rw [← hL4]
    refine t4.app ?_
    have si : ∀ i : Int, i.natAbs < 10 → Gd 8 5 10 (.int i) := fun i hi => gd_small hi (Nat.le_refl _)
    have fl8 : ∀ d : PyData, (d = .none ∨ (∃ b, d = .bool b) ∨ d = .tuple [] ∨ d = .list [] ∨ d = .dict []) → Gd 8 1 10 d := fun d h => gd_flat h (by decide) (by decide)
    refine .cons (t3 gp gm (gcut (si 2 (by decide))) (by decide)) (.cons (t3 gp gm (gcut (si (-1) (by decide))) (by decide)) (.cons (t3 gp gm (gcut (fl8 _ (.inr (.inl ⟨_, rfl⟩)))) (by decide)) (.cons (t3 gp gm (gcut (fl8 _ (.inl rfl))) (by decide)) (.cons (t3 gp gm (gcut (gd_lit "0" (by decide) (show _ ≤ 8 by decide))) (by decide)) (.cons (t3 gp gm (gcut ((GA.one (n := 7) (gd_small (i := 0) (by decide) (Nat.le_refl _))).tuple)) (by decide)) .nil)))))
  refine t5.app ?_
  refine .cons (t3 gp gm (gd_str hz2 hz1) (by decide)) (.cons (t3 (fl _ (.inl rfl)) (fl _ (.inl rfl)) (fl _ (.inl rfl)) (by decide)) (.cons (th_of (GA.cons ((GA.cons (gi 0 (by decide)) (GA.one (gi 0 (by decide)))).tuple) (GA.one gone)).tuple (by decide) (by decide)) (.cons ?_ (.cons (th_of (GA.one (GA.one (GA.one gone).list).list).list (by decide) (by decide)) .nil))))
  have hb := gone.bd
  have hsz : (Str.ofString "shadow").length = 6 := by decide
  have hsz2 : (Str.ofString "shadow").cps.size = 6 := by decide
  refine ⟨?_, ?_, ?_, ?_⟩
  · have h1 := hb.lf
    simp [PyData.leavesShort, PyData.leavesShortKv, h1]
    decide +kernel
  · have h1 := hb.sh
    simp [PyData.showable, PyData.showableKv, h1]
  · have h1 := hb.dp
    simp [PyData.depth, PyData.depthKv]
    omega
  · have h1 := hb.wt
    simp only [PyData.weight, PyData.weightKv, hsz, hsz2]
    omega
end Z

namespace Z
open PySem PySem.Spec PyProof.Rows L2 Lw Pu
theorem ok_b (b : Bool) : Ok (.bool b) := (Bd.flat0 (n := 1) (m := 1) (.inr (.inl ⟨b, rfl⟩)) (by decide) (by decide)).ok (by decide) (by decide)
theorem ok_bb (b : Bool) : Ok (.list [.bool b, .bool b]) ∧ (PyData.list [.bool b, .bool b]).hasDict = false := by
  refine ⟨((Gd.bd (GA.list (n := 1) (t := 4) (B := 10) ((GA.cons (m := 1) (gd_flat (.inr (.inl ⟨b, rfl⟩)) (by decide) (by decide)) (GA.one (m := 1) (gd_flat (.inr (.inl ⟨b, rfl⟩)) (by decide) (by decide))))))).ok (by decide) (by decide)), rfl⟩
theorem e_first {ws : List Str} {as : List (Str × Nat)} {phs : List PyData} (hwl : ws.length ≤ 3) (M : Mem) : m_first_shadow [.dat (progD ws as phs)] M = some (.dat (.tuple [.int 0, .int 0, .tuple (List.replicate ws.length (.int 0))]), M) := by
  have key : W (m_first_shadow [.dat (progD ws as phs)] M) fun u M' => u = .dat (.tuple [.int 0, .int 0, .tuple (List.replicate ws.length (.int 0))]) ∧ M' = M := by
    simp only [m_first_shadow, w_fn, w_ret, w_seq, w_sif, w_of, w_trn, w_op, w_snil, w_pass, w_retn, w_asg, w_gnm, w_gsb, w_gtp, w_gcn, w_gn0, w_par, w_aug, w_drop, w_c, w_k, w_lst, w_tup, w_and, w_or, w_not, w_neg, w_ifx, w_tand, w_tor, w_tnot, w_cb, w_ck, w_mt, w_cons, w_nil, w_var, w_chain, w_sl, w_osome, w_onone, Pu.w_rev, w_dct0, w_for, w_iseq, w_irg1, w_lc, w_lc2, List.map_cons, List.map_nil, List.cons_append, List.nil_append, List.getElem?_cons_zero, List.getElem?_cons_succ, List.length_cons, List.length_nil, Option.some.injEq, exists_eq_left', w_some, List.replicate, List.set_cons_zero, List.set_cons_succ, frz_nil, frz_dat, frz_new, frz_new0, ne_ss, list_t, mk_nil, mk1, mk2, mk3, U.dat.injEq, PyData.int.injEq, PyData.bool.injEq, PyData.str.injEq, U.cell.injEq, add_ii, sub_ii, lt_ii, le_ii, gt_ii, ge_ii, eq_ii, ne_ii, eq_tt0, ne_tt0, eq_ds, sl_t, len_t, isi_int, isi_bool, isi_str, isi_tup, abs_i, min_ii, max_ii, int_i, int_b, mod_ii, fdiv_ii, mul_ii, pow_ii, add_ss, add_tt, mul1, repr_d, frzU_dat, and_true, true_and, and_assoc, List.cons.injEq, exists_and_left, exists_and_right, exists_eq_left, exists_eq_right, ix_t, ix_s, sl_s, len_s, is_non, Nat.reduceAdd, Nat.reduceSub, sz0, sz1, sz2, sz3, sz4, sz5, sz6, sz7, sz8, sz9, sz10, sz11, sz12, sz13, sz14, sz15, sz16, sz17, sz18, sz19, sz20, sz21, sz22, sz23, sz24, sz25, sz26, sz27, sz28, sz29, sz30]
    refine ⟨.tuple (ws.map .str), rfl, ?_⟩
    simp only [List.length_map, w_fn, w_ret, w_seq, w_sif, w_of, w_trn, w_op, w_snil, w_pass, w_retn, w_asg, w_gnm, w_gsb, w_gtp, w_gcn, w_gn0, w_par, w_aug, w_drop, w_c, w_k, w_lst, w_tup, w_and, w_or, w_not, w_neg, w_ifx, w_tand, w_tor, w_tnot, w_cb, w_ck, w_mt, w_cons, w_nil, w_var, w_chain, w_sl, w_osome, w_onone, Pu.w_rev, w_dct0, w_for, w_iseq, w_irg1, w_lc, w_lc2, List.map_cons, List.map_nil, List.cons_append, List.nil_append, List.getElem?_cons_zero, List.getElem?_cons_succ, List.length_cons, List.length_nil, Option.some.injEq, exists_eq_left', w_some, List.replicate, List.set_cons_zero, List.set_cons_succ, frz_nil, frz_dat, frz_new, frz_new0, ne_ss, list_t, mk_nil, mk1, mk2, mk3, U.dat.injEq, PyData.int.injEq, PyData.bool.injEq, PyData.str.injEq, U.cell.injEq, add_ii, sub_ii, lt_ii, le_ii, gt_ii, ge_ii, eq_ii, ne_ii, eq_tt0, ne_tt0, eq_ds, sl_t, len_t, isi_int, isi_bool, isi_str, isi_tup, abs_i, min_ii, max_ii, int_i, int_b, mod_ii, fdiv_ii, mul_ii, pow_ii, add_ss, add_tt, mul1, repr_d, frzU_dat, and_true, true_and, and_assoc, List.cons.injEq, exists_and_left, exists_and_right, exists_eq_left, exists_eq_right, ix_t, ix_s, sl_s, len_s, is_non, Nat.reduceAdd, Nat.reduceSub, sz0, sz1, sz2, sz3, sz4, sz5, sz6, sz7, sz8, sz9, sz10, sz11, sz12, sz13, sz14, sz15, sz16, sz17, sz18, sz19, sz20, sz21, sz22, sz23, sz24, sz25, sz26, sz27, sz28, sz29, sz30]
    first | exact ⟨by omega, rfl, rfl⟩ | exact (by omega)
  obtain ⟨u, M', e, rfl, rfl⟩ := key
  exact e
theorem ok_first {k : Nat} (hk : k ≤ 3) : Ok (.tuple [.int 0, .int 0, .tuple (List.replicate k (.int 0))]) := by
  have g : GA 2 (k * 6) 10 (List.replicate k (PyData.int 0)) := by
    have := ga_all (n := 2) (m := 5) (B := 10) (ds := List.replicate k (PyData.int 0)) (fun d hd => by
      rw [List.eq_of_mem_replicate hd]
      exact gd_small (by decide) (Nat.le_refl _))
    rw [List.length_replicate] at this
    exact this
  exact ((ga3 (gd_small (n := 3) (i := 0) (by decide) (Nat.le_refl 10)) (gd_small (i := 0) (by decide) (Nat.le_refl _)) g.tuple).tuple).bd.ok (by decide) (by omega)
theorem sort_mem {ds : List PyData} {d : PyData} (h : d ∈ sortD ds) : d ∈ ds := by
  unfold sortD at h
  exact List.mem_mergeSort.mp h
theorem gd_deeds {as : List (Str × Nat)} (has : ∀ a ∈ as, Nm a.1 ∧ a.2 ≤ 2) (hal : as.length ≤ 4) : Gd 3 1400 10 (.tuple (sortD (LD as))) := by
  have g := ga_all (n := 2) (m := 40) (B := 10) (ds := sortD (LD as)) fun d hd => ld_gd has (sort_mem hd)
  have hl : (sortD (LD as)).length ≤ 32 := by
    unfold sortD
    rw [List.length_mergeSort]
    have := ld_len fun a ha => (has a ha).2
    omega
  refine g.tuple.mono (Nat.le_refl _) ?_ (Nat.le_refl _)
  exact Nat.le_trans (Nat.mul_le_mul_right _ hl) (by decide)
theorem shaped_deeds {as : List (Str × Nat)} (has : ∀ a ∈ as, Nm a.1 ∧ a.2 ≤ 2) (hal : as.length ≤ 4) : SeqAt.shaped (.tuple (sortD (LD as))) = true := by
  have g := gd_deeds has hal
  unfold SeqAt.shaped
  rw [Bool.and_eq_true]
  refine ⟨?_, decide_eq_true (Nat.le_trans g.bd.dp (by decide))⟩
  have canI : ∀ is : List Int, PyData.canLayAll0 (is.map .int) = true := fun is => by
    induction is with
    | nil => rfl
    | cons i is ih => simp only [List.map_cons, PyData.canLayAll0, PyData.canLay0, ih, Bool.and_self]
  have all : ∀ ds : List PyData, (∀ d ∈ ds, d ∈ LD as) → PyData.canLayAll0 ds = true := by
    intro ds
    induction ds with
    | nil => exact fun _ => rfl
    | cons d ds ih =>
      intro h
      have h2 := ih fun x hx => h x (List.mem_cons_of_mem _ hx)
      obtain ⟨a, r, ha, hr, rfl⟩ := ld_mem (h d List.mem_cons_self)
      simp only [PyData.canLayAll0, PyData.canLay0, h2, canI, Bool.and_true]
      have nm := (has a ha).1.1
      show (a.1.cps.all fun x => decide (x < 0x110000)) = true
      rw [Array.all_eq_true']
      intro x hx
      have := nm x (Array.mem_toList_iff.mpr hx)
      exact decide_eq_true (by omega)
  simp only [PyData.canLay0]
  exact all _ fun d hd => sort_mem hd
theorem ne_deeds {as : List (Str × Nat)} (has : ∀ a ∈ as, Nm a.1 ∧ a.2 ≤ 2) (hal : as.length ≤ 4) (h1 : 1 ≤ as.length) (M : Mem) : neU (.dat (.tuple (sortD (LD as)))) (.dat (.tuple (sortD (LD as)))) M = some (.dat (.bool false), M) := by
  have sh := shaped_deeds has hal
  have hne : (sortD (LD as)).length ≠ 0 := by
    unfold sortD
    rw [List.length_mergeSort]
    match as, h1 with
    | a :: as, _ =>
      have : 1 ≤ (rowL a.2).length := by
        have h2 := (has a List.mem_cons_self).2
        match a.2, h2 with
        | 0, _ => decide
        | 1, _ => decide
        | 2, _ => decide
      show ((rowL a.2).map _ ++ LD as).length ≠ 0
      rw [List.length_append, List.length_map]
      omega
  have he := SeqAt.eqv_refl _ (SeqAt.canLay_of_shaped sh)
  generalize sortD (LD as) = ds at sh hne he
  rw [ne_dd sh sh (fun z h => by cases h) (by
    match ds, hne with
    | d :: ds, _ => rfl), he]
  rfl
end Z

namespace Z
open PySem PySem.Spec PyProof.Rows L2 Lw Pu
def LwI (ns : List Int) (k : Nat) (ρ : Pu.Env) (M' : Mem) : Prop := ∃ (y1 y2 y3 y4 y5 y6 y7 y8 y9 y10 : Option U), ρ = [some (.scr ns), y1, y2, y3, y4, y5, y6, y7, y8, y9, y10, none, none]
def InI (ns : List Int) (M : Mem) (c : Nat) (y1 y2 y5 : Option U) (pr gt : PyData) (k : Nat) (ρ : Pu.Env) (M' : Mem) : Prop := (∃ (y6 y7 y8 y9 y10 : Option U), ρ = [some (.scr ns), y1, y2, some (.dat pr), some (.dat gt), y5, y6, y7, y8, y9, y10, none, none]) ∧ Same0 M M'
theorem law_true (ns : List Int) (hl : ns.length ≤ 63) : W (m_law [.scr ns] []) fun u _ => u = .dat (.bool true) := by
  have big : ∀ z : Nat, z ≤ 1000 → z ≤ sizeLine := fun z hz => Nat.le_trans hz (by decide)
  have hs : seqOf ([] : Mem) (.scr ns) = some (ns.map fun i => .dat (.int i)) := rfl
  simp only [m_law, kb_first_shadow_0_program, kb_bit_deeds_0_program, kb_is_shadow_2_guard, kb_is_shadow_0_thing_program_guard, w_fn, w_ret, w_seq, w_sif, w_of, w_trn, w_op, w_snil, w_pass, w_retn, w_asg, w_gnm, w_gsb, w_gtp, w_gcn, w_gn0, w_par, w_aug, w_drop, w_c, w_k, w_lst, w_tup, w_and, w_or, w_not, w_neg, w_ifx, w_tand, w_tor, w_tnot, w_cb, w_ck, w_mt, w_cons, w_nil, w_var, w_chain, w_sl, w_osome, w_onone, Pu.w_rev, w_dct0, w_for, w_iseq, w_irg1, w_lc, w_lc2, List.map_cons, List.map_nil, List.cons_append, List.nil_append, List.getElem?_cons_zero, List.getElem?_cons_succ, List.length_cons, List.length_nil, Option.some.injEq, exists_eq_left', w_some, List.replicate, List.set_cons_zero, List.set_cons_succ, frz_nil, frz_dat, frz_new, frz_new0, ne_ss, list_t, mk_nil, mk1, mk2, mk3, U.dat.injEq, PyData.int.injEq, PyData.bool.injEq, PyData.str.injEq, U.cell.injEq, add_ii, sub_ii, lt_ii, le_ii, gt_ii, ge_ii, eq_ii, ne_ii, eq_tt0, ne_tt0, eq_ds, sl_t, len_t, isi_int, isi_bool, isi_str, isi_tup, abs_i, min_ii, max_ii, int_i, int_b, mod_ii, fdiv_ii, mul_ii, pow_ii, add_ss, add_tt, mul_ti, repr_d, frzU_dat, and_true, true_and, and_assoc, List.cons.injEq, exists_and_left, exists_and_right, exists_eq_left, exists_eq_right, ix_t, ix_s, sl_s, len_s, is_non, Nat.reduceAdd, Nat.reduceSub, sz0, sz1, sz2, sz3, sz4, sz5, sz6, sz7, sz8, sz9, sz10, sz11, sz12, sz13, sz14, sz15, sz16, sz17, sz18, sz19, sz20, sz21, sz22, sz23, sz24, sz25, sz26, sz27, sz28, sz29, sz30]
  rw [len_q hs, w_some]
  simp only [List.length_map, w_fn, w_ret, w_seq, w_sif, w_of, w_trn, w_op, w_snil, w_pass, w_retn, w_asg, w_gnm, w_gsb, w_gtp, w_gcn, w_gn0, w_par, w_aug, w_drop, w_c, w_k, w_lst, w_tup, w_and, w_or, w_not, w_neg, w_ifx, w_tand, w_tor, w_tnot, w_cb, w_ck, w_mt, w_cons, w_nil, w_var, w_chain, w_sl, w_osome, w_onone, Pu.w_rev, w_dct0, w_for, w_iseq, w_irg1, w_lc, w_lc2, List.map_cons, List.map_nil, List.cons_append, List.nil_append, List.getElem?_cons_zero, List.getElem?_cons_succ, List.length_cons, List.length_nil, Option.some.injEq, exists_eq_left', w_some, List.replicate, List.set_cons_zero, List.set_cons_succ, frz_nil, frz_dat, frz_new, frz_new0, ne_ss, list_t, mk_nil, mk1, mk2, mk3, U.dat.injEq, PyData.int.injEq, PyData.bool.injEq, PyData.str.injEq, U.cell.injEq, add_ii, sub_ii, lt_ii, le_ii, gt_ii, ge_ii, eq_ii, ne_ii, eq_tt0, ne_tt0, eq_ds, sl_t, len_t, isi_int, isi_bool, isi_str, isi_tup, abs_i, min_ii, max_ii, int_i, int_b, mod_ii, fdiv_ii, mul_ii, pow_ii, add_ss, add_tt, mul_ti, repr_d, frzU_dat, and_true, true_and, and_assoc, List.cons.injEq, exists_and_left, exists_and_right, exists_eq_left, exists_eq_right, ix_t, ix_s, sl_s, len_s, is_non, Nat.reduceAdd, Nat.reduceSub, sz0, sz1, sz2, sz3, sz4, sz5, sz6, sz7, sz8, sz9, sz10, sz11, sz12, sz13, sz14, sz15, sz16, sz17, sz18, sz19, sz20, sz21, sz22, sz23, sz24, sz25, sz26, sz27, sz28, sz29, sz30]
  obtain ⟨t, ht, ht4⟩ : ∃ t : Nat, (if (if (ns.length : Int) < 2 then (ns.length : Int) else 2) > 1 then (if (ns.length : Int) < 2 then (ns.length : Int) else 2) else 1) = t ∧ t ≤ 4 := ⟨(if (if (ns.length : Int) < 2 then (ns.length : Int) else 2) > 1 then (if (ns.length : Int) < 2 then (ns.length : Int) else 2) else 1).toNat, by split <;> split <;> omega, by split <;> split <;> omega⟩
  rw [ht]
  refine ⟨by omega, by omega, ?_⟩
  refine for_inv (LwI ns) _ 0 _ _ ⟨none, none, none, none, none, none, none, none, none, none, rfl⟩ ?_ ?_
  · intro j u ρ M hj hI
    obtain ⟨hj1, rfl⟩ := range_get hj
    have hj4 : j < 4 := by omega
    obtain ⟨y1, y2, y3, y4, y5, y6, y7, y8, y9, y10, rfl⟩ := hI
    simp only [Int.zero_add, w_fn, w_ret, w_seq, w_sif, w_of, w_trn, w_op, w_snil, w_pass, w_retn, w_asg, w_gnm, w_gsb, w_gtp, w_gcn, w_gn0, w_par, w_aug, w_drop, w_c, w_k, w_lst, w_tup, w_and, w_or, w_not, w_neg, w_ifx, w_tand, w_tor, w_tnot, w_cb, w_ck, w_mt, w_cons, w_nil, w_var, w_chain, w_sl, w_osome, w_onone, Pu.w_rev, w_dct0, w_for, w_iseq, w_irg1, w_lc, w_lc2, List.map_cons, List.map_nil, List.cons_append, List.nil_append, List.getElem?_cons_zero, List.getElem?_cons_succ, List.length_cons, List.length_nil, Option.some.injEq, exists_eq_left', w_some, List.replicate, List.set_cons_zero, List.set_cons_succ, frz_nil, frz_dat, frz_new, frz_new0, ne_ss, list_t, mk_nil, mk1, mk2, mk3, U.dat.injEq, PyData.int.injEq, PyData.bool.injEq, PyData.str.injEq, U.cell.injEq, add_ii, sub_ii, lt_ii, le_ii, gt_ii, ge_ii, eq_ii, ne_ii, eq_tt0, ne_tt0, eq_ds, sl_t, len_t, isi_int, isi_bool, isi_str, isi_tup, abs_i, min_ii, max_ii, int_i, int_b, mod_ii, fdiv_ii, mul_ii, pow_ii, add_ss, add_tt, mul_ti, repr_d, frzU_dat, and_true, true_and, and_assoc, List.cons.injEq, exists_and_left, exists_and_right, exists_eq_left, exists_eq_right, ix_t, ix_s, sl_s, len_s, is_non, Nat.reduceAdd, Nat.reduceSub, sz0, sz1, sz2, sz3, sz4, sz5, sz6, sz7, sz8, sz9, sz10, sz11, sz12, sz13, sz14, sz15, sz16, sz17, sz18, sz19, sz20, sz21, sz22, sz23, sz24, sz25, sz26, sz27, sz28, sz29, sz30]
    refine hand_spec (by omega) fun G hh0 lG => ?_
    generalize hM1 : M ++ G = M1 at hh0
    generalize M.length = h at hh0
    try simp only [w_fn, w_ret, w_seq, w_sif, w_of, w_trn, w_op, w_snil, w_pass, w_retn, w_asg, w_gnm, w_gsb, w_gtp, w_gcn, w_gn0, w_par, w_aug, w_drop, w_c, w_k, w_lst, w_tup, w_and, w_or, w_not, w_neg, w_ifx, w_tand, w_tor, w_tnot, w_cb, w_ck, w_mt, w_cons, w_nil, w_var, w_chain, w_sl, w_osome, w_onone, Pu.w_rev, w_dct0, w_for, w_iseq, w_irg1, w_lc, w_lc2, List.map_cons, List.map_nil, List.cons_append, List.nil_append, List.getElem?_cons_zero, List.getElem?_cons_succ, List.length_cons, List.length_nil, Option.some.injEq, exists_eq_left', w_some, List.replicate, List.set_cons_zero, List.set_cons_succ, frz_nil, frz_dat, frz_new, frz_new0, ne_ss, list_t, mk_nil, mk1, mk2, mk3, U.dat.injEq, PyData.int.injEq, PyData.bool.injEq, PyData.str.injEq, U.cell.injEq, add_ii, sub_ii, lt_ii, le_ii, gt_ii, ge_ii, eq_ii, ne_ii, eq_tt0, ne_tt0, eq_ds, sl_t, len_t, isi_int, isi_bool, isi_str, isi_tup, abs_i, min_ii, max_ii, int_i, int_b, mod_ii, fdiv_ii, mul_ii, pow_ii, add_ss, add_tt, mul_ti, repr_d, frzU_dat, and_true, true_and, and_assoc, List.cons.injEq, exists_and_left, exists_and_right, exists_eq_left, exists_eq_right, ix_t, ix_s, sl_s, len_s, is_non, Nat.reduceAdd, Nat.reduceSub, sz0, sz1, sz2, sz3, sz4, sz5, sz6, sz7, sz8, sz9, sz10, sz11, sz12, sz13, sz14, sz15, sz16, sz17, sz18, sz19, sz20, sz21, sz22, sz23, sz24, sz25, sz26, sz27, sz28, sz29, sz30]
    refine prog_spec hh0 (by decide) fun ws as phs M2 hws hwl has ha1 ha4 hp1 hp3 hh2 fr2 => ?_
    try simp only [w_fn, w_ret, w_seq, w_sif, w_of, w_trn, w_op, w_snil, w_pass, w_retn, w_asg, w_gnm, w_gsb, w_gtp, w_gcn, w_gn0, w_par, w_aug, w_drop, w_c, w_k, w_lst, w_tup, w_and, w_or, w_not, w_neg, w_ifx, w_tand, w_tor, w_tnot, w_cb, w_ck, w_mt, w_cons, w_nil, w_var, w_chain, w_sl, w_osome, w_onone, Pu.w_rev, w_dct0, w_for, w_iseq, w_irg1, w_lc, w_lc2, List.map_cons, List.map_nil, List.cons_append, List.nil_append, List.getElem?_cons_zero, List.getElem?_cons_succ, List.length_cons, List.length_nil, Option.some.injEq, exists_eq_left', w_some, List.replicate, List.set_cons_zero, List.set_cons_succ, frz_nil, frz_dat, frz_new, frz_new0, ne_ss, list_t, mk_nil, mk1, mk2, mk3, U.dat.injEq, PyData.int.injEq, PyData.bool.injEq, PyData.str.injEq, U.cell.injEq, add_ii, sub_ii, lt_ii, le_ii, gt_ii, ge_ii, eq_ii, ne_ii, eq_tt0, ne_tt0, eq_ds, sl_t, len_t, isi_int, isi_bool, isi_str, isi_tup, abs_i, min_ii, max_ii, int_i, int_b, mod_ii, fdiv_ii, mul_ii, pow_ii, add_ss, add_tt, mul_ti, repr_d, frzU_dat, and_true, true_and, and_assoc, List.cons.injEq, exists_and_left, exists_and_right, exists_eq_left, exists_eq_right, ix_t, ix_s, sl_s, len_s, is_non, Nat.reduceAdd, Nat.reduceSub, sz0, sz1, sz2, sz3, sz4, sz5, sz6, sz7, sz8, sz9, sz10, sz11, sz12, sz13, sz14, sz15, sz16, sz17, sz18, sz19, sz20, sz21, sz22, sz23, sz24, sz25, sz26, sz27, sz28, sz29, sz30]
    refine ⟨.tuple (as.map actD), rfl, ?_⟩
    refine gate_spec ha4 hh2 (by decide) fun gs M3 hg1 hg3 hh3 fr3 => ?_
    try simp only [w_fn, w_ret, w_seq, w_sif, w_of, w_trn, w_op, w_snil, w_pass, w_retn, w_asg, w_gnm, w_gsb, w_gtp, w_gcn, w_gn0, w_par, w_aug, w_drop, w_c, w_k, w_lst, w_tup, w_and, w_or, w_not, w_neg, w_ifx, w_tand, w_tor, w_tnot, w_cb, w_ck, w_mt, w_cons, w_nil, w_var, w_chain, w_sl, w_osome, w_onone, Pu.w_rev, w_dct0, w_for, w_iseq, w_irg1, w_lc, w_lc2, List.map_cons, List.map_nil, List.cons_append, List.nil_append, List.getElem?_cons_zero, List.getElem?_cons_succ, List.length_cons, List.length_nil, Option.some.injEq, exists_eq_left', w_some, List.replicate, List.set_cons_zero, List.set_cons_succ, frz_nil, frz_dat, frz_new, frz_new0, ne_ss, list_t, mk_nil, mk1, mk2, mk3, U.dat.injEq, PyData.int.injEq, PyData.bool.injEq, PyData.str.injEq, U.cell.injEq, add_ii, sub_ii, lt_ii, le_ii, gt_ii, ge_ii, eq_ii, ne_ii, eq_tt0, ne_tt0, eq_ds, sl_t, len_t, isi_int, isi_bool, isi_str, isi_tup, abs_i, min_ii, max_ii, int_i, int_b, mod_ii, fdiv_ii, mul_ii, pow_ii, add_ss, add_tt, mul_ti, repr_d, frzU_dat, and_true, true_and, and_assoc, List.cons.injEq, exists_and_left, exists_and_right, exists_eq_left, exists_eq_right, ix_t, ix_s, sl_s, len_s, is_non, Nat.reduceAdd, Nat.reduceSub, sz0, sz1, sz2, sz3, sz4, sz5, sz6, sz7, sz8, sz9, sz10, sz11, sz12, sz13, sz14, sz15, sz16, sz17, sz18, sz19, sz20, sz21, sz22, sz23, sz24, sz25, sz26, sz27, sz28, sz29, sz30]
    refine ⟨by decide, by decide, ?_⟩
    obtain ⟨M4, bs, e4, hh4, fr4, g4, len4, r4⟩ := lc_draw (M1 := M3) (ws := []) (g := gNm 12) (e := eCB m__law_bars_right (aCons (eVar 2) aNil)) (ρ := wipeR [some (.scr ns), some (.dat (.int j)), some (.cell h), some (.dat (progD ws as phs)), some (.dat (.tuple gs)), y5, y6, y7, y8, y9, y10, none, none] [12]) (items := rangeU 0 (6 : Int).toNat)
      (fun M' k => Hand M' h (2800 + 100 * k)) h (fun _ d => d = .bool true) (fun M' k x hx => hx.set (by have := hh3.lt; omega)) (fun c hc => by cases hc) (by rw [range_len]; decide) hh3.lt ((hh3.same ⟨_, rfl⟩).mono (by omega)) (fun k u M' hk hx fr => by
        obtain ⟨hk1, rfl⟩ := range_get hk
        have hk6 : k < 6 := hk1
        simp only [wipeR, w_fn, w_ret, w_seq, w_sif, w_of, w_trn, w_op, w_snil, w_pass, w_retn, w_asg, w_gnm, w_gsb, w_gtp, w_gcn, w_gn0, w_par, w_aug, w_drop, w_c, w_k, w_lst, w_tup, w_and, w_or, w_not, w_neg, w_ifx, w_tand, w_tor, w_tnot, w_cb, w_ck, w_mt, w_cons, w_nil, w_var, w_chain, w_sl, w_osome, w_onone, Pu.w_rev, w_dct0, w_for, w_iseq, w_irg1, w_lc, w_lc2, List.map_cons, List.map_nil, List.cons_append, List.nil_append, List.getElem?_cons_zero, List.getElem?_cons_succ, List.length_cons, List.length_nil, Option.some.injEq, exists_eq_left', w_some, List.replicate, List.set_cons_zero, List.set_cons_succ, frz_nil, frz_dat, frz_new, frz_new0, ne_ss, list_t, mk_nil, mk1, mk2, mk3, U.dat.injEq, PyData.int.injEq, PyData.bool.injEq, PyData.str.injEq, U.cell.injEq, add_ii, sub_ii, lt_ii, le_ii, gt_ii, ge_ii, eq_ii, ne_ii, eq_tt0, ne_tt0, eq_ds, sl_t, len_t, isi_int, isi_bool, isi_str, isi_tup, abs_i, min_ii, max_ii, int_i, int_b, mod_ii, fdiv_ii, mul_ii, pow_ii, add_ss, add_tt, mul_ti, repr_d, frzU_dat, and_true, true_and, and_assoc, List.cons.injEq, exists_and_left, exists_and_right, exists_eq_left, exists_eq_right, ix_t, ix_s, sl_s, len_s, is_non, Nat.reduceAdd, Nat.reduceSub, sz0, sz1, sz2, sz3, sz4, sz5, sz6, sz7, sz8, sz9, sz10, sz11, sz12, sz13, sz14, sz15, sz16, sz17, sz18, sz19, sz20, sz21, sz22, sz23, sz24, sz25, sz26, sz27, sz28, sz29, sz30]
        refine bars_spec hx (by omega) fun M'' h'' fr'' => ?_
        first | exact ⟨_, rfl, rfl, h''.mono (by omega), fr''⟩ | exact ⟨rfl, h''.mono (by omega), fr''⟩ | exact ⟨h''.mono (by omega), fr''⟩)
    refine ⟨M4, e4, ?_⟩
    have hbs : bs = (bs.map fun _ => true).map PyData.bool := by
      have all : ∀ d ∈ bs, d = .bool true := fun d hd => by
        obtain ⟨u, _, h1⟩ := all_at (R := fun _ d => d = .bool true) len4 r4 d hd
        exact h1
      rw [List.map_map]
      refine (List.map_congr_left (g := fun d => d) fun d hd => ?_).trans (by simp) |>.symm
      rw [all d hd]
      rfl
    have g5 : M4[M3.length]? = some (.lst false ((bs.map fun _ => true).map fun b => .dat (.bool b))) := by
      rw [g4]
      congr 2
      rw [hbs]
      simp
    rw [all_c g5, w_some]
    refine ⟨true, by congr 2; simp, ?_⟩
    simp only [Bool.not_true]
    refine ⟨.tuple (ws.map .str), rfl, ?_⟩
    have okf := ok_first hwl
    simp only [List.length_map, e_first hwl, kb_first_shadow_0_program, decide_true, Bool.not_true, w_fn, w_ret, w_seq, w_sif, w_of, w_trn, w_op, w_snil, w_pass, w_retn, w_asg, w_gnm, w_gsb, w_gtp, w_gcn, w_gn0, w_par, w_aug, w_drop, w_c, w_k, w_lst, w_tup, w_and, w_or, w_not, w_neg, w_ifx, w_tand, w_tor, w_tnot, w_cb, w_ck, w_mt, w_cons, w_nil, w_var, w_chain, w_sl, w_osome, w_onone, Pu.w_rev, w_dct0, w_for, w_iseq, w_irg1, w_lc, w_lc2, List.map_cons, List.map_nil, List.cons_append, List.nil_append, List.getElem?_cons_zero, List.getElem?_cons_succ, List.length_cons, List.length_nil, Option.some.injEq, exists_eq_left', w_some, List.replicate, List.set_cons_zero, List.set_cons_succ, frz_nil, frz_dat, frz_new, frz_new0, ne_ss, list_t, mk_nil, mk1, mk2, mk3, U.dat.injEq, PyData.int.injEq, PyData.bool.injEq, PyData.str.injEq, U.cell.injEq, add_ii, sub_ii, lt_ii, le_ii, gt_ii, ge_ii, eq_ii, ne_ii, eq_tt0, ne_tt0, eq_ds, sl_t, len_t, isi_int, isi_bool, isi_str, isi_tup, abs_i, min_ii, max_ii, int_i, int_b, mod_ii, fdiv_ii, mul_ii, pow_ii, add_ss, add_tt, mul1, repr_d, frzU_dat, and_true, true_and, and_assoc, List.cons.injEq, exists_and_left, exists_and_right, exists_eq_left, exists_eq_right, ix_t, ix_s, sl_s, len_s, is_non, Nat.reduceAdd, Nat.reduceSub, sz0, sz1, sz2, sz3, sz4, sz5, sz6, sz7, sz8, sz9, sz10, sz11, sz12, sz13, sz14, sz15, sz16, sz17, sz18, sz19, sz20, sz21, sz22, sz23, sz24, sz25, sz26, sz27, sz28, sz29, sz30]
    refine ⟨by omega, okf, okf, okf, ?_⟩
    obtain ⟨u5, M5, e5, rfl, s5⟩ := p_deeds (ws := ws) (phs := phs) has ha4 M4
    refine ⟨_, M5, e5, ?_⟩
    have okd := (gd_deeds has ha4).bd.ok (by decide) (by decide)
    simp only [w_fn, w_ret, w_seq, w_sif, w_of, w_trn, w_op, w_snil, w_pass, w_retn, w_asg, w_gnm, w_gsb, w_gtp, w_gcn, w_gn0, w_par, w_aug, w_drop, w_c, w_k, w_lst, w_tup, w_and, w_or, w_not, w_neg, w_ifx, w_tand, w_tor, w_tnot, w_cb, w_ck, w_mt, w_cons, w_nil, w_var, w_chain, w_sl, w_osome, w_onone, Pu.w_rev, w_dct0, w_for, w_iseq, w_irg1, w_lc, w_lc2, List.map_cons, List.map_nil, List.cons_append, List.nil_append, List.getElem?_cons_zero, List.getElem?_cons_succ, List.length_cons, List.length_nil, Option.some.injEq, exists_eq_left', w_some, List.replicate, List.set_cons_zero, List.set_cons_succ, frz_nil, frz_dat, frz_new, frz_new0, ne_ss, list_t, mk_nil, mk1, mk2, mk3, U.dat.injEq, PyData.int.injEq, PyData.bool.injEq, PyData.str.injEq, U.cell.injEq, add_ii, sub_ii, lt_ii, le_ii, gt_ii, ge_ii, eq_ii, ne_ii, eq_tt0, ne_tt0, eq_ds, sl_t, len_t, isi_int, isi_bool, isi_str, isi_tup, abs_i, min_ii, max_ii, int_i, int_b, mod_ii, fdiv_ii, mul_ii, pow_ii, add_ss, add_tt, mul1, repr_d, frzU_dat, and_true, true_and, and_assoc, List.cons.injEq, exists_and_left, exists_and_right, exists_eq_left, exists_eq_right, ix_t, ix_s, sl_s, len_s, is_non, Nat.reduceAdd, Nat.reduceSub, sz0, sz1, sz2, sz3, sz4, sz5, sz6, sz7, sz8, sz9, sz10, sz11, sz12, sz13, sz14, sz15, sz16, sz17, sz18, sz19, sz20, sz21, sz22, sz23, sz24, sz25, sz26, sz27, sz28, sz29, sz30]
    refine ⟨okd, .tuple (as.map actD), rfl, ?_⟩
    obtain ⟨u6, M6, e6, c6, rfl, g6, k6, l6⟩ := p_letters has ha4 M5
    refine ⟨_, M6, e6, ?_⟩
    show W (tupleF [U.cell c6] M6) _
    rw [tup_c g6, w_some]
    simp only [kb_bit_deeds_0_program, decide_true, Bool.not_true, w_fn, w_ret, w_seq, w_sif, w_of, w_trn, w_op, w_snil, w_pass, w_retn, w_asg, w_gnm, w_gsb, w_gtp, w_gcn, w_gn0, w_par, w_aug, w_drop, w_c, w_k, w_lst, w_tup, w_and, w_or, w_not, w_neg, w_ifx, w_tand, w_tor, w_tnot, w_cb, w_ck, w_mt, w_cons, w_nil, w_var, w_chain, w_sl, w_osome, w_onone, Pu.w_rev, w_dct0, w_for, w_iseq, w_irg1, w_lc, w_lc2, List.map_cons, List.map_nil, List.cons_append, List.nil_append, List.getElem?_cons_zero, List.getElem?_cons_succ, List.length_cons, List.length_nil, Option.some.injEq, exists_eq_left', w_some, List.replicate, List.set_cons_zero, List.set_cons_succ, frz_nil, frz_dat, frz_new, frz_new0, ne_ss, list_t, mk_nil, mk1, mk2, mk3, U.dat.injEq, PyData.int.injEq, PyData.bool.injEq, PyData.str.injEq, U.cell.injEq, add_ii, sub_ii, lt_ii, le_ii, gt_ii, ge_ii, eq_ii, ne_ii, eq_tt0, ne_tt0, eq_ds, sl_t, len_t, isi_int, isi_bool, isi_str, isi_tup, abs_i, min_ii, max_ii, int_i, int_b, mod_ii, fdiv_ii, mul_ii, pow_ii, add_ss, add_tt, mul1, repr_d, frzU_dat, and_true, true_and, and_assoc, List.cons.injEq, exists_and_left, exists_and_right, exists_eq_left, exists_eq_right, ix_t, ix_s, sl_s, len_s, is_non, Nat.reduceAdd, Nat.reduceSub, sz0, sz1, sz2, sz3, sz4, sz5, sz6, sz7, sz8, sz9, sz10, sz11, sz12, sz13, sz14, sz15, sz16, sz17, sz18, sz19, sz20, sz21, sz22, sz23, sz24, sz25, sz26, sz27, sz28, sz29, sz30]
    refine ⟨okd, ?_⟩
    obtain ⟨u7, M7, e7, rfl, s7⟩ := p_deeds (ws := ws) (phs := phs) has ha4 M6
    refine ⟨_, M7, e7, ?_⟩
    obtain ⟨u8, M8, e8, rfl, s8⟩ := p_deeds (ws := ws) (phs := phs) has ha4 M7
    refine ⟨_, M8, e8, ?_⟩
    show W (neU (.dat (.tuple (sortD (LD as)))) (.dat (.tuple (sortD (LD as)))) M8) _
    rw [ne_deeds has ha4 ha1, w_some]
    refine ⟨false, rfl, ?_⟩
    simp only
    have hh8 : Hand M8 h 4000 := by
      have a5 := hh4.same s5
      obtain ⟨g, mm, c, e, r1, r2, r3, r4⟩ := a5
      have hl5 := (List.getElem?_eq_some_iff.mp e).1
      rw [range_len] at r4
      have : Hand M6 h 4000 := ⟨g, mm, c, by rw [k6 _ hl5]; exact e, r1, r2, r3, by have : (6 : Int).toNat = 6 := rfl; omega⟩
      exact (this.same s7).same s8
    refine things_spec (as := as) hwl hp1 hp3 hg1 hg3 hh8 (by decide) fun c9 f9 us M9 g9 hl9 hth hh9 => ?_
    try simp only [w_fn, w_ret, w_seq, w_sif, w_of, w_trn, w_op, w_snil, w_pass, w_retn, w_asg, w_gnm, w_gsb, w_gtp, w_gcn, w_gn0, w_par, w_aug, w_drop, w_c, w_k, w_lst, w_tup, w_and, w_or, w_not, w_neg, w_ifx, w_tand, w_tor, w_tnot, w_cb, w_ck, w_mt, w_cons, w_nil, w_var, w_chain, w_sl, w_osome, w_onone, Pu.w_rev, w_dct0, w_for, w_iseq, w_irg1, w_lc, w_lc2, List.map_cons, List.map_nil, List.cons_append, List.nil_append, List.getElem?_cons_zero, List.getElem?_cons_succ, List.length_cons, List.length_nil, Option.some.injEq, exists_eq_left', w_some, List.replicate, List.set_cons_zero, List.set_cons_succ, frz_nil, frz_dat, frz_new, frz_new0, ne_ss, list_t, mk_nil, mk1, mk2, mk3, U.dat.injEq, PyData.int.injEq, PyData.bool.injEq, PyData.str.injEq, U.cell.injEq, add_ii, sub_ii, lt_ii, le_ii, gt_ii, ge_ii, eq_ii, ne_ii, eq_tt0, ne_tt0, eq_ds, sl_t, len_t, isi_int, isi_bool, isi_str, isi_tup, abs_i, min_ii, max_ii, int_i, int_b, mod_ii, fdiv_ii, mul_ii, pow_ii, add_ss, add_tt, mul1, repr_d, frzU_dat, and_true, true_and, and_assoc, List.cons.injEq, exists_and_left, exists_and_right, exists_eq_left, exists_eq_right, ix_t, ix_s, sl_s, len_s, is_non, Nat.reduceAdd, Nat.reduceSub, sz0, sz1, sz2, sz3, sz4, sz5, sz6, sz7, sz8, sz9, sz10, sz11, sz12, sz13, sz14, sz15, sz16, sz17, sz18, sz19, sz20, sz21, sz22, sz23, sz24, sz25, sz26, sz27, sz28, sz29, sz30]
    refine ⟨.tuple (ws.map .str), rfl, ?_⟩
    simp only [List.length_map, w_fn, w_ret, w_seq, w_sif, w_of, w_trn, w_op, w_snil, w_pass, w_retn, w_asg, w_gnm, w_gsb, w_gtp, w_gcn, w_gn0, w_par, w_aug, w_drop, w_c, w_k, w_lst, w_tup, w_and, w_or, w_not, w_neg, w_ifx, w_tand, w_tor, w_tnot, w_cb, w_ck, w_mt, w_cons, w_nil, w_var, w_chain, w_sl, w_osome, w_onone, Pu.w_rev, w_dct0, w_for, w_iseq, w_irg1, w_lc, w_lc2, List.map_cons, List.map_nil, List.cons_append, List.nil_append, List.getElem?_cons_zero, List.getElem?_cons_succ, List.length_cons, List.length_nil, Option.some.injEq, exists_eq_left', w_some, List.replicate, List.set_cons_zero, List.set_cons_succ, frz_nil, frz_dat, frz_new, frz_new0, ne_ss, list_t, mk_nil, mk1, mk2, mk3, U.dat.injEq, PyData.int.injEq, PyData.bool.injEq, PyData.str.injEq, U.cell.injEq, add_ii, sub_ii, lt_ii, le_ii, gt_ii, ge_ii, eq_ii, ne_ii, eq_tt0, ne_tt0, eq_ds, sl_t, len_t, isi_int, isi_bool, isi_str, isi_tup, abs_i, min_ii, max_ii, int_i, int_b, mod_ii, fdiv_ii, mul_ii, pow_ii, add_ss, add_tt, mul1, repr_d, frzU_dat, and_true, true_and, and_assoc, List.cons.injEq, exists_and_left, exists_and_right, exists_eq_left, exists_eq_right, ix_t, ix_s, sl_s, len_s, is_non, Nat.reduceAdd, Nat.reduceSub, sz0, sz1, sz2, sz3, sz4, sz5, sz6, sz7, sz8, sz9, sz10, sz11, sz12, sz13, sz14, sz15, sz16, sz17, sz18, sz19, sz20, sz21, sz22, sz23, sz24, sz25, sz26, sz27, sz28, sz29, sz30]
    obtain ⟨u10, M10, e10, c10, rfl, g10, s10⟩ := p_allbits hwl M9
    refine ⟨_, M10, e10, _, seq_cell g10, ?_⟩
    have hab : (sortD ((ab ws.length).map rowD)).length ≤ 8 := by
      unfold sortD
      rw [List.length_mergeSort, List.length_map]
      exact ab_len _ hwl
    obtain ⟨M11, e11, s11, g11⟩ := lc_pure (M1 := M10) (ws := cellsOf (.cell c10)) (g := gNm 11) (e := eTup (aCons (eC (.int 0)) (aCons (eC (.int 0)) (aCons (eVar 11) aNil)))) (ρ := wipeR [some (.scr ns), some (.dat (.int j)), some (.cell h), some (.dat (progD ws as phs)), some (.dat (.tuple gs)), some (.dat (.str (PyData.tuple [.int 0, .int 0, .tuple (List.replicate ws.length (.int 0))]).shown)), y6, y7, y8, y9, y10, none, none] [11]) (items := (sortD ((ab ws.length).map rowD)).map .dat) (fun u => match u with | .dat d => .tuple [.int 0, .int 0, d] | _ => .none) (fun c' hc' => by
        have : c' = c10 := by simpa [cellsOf] using hc'
        rw [this]
        exact (List.getElem?_eq_some_iff.mp g10).1) (by rw [List.length_map]; exact big _ (by omega)) (fun u hu M' s => by
      obtain ⟨d, _, rfl⟩ := List.mem_map.mp hu
      simp only [wipeR, w_fn, w_ret, w_seq, w_sif, w_of, w_trn, w_op, w_snil, w_pass, w_retn, w_asg, w_gnm, w_gsb, w_gtp, w_gcn, w_gn0, w_par, w_aug, w_drop, w_c, w_k, w_lst, w_tup, w_and, w_or, w_not, w_neg, w_ifx, w_tand, w_tor, w_tnot, w_cb, w_ck, w_mt, w_cons, w_nil, w_var, w_chain, w_sl, w_osome, w_onone, Pu.w_rev, w_dct0, w_for, w_iseq, w_irg1, w_lc, w_lc2, List.map_cons, List.map_nil, List.cons_append, List.nil_append, List.getElem?_cons_zero, List.getElem?_cons_succ, List.length_cons, List.length_nil, Option.some.injEq, exists_eq_left', w_some, List.replicate, List.set_cons_zero, List.set_cons_succ, frz_nil, frz_dat, frz_new, frz_new0, ne_ss, list_t, mk_nil, mk1, mk2, mk3, U.dat.injEq, PyData.int.injEq, PyData.bool.injEq, PyData.str.injEq, U.cell.injEq, add_ii, sub_ii, lt_ii, le_ii, gt_ii, ge_ii, eq_ii, ne_ii, eq_tt0, ne_tt0, eq_ds, sl_t, len_t, isi_int, isi_bool, isi_str, isi_tup, abs_i, min_ii, max_ii, int_i, int_b, mod_ii, fdiv_ii, mul_ii, pow_ii, add_ss, add_tt, mul_ti, repr_d, frzU_dat, and_true, true_and, and_assoc, List.cons.injEq, exists_and_left, exists_and_right, exists_eq_left, exists_eq_right, ix_t, ix_s, sl_s, len_s, is_non, Nat.reduceAdd, Nat.reduceSub, sz0, sz1, sz2, sz3, sz4, sz5, sz6, sz7, sz8, sz9, sz10, sz11, sz12, sz13, sz14, sz15, sz16, sz17, sz18, sz19, sz20, sz21, sz22, sz23, sz24, sz25, sz26, sz27, sz28, sz29, sz30]
      first | exact ⟨rfl, Same0.refl _⟩ | exact Same0.refl _)
    refine ⟨M11, e11, ?_⟩
    rw [add_ll (lst_cell (s11.get (s10.get g9))) (lst_cell g11)]
    refine ⟨big _ (by simp only [List.length_map]; omega), _, seq_cell (List.getElem?_concat_length ..), ?_⟩
    have hall : Ths (us ++ ((sortD ((ab ws.length).map rowD)).map U.dat).map fun u => U.dat (match u with | .dat d => .tuple [.int 0, .int 0, d] | _ => .none)) := by
      refine hth.app ⟨(sortD ((ab ws.length).map rowD)).map fun d => .tuple [.int 0, .int 0, d], by rw [List.map_map, List.map_map]; rfl, fun x hx => ?_⟩
      obtain ⟨d, hd, rfl⟩ := List.mem_map.mp hx
      obtain ⟨r, hr, rfl⟩ := List.mem_map.mp (sort_mem hd)
      obtain ⟨rl, rb⟩ := ab_mem _ r hr
      have g := gd_bits (ds := r.map PyData.int) (B := 10) (fun d hd => by
        obtain ⟨i, hi, rfl⟩ := List.mem_map.mp hd
        exact ⟨i, rfl, by rcases rb i hi with rfl | rfl <;> decide⟩) (Nat.le_refl _)
      rw [List.length_map, rl] at g
      exact th_of (ga3 (gd_small (n := 2) (i := 0) (by decide) (Nat.le_refl 10)) (gd_small (i := 0) (by decide) (Nat.le_refl _)) g).tuple (by decide) (by omega)
    obtain ⟨ds, eds, pds⟩ := hall
    rw [eds]
    generalize hM12 : M11 ++ [Cell.lst false (ds.map U.dat)] = M12
    have hcl : M11.length < M12.length := by rw [← hM12]; simp
    refine for_inv (InI ns M12 M11.length (some (.dat (.int j))) (some (.cell h)) (some (.dat (.str (PyData.tuple [.int 0, .int 0, .tuple (List.replicate ws.length (.int 0))]).shown))) (progD ws as phs) (.tuple gs)) _ 0 _ _ ⟨⟨y6, y7, y8, y9, y10, rfl⟩, Same0.refl _⟩ ?_ ?_
    · intro i u ρ M13 hi hJ
      obtain ⟨⟨z6, z7, z8, z9, z10, rfl⟩, s13⟩ := hJ
      have hmem := List.mem_of_getElem? hi
      obtain ⟨d, hd, rfl⟩ := List.mem_map.mp hmem
      have td := pds d hd
      have okd := Bd.ok td (by decide) (by decide)
      have hw : d.weight ≤ 90 := td.wt
      simp only [w_fn, w_ret, w_seq, w_sif, w_of, w_trn, w_op, w_snil, w_pass, w_retn, w_asg, w_gnm, w_gsb, w_gtp, w_gcn, w_gn0, w_par, w_aug, w_drop, w_c, w_k, w_lst, w_tup, w_and, w_or, w_not, w_neg, w_ifx, w_tand, w_tor, w_tnot, w_cb, w_ck, w_mt, w_cons, w_nil, w_var, w_chain, w_sl, w_osome, w_onone, Pu.w_rev, w_dct0, w_for, w_iseq, w_irg1, w_lc, w_lc2, List.map_cons, List.map_nil, List.cons_append, List.nil_append, List.getElem?_cons_zero, List.getElem?_cons_succ, List.length_cons, List.length_nil, Option.some.injEq, exists_eq_left', w_some, List.replicate, List.set_cons_zero, List.set_cons_succ, frz_nil, frz_dat, frz_new, frz_new0, ne_ss, list_t, mk_nil, mk1, mk2, mk3, U.dat.injEq, PyData.int.injEq, PyData.bool.injEq, PyData.str.injEq, U.cell.injEq, add_ii, sub_ii, lt_ii, le_ii, gt_ii, ge_ii, eq_ii, ne_ii, eq_tt0, ne_tt0, eq_ds, sl_t, len_t, isi_int, isi_bool, isi_str, isi_tup, abs_i, min_ii, max_ii, int_i, int_b, mod_ii, fdiv_ii, mul_ii, pow_ii, add_ss, add_tt, mul1, repr_d, frzU_dat, and_true, true_and, and_assoc, List.cons.injEq, exists_and_left, exists_and_right, exists_eq_left, exists_eq_right, ix_t, ix_s, sl_s, len_s, is_non, Nat.reduceAdd, Nat.reduceSub, sz0, sz1, sz2, sz3, sz4, sz5, sz6, sz7, sz8, sz9, sz10, sz11, sz12, sz13, sz14, sz15, sz16, sz17, sz18, sz19, sz20, sz21, sz22, sz23, sz24, sz25, sz26, sz27, sz28, sz29, sz30]
      refine ⟨okd, ?_⟩
      obtain ⟨u1, N1, f1, rfl, t1⟩ := p_shade (ws := ws) (as := as) (phs := phs) (gs := gs) M13 hw
      refine ⟨_, N1, f1, ?_⟩
      simp only [kb_is_shadow_2_guard, kb_is_shadow_0_thing_program_guard, w_fn, w_ret, w_seq, w_sif, w_of, w_trn, w_op, w_snil, w_pass, w_retn, w_asg, w_gnm, w_gsb, w_gtp, w_gcn, w_gn0, w_par, w_aug, w_drop, w_c, w_k, w_lst, w_tup, w_and, w_or, w_not, w_neg, w_ifx, w_tand, w_tor, w_tnot, w_cb, w_ck, w_mt, w_cons, w_nil, w_var, w_chain, w_sl, w_osome, w_onone, Pu.w_rev, w_dct0, w_for, w_iseq, w_irg1, w_lc, w_lc2, List.map_cons, List.map_nil, List.cons_append, List.nil_append, List.getElem?_cons_zero, List.getElem?_cons_succ, List.length_cons, List.length_nil, Option.some.injEq, exists_eq_left', w_some, List.replicate, List.set_cons_zero, List.set_cons_succ, frz_nil, frz_dat, frz_new, frz_new0, ne_ss, list_t, mk_nil, mk1, mk2, mk3, U.dat.injEq, PyData.int.injEq, PyData.bool.injEq, PyData.str.injEq, U.cell.injEq, add_ii, sub_ii, lt_ii, le_ii, gt_ii, ge_ii, eq_ii, ne_ii, eq_tt0, ne_tt0, eq_ds, sl_t, len_t, isi_int, isi_bool, isi_str, isi_tup, abs_i, min_ii, max_ii, int_i, int_b, mod_ii, fdiv_ii, mul_ii, pow_ii, add_ss, add_tt, mul1, repr_d, frzU_dat, and_true, true_and, and_assoc, List.cons.injEq, exists_and_left, exists_and_right, exists_eq_left, exists_eq_right, ix_t, ix_s, sl_s, len_s, is_non, Nat.reduceAdd, Nat.reduceSub, sz0, sz1, sz2, sz3, sz4, sz5, sz6, sz7, sz8, sz9, sz10, sz11, sz12, sz13, sz14, sz15, sz16, sz17, sz18, sz19, sz20, sz21, sz22, sz23, sz24, sz25, sz26, sz27, sz28, sz29, sz30]
      obtain ⟨u2, N2, f2, rfl, t2⟩ := p_shadow (ws := ws) (phs := phs) ha4 (gd := .tuple gs) (.inr ⟨gs, rfl⟩) (d := d) N1 hw
      refine ⟨_, N2, f2, ?_⟩
      obtain ⟨u3, N3, f3, rfl, t3⟩ := p_shadow (ws := ws) (phs := phs) ha4 (gd := .tuple gs) (.inr ⟨gs, rfl⟩) (d := d) N2 hw
      refine ⟨_, N3, f3, ?_⟩
      simp only [show gLen (.tuple gs) = gs.length from rfl, w_fn, w_ret, w_seq, w_sif, w_of, w_trn, w_op, w_snil, w_pass, w_retn, w_asg, w_gnm, w_gsb, w_gtp, w_gcn, w_gn0, w_par, w_aug, w_drop, w_c, w_k, w_lst, w_tup, w_and, w_or, w_not, w_neg, w_ifx, w_tand, w_tor, w_tnot, w_cb, w_ck, w_mt, w_cons, w_nil, w_var, w_chain, w_sl, w_osome, w_onone, Pu.w_rev, w_dct0, w_for, w_iseq, w_irg1, w_lc, w_lc2, List.map_cons, List.map_nil, List.cons_append, List.nil_append, List.getElem?_cons_zero, List.getElem?_cons_succ, List.length_cons, List.length_nil, Option.some.injEq, exists_eq_left', w_some, List.replicate, List.set_cons_zero, List.set_cons_succ, frz_nil, frz_dat, frz_new, frz_new0, ne_ss, list_t, mk_nil, mk1, mk2, mk3, U.dat.injEq, PyData.int.injEq, PyData.bool.injEq, PyData.str.injEq, U.cell.injEq, add_ii, sub_ii, lt_ii, le_ii, gt_ii, ge_ii, eq_ii, ne_ii, eq_tt0, ne_tt0, eq_ds, sl_t, len_t, isi_int, isi_bool, isi_str, isi_tup, abs_i, min_ii, max_ii, int_i, int_b, mod_ii, fdiv_ii, mul_ii, pow_ii, add_ss, add_tt, mul1, repr_d, frzU_dat, and_true, true_and, and_assoc, List.cons.injEq, exists_and_left, exists_and_right, exists_eq_left, exists_eq_right, ix_t, ix_s, sl_s, len_s, is_non, Nat.reduceAdd, Nat.reduceSub, sz0, sz1, sz2, sz3, sz4, sz5, sz6, sz7, sz8, sz9, sz10, sz11, sz12, sz13, sz14, sz15, sz16, sz17, sz18, sz19, sz20, sz21, sz22, sz23, sz24, sz25, sz26, sz27, sz28, sz29, sz30]
      generalize shadeD gs.length phs.length ws.length d = v
      have bb := ok_bb v
      refine (repr_c (M := N3 ++ [Cell.lst true [.dat (.bool v), .dat (.bool v)]]) (c := N3.length) (ds := [.bool v, .bool v]) (f := true) (List.getElem?_concat_length ..)).mpr ⟨bb, ?_⟩
      refine (repr_c (M := N3 ++ [Cell.lst true [.dat (.bool v), .dat (.bool v)]] ++ [Cell.lst true [.dat (.bool v), .dat (.bool v)]]) (c := (N3 ++ [Cell.lst true [.dat (.bool v), .dat (.bool v)]]).length) (ds := [.bool v, .bool v]) (f := true) (List.getElem?_concat_length ..)).mpr ⟨bb, ?_⟩
      simp only [decide_true, Bool.not_true, w_fn, w_ret, w_seq, w_sif, w_of, w_trn, w_op, w_snil, w_pass, w_retn, w_asg, w_gnm, w_gsb, w_gtp, w_gcn, w_gn0, w_par, w_aug, w_drop, w_c, w_k, w_lst, w_tup, w_and, w_or, w_not, w_neg, w_ifx, w_tand, w_tor, w_tnot, w_cb, w_ck, w_mt, w_cons, w_nil, w_var, w_chain, w_sl, w_osome, w_onone, Pu.w_rev, w_dct0, w_for, w_iseq, w_irg1, w_lc, w_lc2, List.map_cons, List.map_nil, List.cons_append, List.nil_append, List.getElem?_cons_zero, List.getElem?_cons_succ, List.length_cons, List.length_nil, Option.some.injEq, exists_eq_left', w_some, List.replicate, List.set_cons_zero, List.set_cons_succ, frz_nil, frz_dat, frz_new, frz_new0, ne_ss, list_t, mk_nil, mk1, mk2, mk3, U.dat.injEq, PyData.int.injEq, PyData.bool.injEq, PyData.str.injEq, U.cell.injEq, add_ii, sub_ii, lt_ii, le_ii, gt_ii, ge_ii, eq_ii, ne_ii, eq_tt0, ne_tt0, eq_ds, sl_t, len_t, isi_int, isi_bool, isi_str, isi_tup, abs_i, min_ii, max_ii, int_i, int_b, mod_ii, fdiv_ii, mul_ii, pow_ii, add_ss, add_tt, mul1, repr_d, frzU_dat, and_true, true_and, and_assoc, List.cons.injEq, exists_and_left, exists_and_right, exists_eq_left, exists_eq_right, ix_t, ix_s, sl_s, len_s, is_non, Nat.reduceAdd, Nat.reduceSub, sz0, sz1, sz2, sz3, sz4, sz5, sz6, sz7, sz8, sz9, sz10, sz11, sz12, sz13, sz14, sz15, sz16, sz17, sz18, sz19, sz20, sz21, sz22, sz23, sz24, sz25, sz26, sz27, sz28, sz29, sz30]
      refine ⟨.tuple (as.map actD), rfl, ?_⟩
      rw [e_lfree ha4, w_some]
      generalize hN4 : N3 ++ [Cell.lst true [.dat (.bool v), .dat (.bool v)]] ++ [Cell.lst true [.dat (.bool v), .dat (.bool v)]] = N4
      have t4 : Same0 N3 N4 := by rw [← hN4]; exact (Same0.refl _).app.app
      obtain ⟨u5, N5, f5, rfl, t5⟩ := p_shade (ws := ws) (as := as) (phs := phs) (gs := [.tuple (List.replicate as.length (.int 0))]) N4 hw
      refine ⟨_, N5, f5, ?_⟩
      simp only [w_dfl, List.cons_append, List.nil_append, w_fn, w_ret, w_seq, w_sif, w_of, w_trn, w_op, w_snil, w_pass, w_retn, w_asg, w_gnm, w_gsb, w_gtp, w_gcn, w_gn0, w_par, w_aug, w_drop, w_c, w_k, w_lst, w_tup, w_and, w_or, w_not, w_neg, w_ifx, w_tand, w_tor, w_tnot, w_cb, w_ck, w_mt, w_cons, w_nil, w_var, w_chain, w_sl, w_osome, w_onone, Pu.w_rev, w_dct0, w_for, w_iseq, w_irg1, w_lc, w_lc2, List.map_cons, List.map_nil, List.cons_append, List.nil_append, List.getElem?_cons_zero, List.getElem?_cons_succ, List.length_cons, List.length_nil, Option.some.injEq, exists_eq_left', w_some, List.replicate, List.set_cons_zero, List.set_cons_succ, frz_nil, frz_dat, frz_new, frz_new0, ne_ss, list_t, mk_nil, mk1, mk2, mk3, U.dat.injEq, PyData.int.injEq, PyData.bool.injEq, PyData.str.injEq, U.cell.injEq, add_ii, sub_ii, lt_ii, le_ii, gt_ii, ge_ii, eq_ii, ne_ii, eq_tt0, ne_tt0, eq_ds, sl_t, len_t, isi_int, isi_bool, isi_str, isi_tup, abs_i, min_ii, max_ii, int_i, int_b, mod_ii, fdiv_ii, mul_ii, pow_ii, add_ss, add_tt, mul1, repr_d, frzU_dat, and_true, true_and, and_assoc, List.cons.injEq, exists_and_left, exists_and_right, exists_eq_left, exists_eq_right, ix_t, ix_s, sl_s, len_s, is_non, Nat.reduceAdd, Nat.reduceSub, sz0, sz1, sz2, sz3, sz4, sz5, sz6, sz7, sz8, sz9, sz10, sz11, sz12, sz13, sz14, sz15, sz16, sz17, sz18, sz19, sz20, sz21, sz22, sz23, sz24, sz25, sz26, sz27, sz28, sz29, sz30]
      obtain ⟨u6, N6, f6, rfl, t6⟩ := p_shadow (ws := ws) (phs := phs) ha4 (gd := .none) (.inl rfl) (d := d) N5 hw
      refine ⟨_, N6, f6, ?_⟩
      simp only [show gLen .none = 1 from rfl, show ([PyData.tuple (List.replicate as.length (.int 0))]).length = 1 from rfl, w_fn, w_ret, w_seq, w_sif, w_of, w_trn, w_op, w_snil, w_pass, w_retn, w_asg, w_gnm, w_gsb, w_gtp, w_gcn, w_gn0, w_par, w_aug, w_drop, w_c, w_k, w_lst, w_tup, w_and, w_or, w_not, w_neg, w_ifx, w_tand, w_tor, w_tnot, w_cb, w_ck, w_mt, w_cons, w_nil, w_var, w_chain, w_sl, w_osome, w_onone, Pu.w_rev, w_dct0, w_for, w_iseq, w_irg1, w_lc, w_lc2, List.map_cons, List.map_nil, List.cons_append, List.nil_append, List.getElem?_cons_zero, List.getElem?_cons_succ, List.length_cons, List.length_nil, Option.some.injEq, exists_eq_left', w_some, List.replicate, List.set_cons_zero, List.set_cons_succ, frz_nil, frz_dat, frz_new, frz_new0, ne_ss, list_t, mk_nil, mk1, mk2, mk3, U.dat.injEq, PyData.int.injEq, PyData.bool.injEq, PyData.str.injEq, U.cell.injEq, add_ii, sub_ii, lt_ii, le_ii, gt_ii, ge_ii, eq_ii, ne_ii, eq_tt0, ne_tt0, eq_ds, sl_t, len_t, isi_int, isi_bool, isi_str, isi_tup, abs_i, min_ii, max_ii, int_i, int_b, mod_ii, fdiv_ii, mul_ii, pow_ii, add_ss, add_tt, mul1, repr_d, frzU_dat, and_true, true_and, and_assoc, List.cons.injEq, exists_and_left, exists_and_right, exists_eq_left, exists_eq_right, ix_t, ix_s, sl_s, len_s, is_non, Nat.reduceAdd, Nat.reduceSub, sz0, sz1, sz2, sz3, sz4, sz5, sz6, sz7, sz8, sz9, sz10, sz11, sz12, sz13, sz14, sz15, sz16, sz17, sz18, sz19, sz20, sz21, sz22, sz23, sz24, sz25, sz26, sz27, sz28, sz29, sz30]
      refine ⟨ok_b _, ok_b _, ?_⟩
      simp only [decide_true, Bool.not_true, w_fn, w_ret, w_seq, w_sif, w_of, w_trn, w_op, w_snil, w_pass, w_retn, w_asg, w_gnm, w_gsb, w_gtp, w_gcn, w_gn0, w_par, w_aug, w_drop, w_c, w_k, w_lst, w_tup, w_and, w_or, w_not, w_neg, w_ifx, w_tand, w_tor, w_tnot, w_cb, w_ck, w_mt, w_cons, w_nil, w_var, w_chain, w_sl, w_osome, w_onone, Pu.w_rev, w_dct0, w_for, w_iseq, w_irg1, w_lc, w_lc2, List.map_cons, List.map_nil, List.cons_append, List.nil_append, List.getElem?_cons_zero, List.getElem?_cons_succ, List.length_cons, List.length_nil, Option.some.injEq, exists_eq_left', w_some, List.replicate, List.set_cons_zero, List.set_cons_succ, frz_nil, frz_dat, frz_new, frz_new0, ne_ss, list_t, mk_nil, mk1, mk2, mk3, U.dat.injEq, PyData.int.injEq, PyData.bool.injEq, PyData.str.injEq, U.cell.injEq, add_ii, sub_ii, lt_ii, le_ii, gt_ii, ge_ii, eq_ii, ne_ii, eq_tt0, ne_tt0, eq_ds, sl_t, len_t, isi_int, isi_bool, isi_str, isi_tup, abs_i, min_ii, max_ii, int_i, int_b, mod_ii, fdiv_ii, mul_ii, pow_ii, add_ss, add_tt, mul1, repr_d, frzU_dat, and_true, true_and, and_assoc, List.cons.injEq, exists_and_left, exists_and_right, exists_eq_left, exists_eq_right, ix_t, ix_s, sl_s, len_s, is_non, Nat.reduceAdd, Nat.reduceSub, sz0, sz1, sz2, sz3, sz4, sz5, sz6, sz7, sz8, sz9, sz10, sz11, sz12, sz13, sz14, sz15, sz16, sz17, sz18, sz19, sz20, sz21, sz22, sz23, sz24, sz25, sz26, sz27, sz28, sz29, sz30]
      refine ⟨okd, ?_⟩
      try simp only [decide_true, Bool.not_true, w_fn, w_ret, w_seq, w_sif, w_of, w_trn, w_op, w_snil, w_pass, w_retn, w_asg, w_gnm, w_gsb, w_gtp, w_gcn, w_gn0, w_par, w_aug, w_drop, w_c, w_k, w_lst, w_tup, w_and, w_or, w_not, w_neg, w_ifx, w_tand, w_tor, w_tnot, w_cb, w_ck, w_mt, w_cons, w_nil, w_var, w_chain, w_sl, w_osome, w_onone, Pu.w_rev, w_dct0, w_for, w_iseq, w_irg1, w_lc, w_lc2, List.map_cons, List.map_nil, List.cons_append, List.nil_append, List.getElem?_cons_zero, List.getElem?_cons_succ, List.length_cons, List.length_nil, Option.some.injEq, exists_eq_left', w_some, List.replicate, List.set_cons_zero, List.set_cons_succ, frz_nil, frz_dat, frz_new, frz_new0, ne_ss, list_t, mk_nil, mk1, mk2, mk3, U.dat.injEq, PyData.int.injEq, PyData.bool.injEq, PyData.str.injEq, U.cell.injEq, add_ii, sub_ii, lt_ii, le_ii, gt_ii, ge_ii, eq_ii, ne_ii, eq_tt0, ne_tt0, eq_ds, sl_t, len_t, isi_int, isi_bool, isi_str, isi_tup, abs_i, min_ii, max_ii, int_i, int_b, mod_ii, fdiv_ii, mul_ii, pow_ii, add_ss, add_tt, mul1, repr_d, frzU_dat, and_true, true_and, and_assoc, List.cons.injEq, exists_and_left, exists_and_right, exists_eq_left, exists_eq_right, ix_t, ix_s, sl_s, len_s, is_non, Nat.reduceAdd, Nat.reduceSub, sz0, sz1, sz2, sz3, sz4, sz5, sz6, sz7, sz8, sz9, sz10, sz11, sz12, sz13, sz14, sz15, sz16, sz17, sz18, sz19, sz20, sz21, sz22, sz23, sz24, sz25, sz26, sz27, sz28, sz29, sz30]
      have tt := ((((((s13.trans t1).trans t2).trans t3).trans t4).trans t5).trans t6)
      refine ⟨tt.wt fun c hc => ?_, ⟨_, _, _, _, _, rfl⟩, tt⟩
      have : c = M11.length := by simpa [cellsOf] using hc
      omega
    · intro ρ M13 hJ
      obtain ⟨⟨z6, z7, z8, z9, z10, rfl⟩, s13⟩ := hJ
      exact ⟨fun c hc => (by cases hc), _, _, _, _, _, _, _, _, _, _, rfl⟩
  · intro ρ M hI
    obtain ⟨y1, y2, y3, y4, y5, y6, y7, y8, y9, y10, rfl⟩ := hI
    simp only [w_fn, w_ret, w_seq, w_sif, w_of, w_trn, w_op, w_snil, w_pass, w_retn, w_asg, w_gnm, w_gsb, w_gtp, w_gcn, w_gn0, w_par, w_aug, w_drop, w_c, w_k, w_lst, w_tup, w_and, w_or, w_not, w_neg, w_ifx, w_tand, w_tor, w_tnot, w_cb, w_ck, w_mt, w_cons, w_nil, w_var, w_chain, w_sl, w_osome, w_onone, Pu.w_rev, w_dct0, w_for, w_iseq, w_irg1, w_lc, w_lc2, List.map_cons, List.map_nil, List.cons_append, List.nil_append, List.getElem?_cons_zero, List.getElem?_cons_succ, List.length_cons, List.length_nil, Option.some.injEq, exists_eq_left', w_some, List.replicate, List.set_cons_zero, List.set_cons_succ, frz_nil, frz_dat, frz_new, frz_new0, ne_ss, list_t, mk_nil, mk1, mk2, mk3, U.dat.injEq, PyData.int.injEq, PyData.bool.injEq, PyData.str.injEq, U.cell.injEq, add_ii, sub_ii, lt_ii, le_ii, gt_ii, ge_ii, eq_ii, ne_ii, eq_tt0, ne_tt0, eq_ds, sl_t, len_t, isi_int, isi_bool, isi_str, isi_tup, abs_i, min_ii, max_ii, int_i, int_b, mod_ii, fdiv_ii, mul_ii, pow_ii, add_ss, add_tt, mul_ti, repr_d, frzU_dat, and_true, true_and, and_assoc, List.cons.injEq, exists_and_left, exists_and_right, exists_eq_left, exists_eq_right, ix_t, ix_s, sl_s, len_s, is_non, Nat.reduceAdd, Nat.reduceSub, sz0, sz1, sz2, sz3, sz4, sz5, sz6, sz7, sz8, sz9, sz10, sz11, sz12, sz13, sz14, sz15, sz16, sz17, sz18, sz19, sz20, sz21, sz22, sz23, sz24, sz25, sz26, sz27, sz28, sz29, sz30]
end Z

namespace Z
open PySem PySem.Spec PyProof.Rows L2 Lw Pu
theorem law_true_eq (ns : List Int) (hl : ns.length ≤ 63) {u : U} {M' : Mem} (e : m_law [.scr ns] [] = some (u, M')) : u = .dat (.bool true) := by
  obtain ⟨u', M'', e', h⟩ := law_true ns hl
  rw [e'] at e
  cases e
  exact h
theorem law_true_ne (ns : List Int) (hl : ns.length ≤ 63) : m_law [.scr ns] [] ≠ none := by
  obtain ⟨u', M'', e', h⟩ := law_true ns hl
  rw [e']
  exact fun z => by cases z
theorem kb_under_0_held_bar_vals {vs zs : List V} {us ws : List Value} (r1 : Vals vs us) (r2 : Vals zs ws) : Vals (kb_under_0_held_bar vs zs) (kb_under_0_held_bar us ws) := by
  by_cases h : vs.length = 0 ∧ zs.length = 2
  · match vs, us, zs, ws, r1, r2, h with
    | _, _, _, _, .nil, (.cons hb0 (.cons hb1 .nil)), _ => exact (.cons hb0 (.cons hb1 .nil))
  · have e1 := r1.length
    have e2 := r2.length
    have z1 : kb_under_0_held_bar vs zs = [] := by
      unfold kb_under_0_held_bar
      split
      · exact absurd ⟨rfl, rfl⟩ h
      · rfl
    have z2 : kb_under_0_held_bar us ws = [] := by
      unfold kb_under_0_held_bar
      split
      · exact absurd ⟨by simpa using e1, by simpa using e2⟩ h
      · rfl
    rw [z1, z2]
    exact .nil
theorem kb_under_0_held_bar_none {us ws : List Value} (h : ¬ (us.length = 0 ∧ ws.length = 2)) : kb_under_0_held_bar us ws = [] := by
  unfold kb_under_0_held_bar
  split
  · exact absurd ⟨rfl, rfl⟩ h
  · rfl
theorem kb_first_shadow_0_program_vals {vs zs : List V} {us ws : List Value} (r1 : Vals vs us) (r2 : Vals zs ws) : Vals (kb_first_shadow_0_program vs zs) (kb_first_shadow_0_program us ws) := by
  by_cases h : vs.length = 0 ∧ zs.length = 1
  · match vs, us, zs, ws, r1, r2, h with
    | _, _, _, _, .nil, (.cons hb0 .nil), _ => exact (.cons hb0 .nil)
  · have e1 := r1.length
    have e2 := r2.length
    have z1 : kb_first_shadow_0_program vs zs = [] := by
      unfold kb_first_shadow_0_program
      split
      · exact absurd ⟨rfl, rfl⟩ h
      · rfl
    have z2 : kb_first_shadow_0_program us ws = [] := by
      unfold kb_first_shadow_0_program
      split
      · exact absurd ⟨by simpa using e1, by simpa using e2⟩ h
      · rfl
    rw [z1, z2]
    exact .nil
theorem kb_first_shadow_0_program_none {us ws : List Value} (h : ¬ (us.length = 0 ∧ ws.length = 1)) : kb_first_shadow_0_program us ws = [] := by
  unfold kb_first_shadow_0_program
  split
  · exact absurd ⟨rfl, rfl⟩ h
  · rfl
theorem kb_bit_deeds_0_program_vals {vs zs : List V} {us ws : List Value} (r1 : Vals vs us) (r2 : Vals zs ws) : Vals (kb_bit_deeds_0_program vs zs) (kb_bit_deeds_0_program us ws) := by
  by_cases h : vs.length = 0 ∧ zs.length = 1
  · match vs, us, zs, ws, r1, r2, h with
    | _, _, _, _, .nil, (.cons hb0 .nil), _ => exact (.cons hb0 .nil)
  · have e1 := r1.length
    have e2 := r2.length
    have z1 : kb_bit_deeds_0_program vs zs = [] := by
      unfold kb_bit_deeds_0_program
      split
      · exact absurd ⟨rfl, rfl⟩ h
      · rfl
    have z2 : kb_bit_deeds_0_program us ws = [] := by
      unfold kb_bit_deeds_0_program
      split
      · exact absurd ⟨by simpa using e1, by simpa using e2⟩ h
      · rfl
    rw [z1, z2]
    exact .nil
theorem kb_bit_deeds_0_program_none {us ws : List Value} (h : ¬ (us.length = 0 ∧ ws.length = 1)) : kb_bit_deeds_0_program us ws = [] := by
  unfold kb_bit_deeds_0_program
  split
  · exact absurd ⟨rfl, rfl⟩ h
  · rfl
theorem kb_is_shadow_0_thing_program_guard_vals {vs zs : List V} {us ws : List Value} (r1 : Vals vs us) (r2 : Vals zs ws) : Vals (kb_is_shadow_0_thing_program_guard vs zs) (kb_is_shadow_0_thing_program_guard us ws) := by
  by_cases h : vs.length = 0 ∧ zs.length = 3
  · match vs, us, zs, ws, r1, r2, h with
    | _, _, _, _, .nil, (.cons hb0 (.cons hb1 (.cons hb2 .nil))), _ => exact (.cons hb1 (.cons hb0 (.cons hb2 .nil)))
  · have e1 := r1.length
    have e2 := r2.length
    have z1 : kb_is_shadow_0_thing_program_guard vs zs = [] := by
      unfold kb_is_shadow_0_thing_program_guard
      split
      · exact absurd ⟨rfl, rfl⟩ h
      · rfl
    have z2 : kb_is_shadow_0_thing_program_guard us ws = [] := by
      unfold kb_is_shadow_0_thing_program_guard
      split
      · exact absurd ⟨by simpa using e1, by simpa using e2⟩ h
      · rfl
    rw [z1, z2]
    exact .nil
theorem kb_is_shadow_0_thing_program_guard_none {us ws : List Value} (h : ¬ (us.length = 0 ∧ ws.length = 3)) : kb_is_shadow_0_thing_program_guard us ws = [] := by
  unfold kb_is_shadow_0_thing_program_guard
  split
  · exact absurd ⟨rfl, rfl⟩ h
  · rfl
theorem kb_is_shadow_2_guard_vals {vs zs : List V} {us ws : List Value} (r1 : Vals vs us) (r2 : Vals zs ws) : Vals (kb_is_shadow_2_guard vs zs) (kb_is_shadow_2_guard us ws) := by
  by_cases h : vs.length = 2 ∧ zs.length = 1
  · match vs, us, zs, ws, r1, r2, h with
    | _, _, _, _, (.cons ha0 (.cons ha1 .nil)), (.cons hb0 .nil), _ => exact (.cons ha0 (.cons ha1 (.cons hb0 .nil)))
  · have e1 := r1.length
    have e2 := r2.length
    have z1 : kb_is_shadow_2_guard vs zs = [] := by
      unfold kb_is_shadow_2_guard
      split
      · exact absurd ⟨rfl, rfl⟩ h
      · rfl
    have z2 : kb_is_shadow_2_guard us ws = [] := by
      unfold kb_is_shadow_2_guard
      split
      · exact absurd ⟨by simpa using e1, by simpa using e2⟩ h
      · rfl
    rw [z1, z2]
    exact .nil
theorem kb_is_shadow_2_guard_none {us ws : List Value} (h : ¬ (us.length = 2 ∧ ws.length = 1)) : kb_is_shadow_2_guard us ws = [] := by
  unfold kb_is_shadow_2_guard
  split
  · exact absurd ⟨rfl, rfl⟩ h
  · rfl
theorem bdn_is_shadow {K : PySem.W.Frag} {f kD : Addr} {oc doc pm cd ct : Value} {od an : Option Addr} {sl : Array (Option Value)} (l : K.lookup f = some ⟨oc, od, .func (PySem.W.fnOf "is_shadow" "is_shadow" (defArgs s_is_shadow) (defBody s_is_shadow) (defScope s_is_shadow) .none (.ref kD) doc pm an cd ct), sl⟩) (hk : PySem.W.nsIn K kD "guard" = some (some .none)) :
    Binds K (PySem.W.fnOf "is_shadow" "is_shadow" (defArgs s_is_shadow) (defBody s_is_shadow) (defScope s_is_shadow) .none (.ref kD) doc pm an cd ct) ["program", "thing", "guard"] [.none] := by
  intro s us X hlen
  match us, hlen with
  | [_, _], _ =>
    refine L2.BindsTo.of_looks fun M => L2.KwChain.looks (D := kD) (l := [("guard", .none)]) X (fun q hq => ?_) ?_
    · rw [List.mem_singleton.mp hq]
      exact hk
    · exact ⟨_, _, _, _, _, _, rfl, rfl, rfl⟩
  | [], h => simp at h
  | [_], h => simp at h
  | _ :: _ :: _ :: _, h => simp at h
set_option maxHeartbeats 0 in
theorem all_mk {l : PySem.W.OpenLaw} {w : World} {K : PySem.W.Frag} {h : Heap} {mg : Str → Option Value} {fa f0 f1 f2 f3 f4 f5 f6 f7 f8 f9 f10 f11 f12 f13 f14 f15 f16 f17 f18 f19 f20 f21 f22 f23 f24 f25 f26 f27 f28 f29 kD7 : Addr} {od0 an0 od1 an1 od2 an2 od3 an3 od4 an4 od5 an5 od6 an6 od7 an7 od8 an8 od9 an9 od10 an10 od11 an11 od12 an12 od13 an13 od14 an14 od15 an15 od16 an16 od17 an17 od18 an18 od19 an19 od20 an20 od21 an21 od22 an22 od23 an23 od24 an24 od25 an25 od26 an26 od27 an27 od28 an28 od29 an29 : Option Addr} {sl0 sl1 sl2 sl3 sl4 sl5 sl6 sl7 sl8 sl9 sl10 sl11 sl12 sl13 sl14 sl15 sl16 sl17 sl18 sl19 sl20 sl21 sl22 sl23 sl24 sl25 sl26 sl27 sl28 sl29 : Array (Option Value)} {oc0 kV0 dc0 pm0 cd0 ct0 oc1 kV1 dc1 pm1 cd1 ct1 oc2 kV2 dc2 pm2 cd2 ct2 oc3 kV3 dc3 pm3 cd3 ct3 oc4 kV4 dc4 pm4 cd4 ct4 oc5 kV5 dc5 pm5 cd5 ct5 oc6 kV6 dc6 pm6 cd6 ct6 oc7 dc7 pm7 cd7 ct7 oc8 kV8 dc8 pm8 cd8 ct8 oc9 kV9 dc9 pm9 cd9 ct9 oc10 kV10 dc10 pm10 cd10 ct10 oc11 kV11 dc11 pm11 cd11 ct11 oc12 kV12 dc12 pm12 cd12 ct12 oc13 kV13 dc13 pm13 cd13 ct13 oc14 kV14 dc14 pm14 cd14 ct14 oc15 kV15 dc15 pm15 cd15 ct15 oc16 kV16 dc16 pm16 cd16 ct16 oc17 kV17 dc17 pm17 cd17 ct17 oc18 kV18 dc18 pm18 cd18 ct18 oc19 kV19 dc19 pm19 cd19 ct19 oc20 kV20 dc20 pm20 cd20 ct20 oc21 kV21 dc21 pm21 cd21 ct21 oc22 kV22 dc22 pm22 cd22 ct22 oc23 kV23 dc23 pm23 cd23 ct23 oc24 kV24 dc24 pm24 cd24 ct24 oc25 kV25 dc25 pm25 cd25 ct25 oc26 kV26 dc26 pm26 cd26 ct26 oc27 kV27 dc27 pm27 cd27 ct27 oc28 kV28 dc28 pm28 cd28 ct28 oc29 kV29 dc29 pm29 cd29 ct29 : Value}
    (X : K.In h) (G : h.Ns mainGlobals mg) (hfa : mg "law" = some (.ref fa))
    (a0 : PySem.W.nsIn K mainGlobals "is_whole" = some (some (.ref f0)))
    (l0 : K.lookup f0 = some ⟨oc0, od0, .func (PySem.W.fnOf "is_whole" "is_whole" (defArgs s_is_whole) (defBody s_is_whole) (defScope s_is_whole) .none kV0 dc0 pm0 an0 cd0 ct0), sl0⟩)
    (c0 : PySem.W.codeIn K cd0 "is_whole" = true) (k0 : PySem.W.keepIn K (.ref f0) = true)
    (a1 : PySem.W.nsIn K mainGlobals "is_within" = some (some (.ref f1)))
    (l1 : K.lookup f1 = some ⟨oc1, od1, .func (PySem.W.fnOf "is_within" "is_within" (defArgs s_is_within) (defBody s_is_within) (defScope s_is_within) .none kV1 dc1 pm1 an1 cd1 ct1), sl1⟩)
    (c1 : PySem.W.codeIn K cd1 "is_within" = true) (k1 : PySem.W.keepIn K (.ref f1) = true)
    (a2 : PySem.W.nsIn K mainGlobals "is_bit" = some (some (.ref f2)))
    (l2 : K.lookup f2 = some ⟨oc2, od2, .func (PySem.W.fnOf "is_bit" "is_bit" (defArgs s_is_bit) (defBody s_is_bit) (defScope s_is_bit) .none kV2 dc2 pm2 an2 cd2 ct2), sl2⟩)
    (c2 : PySem.W.codeIn K cd2 "is_bit" = true) (k2 : PySem.W.keepIn K (.ref f2) = true)
    (a3 : PySem.W.nsIn K mainGlobals "is_row" = some (some (.ref f3)))
    (l3 : K.lookup f3 = some ⟨oc3, od3, .func (PySem.W.fnOf "is_row" "is_row" (defArgs s_is_row) (defBody s_is_row) (defScope s_is_row) .none kV3 dc3 pm3 an3 cd3 ct3), sl3⟩)
    (c3 : PySem.W.codeIn K cd3 "is_row" = true) (k3 : PySem.W.keepIn K (.ref f3) = true)
    (a4 : PySem.W.nsIn K mainGlobals "free" = some (some (.ref f4)))
    (l4 : K.lookup f4 = some ⟨oc4, od4, .func (PySem.W.fnOf "free" "free" (defArgs s_free) (defBody s_free) (defScope s_free) .none kV4 dc4 pm4 an4 cd4 ct4), sl4⟩)
    (c4 : PySem.W.codeIn K cd4 "free" = true) (k4 : PySem.W.keepIn K (.ref f4) = true)
    (a5 : PySem.W.nsIn K mainGlobals "guard_or_free" = some (some (.ref f5)))
    (l5 : K.lookup f5 = some ⟨oc5, od5, .func (PySem.W.fnOf "guard_or_free" "guard_or_free" (defArgs s_guard_or_free) (defBody s_guard_or_free) (defScope s_guard_or_free) .none kV5 dc5 pm5 an5 cd5 ct5), sl5⟩)
    (c5 : PySem.W.codeIn K cd5 "guard_or_free" = true) (k5 : PySem.W.keepIn K (.ref f5) = true)
    (a6 : PySem.W.nsIn K mainGlobals "under" = some (some (.ref f6)))
    (l6 : K.lookup f6 = some ⟨oc6, od6, .func (PySem.W.fnOf "under" "under" (defArgs s_under) (defBody s_under) (defScope s_under) .none kV6 dc6 pm6 an6 cd6 ct6), sl6⟩)
    (c6 : PySem.W.codeIn K cd6 "under" = true) (k6 : PySem.W.keepIn K (.ref f6) = true)
    (a7 : PySem.W.nsIn K mainGlobals "is_shadow" = some (some (.ref f7)))
    (l7 : K.lookup f7 = some ⟨oc7, od7, .func (PySem.W.fnOf "is_shadow" "is_shadow" (defArgs s_is_shadow) (defBody s_is_shadow) (defScope s_is_shadow) .none (.ref kD7) dc7 pm7 an7 cd7 ct7), sl7⟩)
    (c7 : PySem.W.codeIn K cd7 "is_shadow" = true) (k7 : PySem.W.keepIn K (.ref f7) = true)
    (dd7 : PySem.W.nsIn K kD7 "guard" = some (some .none))
    (a8 : PySem.W.nsIn K mainGlobals "first_shadow" = some (some (.ref f8)))
    (l8 : K.lookup f8 = some ⟨oc8, od8, .func (PySem.W.fnOf "first_shadow" "first_shadow" (defArgs s_first_shadow) (defBody s_first_shadow) (defScope s_first_shadow) .none kV8 dc8 pm8 an8 cd8 ct8), sl8⟩)
    (c8 : PySem.W.codeIn K cd8 "first_shadow" = true) (k8 : PySem.W.keepIn K (.ref f8) = true)
    (a9 : PySem.W.nsIn K mainGlobals "bit_deeds" = some (some (.ref f9)))
    (l9 : K.lookup f9 = some ⟨oc9, od9, .func (PySem.W.fnOf "bit_deeds" "bit_deeds" (defArgs s_bit_deeds) (defBody s_bit_deeds) (defScope s_bit_deeds) .none kV9 dc9 pm9 an9 cd9 ct9), sl9⟩)
    (c9 : PySem.W.codeIn K cd9 "bit_deeds" = true) (k9 : PySem.W.keepIn K (.ref f9) = true)
    (a10 : PySem.W.nsIn K mainGlobals "bit_rows" = some (some (.ref f10)))
    (l10 : K.lookup f10 = some ⟨oc10, od10, .func (PySem.W.fnOf "bit_rows" "bit_rows" (defArgs s_bit_rows) (defBody s_bit_rows) (defScope s_bit_rows) .none kV10 dc10 pm10 an10 cd10 ct10), sl10⟩)
    (c10 : PySem.W.codeIn K cd10 "bit_rows" = true) (k10 : PySem.W.keepIn K (.ref f10) = true)
    (a11 : PySem.W.nsIn K mainGlobals "_law_hand" = some (some (.ref f11)))
    (l11 : K.lookup f11 = some ⟨oc11, od11, .func (PySem.W.fnOf "_law_hand" "_law_hand" (defArgs s__law_hand) (defBody s__law_hand) (defScope s__law_hand) .none kV11 dc11 pm11 an11 cd11 ct11), sl11⟩)
    (c11 : PySem.W.codeIn K cd11 "_law_hand" = true) (k11 : PySem.W.keepIn K (.ref f11) = true)
    (a12 : PySem.W.nsIn K mainGlobals "_law_take" = some (some (.ref f12)))
    (l12 : K.lookup f12 = some ⟨oc12, od12, .func (PySem.W.fnOf "_law_take" "_law_take" (defArgs s__law_take) (defBody s__law_take) (defScope s__law_take) .none kV12 dc12 pm12 an12 cd12 ct12), sl12⟩)
    (c12 : PySem.W.codeIn K cd12 "_law_take" = true) (k12 : PySem.W.keepIn K (.ref f12) = true)
    (a13 : PySem.W.nsIn K mainGlobals "_law_of" = some (some (.ref f13)))
    (l13 : K.lookup f13 = some ⟨oc13, od13, .func (PySem.W.fnOf "_law_of" "_law_of" (defArgs s__law_of) (defBody s__law_of) (defScope s__law_of) .none kV13 dc13 pm13 an13 cd13 ct13), sl13⟩)
    (c13 : PySem.W.codeIn K cd13 "_law_of" = true) (k13 : PySem.W.keepIn K (.ref f13) = true)
    (a14 : PySem.W.nsIn K mainGlobals "_law_names" = some (some (.ref f14)))
    (l14 : K.lookup f14 = some ⟨oc14, od14, .func (PySem.W.fnOf "_law_names" "_law_names" (defArgs s__law_names) (defBody s__law_names) (defScope s__law_names) .none kV14 dc14 pm14 an14 cd14 ct14), sl14⟩)
    (c14 : PySem.W.codeIn K cd14 "_law_names" = true) (k14 : PySem.W.keepIn K (.ref f14) = true)
    (a15 : PySem.W.nsIn K mainGlobals "_law_pick" = some (some (.ref f15)))
    (l15 : K.lookup f15 = some ⟨oc15, od15, .func (PySem.W.fnOf "_law_pick" "_law_pick" (defArgs s__law_pick) (defBody s__law_pick) (defScope s__law_pick) .none kV15 dc15 pm15 an15 cd15 ct15), sl15⟩)
    (c15 : PySem.W.codeIn K cd15 "_law_pick" = true) (k15 : PySem.W.keepIn K (.ref f15) = true)
    (a16 : PySem.W.nsIn K mainGlobals "_law_prog" = some (some (.ref f16)))
    (l16 : K.lookup f16 = some ⟨oc16, od16, .func (PySem.W.fnOf "_law_prog" "_law_prog" (defArgs s__law_prog) (defBody s__law_prog) (defScope s__law_prog) .none kV16 dc16 pm16 an16 cd16 ct16), sl16⟩)
    (c16 : PySem.W.codeIn K cd16 "_law_prog" = true) (k16 : PySem.W.keepIn K (.ref f16) = true)
    (a17 : PySem.W.nsIn K mainGlobals "_law_phase" = some (some (.ref f17)))
    (l17 : K.lookup f17 = some ⟨oc17, od17, .func (PySem.W.fnOf "_law_phase" "_law_phase" (defArgs s__law_phase) (defBody s__law_phase) (defScope s__law_phase) .none kV17 dc17 pm17 an17 cd17 ct17), sl17⟩)
    (c17 : PySem.W.codeIn K cd17 "_law_phase" = true) (k17 : PySem.W.keepIn K (.ref f17) = true)
    (a18 : PySem.W.nsIn K mainGlobals "_law_gate" = some (some (.ref f18)))
    (l18 : K.lookup f18 = some ⟨oc18, od18, .func (PySem.W.fnOf "_law_gate" "_law_gate" (defArgs s__law_gate) (defBody s__law_gate) (defScope s__law_gate) .none kV18 dc18 pm18 an18 cd18 ct18), sl18⟩)
    (c18 : PySem.W.codeIn K cd18 "_law_gate" = true) (k18 : PySem.W.keepIn K (.ref f18) = true)
    (a19 : PySem.W.nsIn K mainGlobals "_law_number" = some (some (.ref f19)))
    (l19 : K.lookup f19 = some ⟨oc19, od19, .func (PySem.W.fnOf "_law_number" "_law_number" (defArgs s__law_number) (defBody s__law_number) (defScope s__law_number) .none kV19 dc19 pm19 an19 cd19 ct19), sl19⟩)
    (c19 : PySem.W.codeIn K cd19 "_law_number" = true) (k19 : PySem.W.keepIn K (.ref f19) = true)
    (a20 : PySem.W.nsIn K mainGlobals "_law_letters" = some (some (.ref f20)))
    (l20 : K.lookup f20 = some ⟨oc20, od20, .func (PySem.W.fnOf "_law_letters" "_law_letters" (defArgs s__law_letters) (defBody s__law_letters) (defScope s__law_letters) .none kV20 dc20 pm20 an20 cd20 ct20), sl20⟩)
    (c20 : PySem.W.codeIn K cd20 "_law_letters" = true) (k20 : PySem.W.keepIn K (.ref f20) = true)
    (a21 : PySem.W.nsIn K mainGlobals "_law_all_bits" = some (some (.ref f21)))
    (l21 : K.lookup f21 = some ⟨oc21, od21, .func (PySem.W.fnOf "_law_all_bits" "_law_all_bits" (defArgs s__law_all_bits) (defBody s__law_all_bits) (defScope s__law_all_bits) .none kV21 dc21 pm21 an21 cd21 ct21), sl21⟩)
    (c21 : PySem.W.codeIn K cd21 "_law_all_bits" = true) (k21 : PySem.W.keepIn K (.ref f21) = true)
    (a22 : PySem.W.nsIn K mainGlobals "_law_free" = some (some (.ref f22)))
    (l22 : K.lookup f22 = some ⟨oc22, od22, .func (PySem.W.fnOf "_law_free" "_law_free" (defArgs s__law_free) (defBody s__law_free) (defScope s__law_free) .none kV22 dc22 pm22 an22 cd22 ct22), sl22⟩)
    (c22 : PySem.W.codeIn K cd22 "_law_free" = true) (k22 : PySem.W.keepIn K (.ref f22) = true)
    (a23 : PySem.W.nsIn K mainGlobals "_law_note" = some (some (.ref f23)))
    (l23 : K.lookup f23 = some ⟨oc23, od23, .func (PySem.W.fnOf "_law_note" "_law_note" (defArgs s__law_note) (defBody s__law_note) (defScope s__law_note) .none kV23 dc23 pm23 an23 cd23 ct23), sl23⟩)
    (c23 : PySem.W.codeIn K cd23 "_law_note" = true) (k23 : PySem.W.keepIn K (.ref f23) = true)
    (a24 : PySem.W.nsIn K mainGlobals "_law_is_one" = some (some (.ref f24)))
    (l24 : K.lookup f24 = some ⟨oc24, od24, .func (PySem.W.fnOf "_law_is_one" "_law_is_one" (defArgs s__law_is_one) (defBody s__law_is_one) (defScope s__law_is_one) .none kV24 dc24 pm24 an24 cd24 ct24), sl24⟩)
    (c24 : PySem.W.codeIn K cd24 "_law_is_one" = true) (k24 : PySem.W.keepIn K (.ref f24) = true)
    (a25 : PySem.W.nsIn K mainGlobals "_law_bars_right" = some (some (.ref f25)))
    (l25 : K.lookup f25 = some ⟨oc25, od25, .func (PySem.W.fnOf "_law_bars_right" "_law_bars_right" (defArgs s__law_bars_right) (defBody s__law_bars_right) (defScope s__law_bars_right) .none kV25 dc25 pm25 an25 cd25 ct25), sl25⟩)
    (c25 : PySem.W.codeIn K cd25 "_law_bars_right" = true) (k25 : PySem.W.keepIn K (.ref f25) = true)
    (a26 : PySem.W.nsIn K mainGlobals "_law_below" = some (some (.ref f26)))
    (l26 : K.lookup f26 = some ⟨oc26, od26, .func (PySem.W.fnOf "_law_below" "_law_below" (defArgs s__law_below) (defBody s__law_below) (defScope s__law_below) .none kV26 dc26 pm26 an26 cd26 ct26), sl26⟩)
    (c26 : PySem.W.codeIn K cd26 "_law_below" = true) (k26 : PySem.W.keepIn K (.ref f26) = true)
    (a27 : PySem.W.nsIn K mainGlobals "_law_is_shade" = some (some (.ref f27)))
    (l27 : K.lookup f27 = some ⟨oc27, od27, .func (PySem.W.fnOf "_law_is_shade" "_law_is_shade" (defArgs s__law_is_shade) (defBody s__law_is_shade) (defScope s__law_is_shade) .none kV27 dc27 pm27 an27 cd27 ct27), sl27⟩)
    (c27 : PySem.W.codeIn K cd27 "_law_is_shade" = true) (k27 : PySem.W.keepIn K (.ref f27) = true)
    (a28 : PySem.W.nsIn K mainGlobals "_law_things" = some (some (.ref f28)))
    (l28 : K.lookup f28 = some ⟨oc28, od28, .func (PySem.W.fnOf "_law_things" "_law_things" (defArgs s__law_things) (defBody s__law_things) (defScope s__law_things) .none kV28 dc28 pm28 an28 cd28 ct28), sl28⟩)
    (c28 : PySem.W.codeIn K cd28 "_law_things" = true) (k28 : PySem.W.keepIn K (.ref f28) = true)
    (a29 : PySem.W.nsIn K mainGlobals "law" = some (some (.ref f29)))
    (l29 : K.lookup f29 = some ⟨oc29, od29, .func (PySem.W.fnOf "law" "law" (defArgs s_law) (defBody s_law) (defScope s_law) .none kV29 dc29 pm29 an29 cd29 ct29), sl29⟩)
    (c29 : PySem.W.codeIn K cd29 "law" = true) (k29 : PySem.W.keepIn K (.ref f29) = true)
    (z0 : PySem.W.nsIn K mainGlobals "abs" = some none)
    (z1 : PySem.W.nsIn K mainGlobals "all" = some none)
    (z2 : PySem.W.nsIn K mainGlobals "bool" = some none)
    (z3 : PySem.W.nsIn K mainGlobals "int" = some none)
    (z4 : PySem.W.nsIn K mainGlobals "isinstance" = some none)
    (z5 : PySem.W.nsIn K mainGlobals "len" = some none)
    (z6 : PySem.W.nsIn K mainGlobals "list" = some none)
    (z7 : PySem.W.nsIn K mainGlobals "max" = some none)
    (z8 : PySem.W.nsIn K mainGlobals "min" = some none)
    (z9 : PySem.W.nsIn K mainGlobals "range" = some none)
    (z10 : PySem.W.nsIn K mainGlobals "repr" = some none)
    (z11 : PySem.W.nsIn K mainGlobals "sorted" = some none)
    (z12 : PySem.W.nsIn K mainGlobals "tuple" = some none)
    (z13 : PySem.W.nsIn K mainGlobals "zip" = some none) :
    ∃ fd : FuncData, (∀ (s : Shared) (v : Value), BindsTo s fd ⟨[v], []⟩ [("_law_script", v)]) ∧ ∀ base : Heap, K.In base → base.Ns mainGlobals mg → FnG l.prog w K mg base 9 fa fd ["_law_script"] (spOf K m_law) := by
  have e := hfa.symm.trans (PySem.W.mg_of X G a29)
  cases e
  have F0 := fun_mk (st := s_is_whole) l0 c0 k0
  have b0 := F0.binds (ps := ["thing"]) fun _ _ _ _ _ _ us hl => match us, hl with | [_], _ => rfl
  have F1 := fun_mk (st := s_is_within) l1 c1 k1
  have b1 := F1.binds (ps := ["thing", "least", "most"]) fun _ _ _ _ _ _ us hl => match us, hl with | [_, _, _], _ => rfl
  have F2 := fun_mk (st := s_is_bit) l2 c2 k2
  have b2 := F2.binds (ps := ["thing"]) fun _ _ _ _ _ _ us hl => match us, hl with | [_], _ => rfl
  have F3 := fun_mk (st := s_is_row) l3 c3 k3
  have b3 := F3.binds (ps := ["thing", "least", "most"]) fun _ _ _ _ _ _ us hl => match us, hl with | [_, _, _], _ => rfl
  have F4 := fun_mk (st := s_free) l4 c4 k4
  have b4 := F4.binds (ps := ["deeds"]) fun _ _ _ _ _ _ us hl => match us, hl with | [_], _ => rfl
  have F5 := fun_mk (st := s_guard_or_free) l5 c5 k5
  have b5 := F5.binds (ps := ["program", "guard"]) fun _ _ _ _ _ _ us hl => match us, hl with | [_, _], _ => rfl
  have F6 := fun_mk (st := s_under) l6 c6 k6
  have b6 := F6.binds (ps := ["held", "bar"]) fun _ _ _ _ _ _ us hl => match us, hl with | [_, _], _ => rfl
  have F7 := fun_mk (st := s_is_shadow) l7 c7 k7
  have F8 := fun_mk (st := s_first_shadow) l8 c8 k8
  have b8 := F8.binds (ps := ["program"]) fun _ _ _ _ _ _ us hl => match us, hl with | [_], _ => rfl
  have F9 := fun_mk (st := s_bit_deeds) l9 c9 k9
  have b9 := F9.binds (ps := ["program"]) fun _ _ _ _ _ _ us hl => match us, hl with | [_], _ => rfl
  have F10 := fun_mk (st := s_bit_rows) l10 c10 k10
  have b10 := F10.binds (ps := ["many"]) fun _ _ _ _ _ _ us hl => match us, hl with | [_], _ => rfl
  have F11 := fun_mk (st := s__law_hand) l11 c11 k11
  have b11 := F11.binds (ps := ["_law_script", "_law_nth"]) fun _ _ _ _ _ _ us hl => match us, hl with | [_, _], _ => rfl
  have F12 := fun_mk (st := s__law_take) l12 c12 k12
  have b12 := F12.binds (ps := ["_law_hand_here", "_law_upon"]) fun _ _ _ _ _ _ us hl => match us, hl with | [_, _], _ => rfl
  have F13 := fun_mk (st := s__law_of) l13 c13 k13
  have b13 := F13.binds (ps := ["_law_hand_here", "_law_some"]) fun _ _ _ _ _ _ us hl => match us, hl with | [_, _], _ => rfl
  have F14 := fun_mk (st := s__law_names) l14 c14 k14
  have b14 := F14.binds (ps := ["_law_hand_here", "_law_count"]) fun _ _ _ _ _ _ us hl => match us, hl with | [_, _], _ => rfl
  have F15 := fun_mk (st := s__law_pick) l15 c15 k15
  have b15 := F15.binds (ps := ["_law_hand_here", "_law_rooms", "_law_count", "_law_left"]) fun _ _ _ _ _ _ us hl => match us, hl with | [_, _, _, _], _ => rfl
  have F16 := fun_mk (st := s__law_prog) l16 c16 k16
  have b16 := F16.binds (ps := ["_law_hand_here", "_law_rooms", "_law_phases", "_law_most_came"]) fun _ _ _ _ _ _ us hl => match us, hl with | [_, _, _, _], _ => rfl
  have F17 := fun_mk (st := s__law_phase) l17 c17 k17
  have b17 := F17.binds (ps := ["_law_hand_here", "_law_names_here", "_law_acts", "_law_phases"]) fun _ _ _ _ _ _ us hl => match us, hl with | [_, _, _, _], _ => rfl
  have F18 := fun_mk (st := s__law_gate) l18 c18 k18
  have b18 := F18.binds (ps := ["_law_hand_here", "_law_acts", "_law_most_places"]) fun _ _ _ _ _ _ us hl => match us, hl with | [_, _, _], _ => rfl
  have F19 := fun_mk (st := s__law_number) l19 c19 k19
  have b19 := F19.binds (ps := ["_law_hand_here"]) fun _ _ _ _ _ _ us hl => match us, hl with | [_], _ => rfl
  have F20 := fun_mk (st := s__law_letters) l20 c20 k20
  have b20 := F20.binds (ps := ["_law_acts"]) fun _ _ _ _ _ _ us hl => match us, hl with | [_], _ => rfl
  have F21 := fun_mk (st := s__law_all_bits) l21 c21 k21
  have b21 := F21.binds (ps := ["_law_count"]) fun _ _ _ _ _ _ us hl => match us, hl with | [_], _ => rfl
  have F22 := fun_mk (st := s__law_free) l22 c22 k22
  have b22 := F22.binds (ps := ["_law_acts"]) fun _ _ _ _ _ _ us hl => match us, hl with | [_], _ => rfl
  have F23 := fun_mk (st := s__law_note) l23 c23 k23
  have b23 := F23.binds (ps := ["_law_hand_here"]) fun _ _ _ _ _ _ us hl => match us, hl with | [_], _ => rfl
  have F24 := fun_mk (st := s__law_is_one) l24 c24 k24
  have b24 := F24.binds (ps := ["_law_note_here", "_law_line"]) fun _ _ _ _ _ _ us hl => match us, hl with | [_, _], _ => rfl
  have F25 := fun_mk (st := s__law_bars_right) l25 c25 k25
  have b25 := F25.binds (ps := ["_law_hand_here"]) fun _ _ _ _ _ _ us hl => match us, hl with | [_], _ => rfl
  have F26 := fun_mk (st := s__law_below) l26 c26 k26
  have b26 := F26.binds (ps := ["_law_one", "_law_most"]) fun _ _ _ _ _ _ us hl => match us, hl with | [_, _], _ => rfl
  have F27 := fun_mk (st := s__law_is_shade) l27 c27 k27
  have b27 := F27.binds (ps := ["_law_prog_here", "_law_gate_here", "_law_one"]) fun _ _ _ _ _ _ us hl => match us, hl with | [_, _, _], _ => rfl
  have F28 := fun_mk (st := s__law_things) l28 c28 k28
  have b28 := F28.binds (ps := ["_law_hand_here", "_law_prog_here", "_law_gate_here"]) fun _ _ _ _ _ _ us hl => match us, hl with | [_, _, _], _ => rfl
  have F29 := fun_mk (st := s_law) l29 c29 k29
  have b29 := F29.binds (ps := ["_law_script"]) fun _ _ _ _ _ _ us hl => match us, hl with | [_], _ => rfl
  let T : Txt K mg := {
    f_is_whole := f0, fd_is_whole := _, F_is_whole := F0, g_is_whole := PySem.W.mg_of X G a0, b_is_whole := b0,
    f_is_within := f1, fd_is_within := _, F_is_within := F1, g_is_within := PySem.W.mg_of X G a1, b_is_within := b1,
    f_is_bit := f2, fd_is_bit := _, F_is_bit := F2, g_is_bit := PySem.W.mg_of X G a2, b_is_bit := b2,
    f_is_row := f3, fd_is_row := _, F_is_row := F3, g_is_row := PySem.W.mg_of X G a3, b_is_row := b3,
    f_free := f4, fd_free := _, F_free := F4, g_free := PySem.W.mg_of X G a4, b_free := b4,
    f_guard_or_free := f5, fd_guard_or_free := _, F_guard_or_free := F5, g_guard_or_free := PySem.W.mg_of X G a5, b_guard_or_free := b5,
    f_under := f6, fd_under := _, F_under := F6, g_under := PySem.W.mg_of X G a6, b_under := b6,
    f_is_shadow := f7, fd_is_shadow := _, F_is_shadow := F7, g_is_shadow := PySem.W.mg_of X G a7, bd_is_shadow := bdn_is_shadow l7 dd7,
    f_first_shadow := f8, fd_first_shadow := _, F_first_shadow := F8, g_first_shadow := PySem.W.mg_of X G a8, b_first_shadow := b8,
    f_bit_deeds := f9, fd_bit_deeds := _, F_bit_deeds := F9, g_bit_deeds := PySem.W.mg_of X G a9, b_bit_deeds := b9,
    f_bit_rows := f10, fd_bit_rows := _, F_bit_rows := F10, g_bit_rows := PySem.W.mg_of X G a10, b_bit_rows := b10,
    f__law_hand := f11, fd__law_hand := _, F__law_hand := F11, g__law_hand := PySem.W.mg_of X G a11, b__law_hand := b11,
    f__law_take := f12, fd__law_take := _, F__law_take := F12, g__law_take := PySem.W.mg_of X G a12, b__law_take := b12,
    f__law_of := f13, fd__law_of := _, F__law_of := F13, g__law_of := PySem.W.mg_of X G a13, b__law_of := b13,
    f__law_names := f14, fd__law_names := _, F__law_names := F14, g__law_names := PySem.W.mg_of X G a14, b__law_names := b14,
    f__law_pick := f15, fd__law_pick := _, F__law_pick := F15, g__law_pick := PySem.W.mg_of X G a15, b__law_pick := b15,
    f__law_prog := f16, fd__law_prog := _, F__law_prog := F16, g__law_prog := PySem.W.mg_of X G a16, b__law_prog := b16,
    f__law_phase := f17, fd__law_phase := _, F__law_phase := F17, g__law_phase := PySem.W.mg_of X G a17, b__law_phase := b17,
    f__law_gate := f18, fd__law_gate := _, F__law_gate := F18, g__law_gate := PySem.W.mg_of X G a18, b__law_gate := b18,
    f__law_number := f19, fd__law_number := _, F__law_number := F19, g__law_number := PySem.W.mg_of X G a19, b__law_number := b19,
    f__law_letters := f20, fd__law_letters := _, F__law_letters := F20, g__law_letters := PySem.W.mg_of X G a20, b__law_letters := b20,
    f__law_all_bits := f21, fd__law_all_bits := _, F__law_all_bits := F21, g__law_all_bits := PySem.W.mg_of X G a21, b__law_all_bits := b21,
    f__law_free := f22, fd__law_free := _, F__law_free := F22, g__law_free := PySem.W.mg_of X G a22, b__law_free := b22,
    f__law_note := f23, fd__law_note := _, F__law_note := F23, g__law_note := PySem.W.mg_of X G a23, b__law_note := b23,
    f__law_is_one := f24, fd__law_is_one := _, F__law_is_one := F24, g__law_is_one := PySem.W.mg_of X G a24, b__law_is_one := b24,
    f__law_bars_right := f25, fd__law_bars_right := _, F__law_bars_right := F25, g__law_bars_right := PySem.W.mg_of X G a25, b__law_bars_right := b25,
    f__law_below := f26, fd__law_below := _, F__law_below := F26, g__law_below := PySem.W.mg_of X G a26, b__law_below := b26,
    f__law_is_shade := f27, fd__law_is_shade := _, F__law_is_shade := F27, g__law_is_shade := PySem.W.mg_of X G a27, b__law_is_shade := b27,
    f__law_things := f28, fd__law_things := _, F__law_things := F28, g__law_things := PySem.W.mg_of X G a28, b__law_things := b28,
    f_law := fa, fd_law := _, F_law := F29, g_law := PySem.W.mg_of X G a29, b_law := b29,
    kb_kb_under_0_held_bar := ⟨fun s us ws _ hl => (if hh : us.length = 0 ∧ ws.length = 2 then (match us, ws, hh with | [], [_, _], _ => .of_eq rfl) else absurd hl (by rw [kb_under_0_held_bar_none hh]; decide)), fun r1 r2 => kb_under_0_held_bar_vals r1 r2⟩,
    kb_kb_first_shadow_0_program := ⟨fun s us ws _ hl => (if hh : us.length = 0 ∧ ws.length = 1 then (match us, ws, hh with | [], [_], _ => .of_eq rfl) else absurd hl (by rw [kb_first_shadow_0_program_none hh]; decide)), fun r1 r2 => kb_first_shadow_0_program_vals r1 r2⟩,
    kb_kb_bit_deeds_0_program := ⟨fun s us ws _ hl => (if hh : us.length = 0 ∧ ws.length = 1 then (match us, ws, hh with | [], [_], _ => .of_eq rfl) else absurd hl (by rw [kb_bit_deeds_0_program_none hh]; decide)), fun r1 r2 => kb_bit_deeds_0_program_vals r1 r2⟩,
    kb_kb_is_shadow_0_thing_program_guard := ⟨fun s us ws _ hl => (if hh : us.length = 0 ∧ ws.length = 3 then (match us, ws, hh with | [], [_, _, _], _ => .of_eq rfl) else absurd hl (by rw [kb_is_shadow_0_thing_program_guard_none hh]; decide)), fun r1 r2 => kb_is_shadow_0_thing_program_guard_vals r1 r2⟩,
    kb_kb_is_shadow_2_guard := ⟨fun s us ws _ hl => (if hh : us.length = 2 ∧ ws.length = 1 then (match us, ws, hh with | [_, _], [_], _ => .of_eq rfl) else absurd hl (by rw [kb_is_shadow_2_guard_none hh]; decide)), fun r1 r2 => kb_is_shadow_2_guard_vals r1 r2⟩,
    m_abs := PySem.W.mg_none_of X G z0,
    m_all := PySem.W.mg_none_of X G z1,
    m_bool := PySem.W.mg_none_of X G z2,
    m_int := PySem.W.mg_none_of X G z3,
    m_isinstance := PySem.W.mg_none_of X G z4,
    m_len := PySem.W.mg_none_of X G z5,
    m_list := PySem.W.mg_none_of X G z6,
    m_max := PySem.W.mg_none_of X G z7,
    m_min := PySem.W.mg_none_of X G z8,
    m_range := PySem.W.mg_none_of X G z9,
    m_repr := PySem.W.mg_none_of X G z10,
    m_sorted := PySem.W.mg_none_of X G z11,
    m_tuple := PySem.W.mg_none_of X G z12,
    m_zip := PySem.W.mg_none_of X G z13 }
  exact ⟨T.fd_law, fun s v => .of_eq rfl, fun base _ _ => ok_law T⟩
end Z
open PySem PySem.W PyProof.Rows
set_option maxHeartbeats 0 in
theorem PySem.Challenge.cw_stilltold_k19_bars_and_shadows_of_anythi_holds : PySem.Challenge.rw_stilltold_k19_bars_and_shadows_of_anythi.Holds := by
  w_on; o_law; k_head; (case hw => w_witness2)
  k_fill
  refine Lw.walkG (l := PySem.Challenge.rw_stilltold_k19_bars_and_shadows_of_anythi) (n := 63) (k := 9) (x := "_law_script") (sp := fun K => Pu.spOf K Z.m_law) rfl (by decide) rfl ⟨rfl, by decide, by decide⟩ (fun w h Y => PySem.W.kIn_of Y) ?F (fun K _ a ns hl _ hS => Pu.sp_law_imp ⟨a, ns, rfl, hS, hl, Z.law_true_ne ns hl, fun u M' e => ⟨Z.law_true_eq ns hl e, fun _ => rfl⟩⟩)
  case F =>
    intro w mg fa h KX G hmg
    refine' Z.all_mk KX G hmg ?a0 ?l0 ?c0 ?k0 ?a1 ?l1 ?c1 ?k1 ?a2 ?l2 ?c2 ?k2 ?a3 ?l3 ?c3 ?k3 ?a4 ?l4 ?c4 ?k4 ?a5 ?l5 ?c5 ?k5 ?a6 ?l6 ?c6 ?k6 ?a7 ?l7 ?c7 ?k7 ?dd7 ?a8 ?l8 ?c8 ?k8 ?a9 ?l9 ?c9 ?k9 ?a10 ?l10 ?c10 ?k10 ?a11 ?l11 ?c11 ?k11 ?a12 ?l12 ?c12 ?k12 ?a13 ?l13 ?c13 ?k13 ?a14 ?l14 ?c14 ?k14 ?a15 ?l15 ?c15 ?k15 ?a16 ?l16 ?c16 ?k16 ?a17 ?l17 ?c17 ?k17 ?a18 ?l18 ?c18 ?k18 ?a19 ?l19 ?c19 ?k19 ?a20 ?l20 ?c20 ?k20 ?a21 ?l21 ?c21 ?k21 ?a22 ?l22 ?c22 ?k22 ?a23 ?l23 ?c23 ?k23 ?a24 ?l24 ?c24 ?k24 ?a25 ?l25 ?c25 ?k25 ?a26 ?l26 ?c26 ?k26 ?a27 ?l27 ?c27 ?k27 ?a28 ?l28 ?c28 ?k28 ?a29 ?l29 ?c29 ?k29 ?z0 ?z1 ?z2 ?z3 ?z4 ?z5 ?z6 ?z7 ?z8 ?z9 ?z10 ?z11 ?z12 ?z13
    (case a0 => k_is); (case l0 => k_is); (case c0 => k_is); (case k0 => k_is); (case a1 => k_is); (case l1 => k_is); (case c1 => k_is); (case k1 => k_is); (case a2 => k_is); (case l2 => k_is); (case c2 => k_is); (case k2 => k_is); (case a3 => k_is); (case l3 => k_is); (case c3 => k_is); (case k3 => k_is); (case a4 => k_is); (case l4 => k_is); (case c4 => k_is); (case k4 => k_is); (case a5 => k_is); (case l5 => k_is); (case c5 => k_is); (case k5 => k_is); (case a6 => k_is); (case l6 => k_is); (case c6 => k_is); (case k6 => k_is); (case a7 => k_is); (case l7 => k_is); (case c7 => k_is); (case k7 => k_is); (case dd7 => k_is); (case a8 => k_is); (case l8 => k_is); (case c8 => k_is); (case k8 => k_is); (case a9 => k_is); (case l9 => k_is); (case c9 => k_is); (case k9 => k_is); (case a10 => k_is); (case l10 => k_is); (case c10 => k_is); (case k10 => k_is); (case a11 => k_is); (case l11 => k_is); (case c11 => k_is); (case k11 => k_is); (case a12 => k_is); (case l12 => k_is); (case c12 => k_is); (case k12 => k_is); (case a13 => k_is); (case l13 => k_is); (case c13 => k_is); (case k13 => k_is); (case a14 => k_is); (case l14 => k_is); (case c14 => k_is); (case k14 => k_is); (case a15 => k_is); (case l15 => k_is); (case c15 => k_is); (case k15 => k_is); (case a16 => k_is); (case l16 => k_is); (case c16 => k_is); (case k16 => k_is); (case a17 => k_is); (case l17 => k_is); (case c17 => k_is); (case k17 => k_is); (case a18 => k_is); (case l18 => k_is); (case c18 => k_is); (case k18 => k_is); (case a19 => k_is); (case l19 => k_is); (case c19 => k_is); (case k19 => k_is); (case a20 => k_is); (case l20 => k_is); (case c20 => k_is); (case k20 => k_is); (case a21 => k_is); (case l21 => k_is); (case c21 => k_is); (case k21 => k_is); (case a22 => k_is); (case l22 => k_is); (case c22 => k_is); (case k22 => k_is); (case a23 => k_is); (case l23 => k_is); (case c23 => k_is); (case k23 => k_is); (case a24 => k_is); (case l24 => k_is); (case c24 => k_is); (case k24 => k_is); (case a25 => k_is); (case l25 => k_is); (case c25 => k_is); (case k25 => k_is); (case a26 => k_is); (case l26 => k_is); (case c26 => k_is); (case k26 => k_is); (case a27 => k_is); (case l27 => k_is); (case c27 => k_is); (case k27 => k_is); (case a28 => k_is); (case l28 => k_is); (case c28 => k_is); (case k28 => k_is); (case a29 => k_is); (case l29 => k_is); (case c29 => k_is); (case k29 => k_is); (case z0 => k_is); (case z1 => k_is); (case z2 => k_is); (case z3 => k_is); (case z4 => k_is); (case z5 => k_is); (case z6 => k_is); (case z7 => k_is); (case z8 => k_is); (case z9 => k_is); (case z10 => k_is); (case z11 => k_is); (case z12 => k_is); (case z13 => k_is)
