import PyProof.Rows.All
import Wide.All
import OpenK.AllK
import Wide.FinOn
import HandS.ForMost
import HandS.IsInst
import PyProof.ReprRoads
import HandS.Evl
import HandS.Walk
import HandS.Conv
import HandS.TupAny
import HandS.Deep
import HandS.SortInts
import KE.GoesMore
import KE.GoesEnum
import HandS.Iter
import PySem.Challenge.RW_wayrows_k03_bounds_of_webs
set_option Elab.async false
set_option linter.all false
set_option maxRecDepth 100000
/-! repr of data, and the law's own def run at the caller's own surroundings (where no repr is under way) -/
namespace WR
open PySem PySem.Spec PyProof.Rows L2

section
variable {X : Cx}
/-- repr(x), x a list or tuple of data -/
def rReprD (K : PySem.W.Frag) : List V → Hp → VK → Prop := fun xs H Q =>
  ∃ (a : Addr) (d : PyData), xs = [.ref a] ∧ Dp K H (.ref a) d ∧ d.showable = true ∧ d.hasDict = false ∧ d.shown.length ≤ sizeLine ∧ d.depth ≤ 40 ∧ Q (.str d.shown) H
theorem call_reprD (hg : X.A.guards = some []) (hu : X.A.units + 64 < cLine) : CallR X (.builtin "repr") (rReprD X.K) := by
  intro pins s σ H xs us Q I r h
  obtain ⟨a, d, rfl, hd, hs, hn, hz, hdp, q⟩ := h
  obtain ⟨u, rfl, rfl⟩ := vals1 r
  obtain ⟨as, rd⟩ := Dp.reads I d _ _ hd rfl
  refine repr_of_reads' rd hs (fun z => ?_) hg (by omega) (fun b o e => e) (fun h' t tk hk => ?_) hz
  · rw [hn] at z
    cases z
  · exact ⟨.str d.shown, H, I.kept hk, ⟨t, rfl⟩, q⟩
end
end WR
set_option Elab.async false
set_option linter.all false
set_option maxRecDepth 100000
/-! the law's own def, run at callerA alone: there nothing is being shown by repr, so repr may be called in it -/
namespace WR
open PySem PySem.Spec PyProof.Rows L2

/-- the promise of the law's own def, at the law's caller alone -/
def RunsG (P : Program) (w : World) (K : PySem.W.Frag) (mg : Str → Option Value) (base : Heap)
    (fa : Addr) (fd : FuncData) (x : Str) (sp : Sp) : Prop :=
  ∀ (s : Shared) (H : Hp) (u : Value) (v : V) (Q : VK), Env0 P w K mg base callerA [] s H →
    BindsTo s fd ⟨[u], []⟩ [(x, u)] → RelV v u → sp [v] H Q (fun _ _ _ => False) →
    codeAny (model P w) callerA (.call (.ref fa) ⟨[u], []⟩) (CR CX0 [] P w H s Q (fun _ _ _ => False)) s

section
variable {P : Program} {w : World} {K : PySem.W.Frag} {mg : Str → Option Value} {base : Heap}
theorem runsG_of {q : Str} {st : Stmt} {f : Addr} {fd : FuncData} {N : List Str} {x : Str} {k : Nat} {sp : Sp}
    (F : Fun K q q st f fd) (S : FnScope N [x] (defScope st)) (hk : Room (k + 1) callerA)
    (body : ∀ (cdv : Value) (s : Shared) (H : Hp) (v : V) (Q : VK),
      Room k (callerA.deeper (envOfC q (defScope st) s.heap.objs.size f cdv)) → sp [v] H Q (fun _ _ _ => False) →
      ∃ t, PSs (cxOf CX0 P w K mg base N q (defScope st) f cdv callerA [] s H (fun _ _ _ => False)).nox (defBody st) t ∧
        t { nx := fun _ H' => Q .non H', rt := Q } (start N [v]) H) :
    RunsG P w K mg base f fd x sp := by
  intro s H u v Q e0 hb rv hsp
  obtain ⟨oc, od, kV, doc, pm, an, cdv, ct, osl, rfl, lk, hcd⟩ := F.ex
  have inn : K.In s.heap :=
    e0.mod.kin.keeps fun b o e => (e0.bs b o e).1
  have nol : s.heap.NoLimit :=
    e0.mod.nolimit.keeps fun b o e => (e0.bs b o e).1
  have kinds : ∀ y ∈ [(x, u)], (defScope st).names.lookup y.1 = some .local ∨
      ((defScope st).names.lookup y.1 = some .cell ∧
        ((cellsFrom (s.heap.objs.size + 1) (defScope st).names []).lookup y.1).isSome = true) := by
    intro y hy
    rw [List.mem_singleton] at hy
    subst hy
    cases S.par x (List.mem_singleton.mpr rfl) with
    | inl z => exact .inl z
    | inr z => exact .inr ⟨z, PySem.W.cellsFrom_some _ _ _ (.inl z)⟩
  refine codeAny_call_function hk.depth (inn _ _ lk) rfl S.co S.gen rfl
    (PySem.W.codeRec_of inn hcd) (hb _ _ _ _ ?_)
  refine wpAny_newFunctionEnv_cells S.kind kinds fun env he s1 z => ?_
  subst he
  refine ⟨nol.keeps z.toInCall.keep, codeAny_func ?_⟩
  obtain ⟨t, ht, hq⟩ := body cdv s H v Q (hk.deeper _) hsp
  have J := inv_start (CX := CX0) (E := fun _ _ _ => False) (vs := [v]) (us := [u]) S hk.hd e0 rfl (.cons rv .nil) z
  refine wpAny_mono (ht.nox.run [] s1 (start N [v]) H _ J hq) (fun fl s' hs => ?_) (fun e s' hs => hs)
  cases fl with
  | ret u' =>
    obtain ⟨v', σ', H', I', r', q'⟩ := hs
    exact ⟨v', H', I'.os, I'.bare, I'.base, I'.hok, r', q'⟩
  | next =>
    obtain ⟨σ', H', I', q'⟩ := hs
    exact ⟨V.non, H', I'.os, I'.bare, I'.base, I'.hok, rfl, q'⟩
  | brk =>
    obtain ⟨_, _, _, no⟩ := hs
    exact no.elim
  | cont =>
    obtain ⟨_, _, _, no⟩ := hs
    exact no.elim
end

theorem law_callG {P : Program} {w : World} {K : PySem.W.Frag} {mg mb : Str → Option Value} {fa a : Addr}
    {fd : FuncData} {x : Str} {sp : Sp} {s₁ : Shared} {vs : List Value} {ns : List Int}
    (KX : K.In s₁.heap) (hns : s₁.heap.Ns mainGlobals mg) (hb : s₁.heap.Ns builtinsNs mb)
    (hbb : ∀ x : Str, x ≠ "__name__" → mb x = bootBuiltins x) (hlim : s₁.heap.NoLimit) (hg : s₁.gens = #[])
    (ha : s₁.heap.get? a = some { cls := .type "list", data := .seq vs.toArray }) (hi : IntsAre vs ns)
    (hl : ns.length ≤ sizeLine)
    (F : ∀ base : Heap, K.In base → base.Ns mainGlobals mg → RunsG P w K mg base fa fd x sp)
    (hbind : ∀ (s : Shared) (u : Value), BindsTo s fd ⟨[u], []⟩ [(x, u)])
    (hsp : ∀ H : Hp, Only H → SqL K H a (ns.map V.int) → sp [.ref a] H (fun v _ => v = .bl true) fun _ _ _ => False) :
    codeAny (model P w) callerA (.call (.ref fa) ⟨[.ref a], []⟩)
      (fun r s' => r = .ok (.ret (.bool true)) ∧ OldK s₁.heap s'.heap ∧ s'.os = s₁.os ∧ AllBare s'.gens) s₁ := by
  have main : ∀ H : Hp, Only H → SqL K H a (ns.map V.int) → HOk P w H s₁.heap →
      (∀ b, H b = none ∨ b = a) → (H a = none ∨ K.lookup a = none) →
      codeAny (model P w) callerA (.call (.ref fa) ⟨[.ref a], []⟩)
        (fun r s' => r = .ok (.ret (.bool true)) ∧ OldK s₁.heap s'.heap ∧ s'.os = s₁.os ∧ AllBare s'.gens) s₁ := by
    intro H hO hS hok hA hK
    have dictFree : ∀ {b : Addr} {o : Obj} {es : Array DictEntry} {ep : Nat},
        s₁.heap.get? b = some o → o.data = .dict es ep → H b = none := by
      intro b o es ep e d
      rcases hA b with n | rfl
      · exact n
      · rw [ha] at e
        cases e
        cases (show Data.seq vs.toArray _ = Data.dict es ep from d)
    have nsK : ∀ {b : Addr} {m : Str → Option Value}, s₁.heap.Ns b m → (hidT s₁.heap H).Ns b m :=
      fun {b m} ⟨o, es, ep, e, d, r⟩ => ⟨o, es, ep, hidT_get e (dictFree e d), d, r⟩
    have kinB : K.In (hidT s₁.heap H) := by
      intro b o e
      refine hidT_get (KX b o e) ?_
      rcases hA b with n | rfl
      · exact n
      · rcases hK with n | n
        · exact n
        · rw [n] at e
          cases e
    have modB : Mod K mg (hidT s₁.heap H) := by
      obtain ⟨mc, h1, h2⟩ := hlim
      exact ⟨kinB, nsK hns, ⟨mb, nsK hb, hbb⟩, ⟨mc, nsK h1, h2⟩⟩
    have env : Env0 P w K mg (hidT s₁.heap H) callerA [] s₁ H :=
      ⟨rfl, modB, fun b o e => of_hidT e, Nat.le_of_eq (hidT_size _ _), trivial, (fun b hb => by cases hb), hok, .of_eq hg⟩
    have run := F _ kinB (nsK hns) s₁ H (.ref a) (.ref a) (fun v _ => v = .bl true) env (hbind s₁ (.ref a)) rfl (hsp H hO hS)
    refine codeAny_mono run fun r s' h => ?_
    match r, h with
    | .error e, h => exact (show False from h).elim
    | .ok .next, h => exact (show False from h).elim
    | .ok .brk, h => exact (show False from h).elim
    | .ok .cont, h => exact (show False from h).elim
    | .ok (.ret u), h =>
      obtain ⟨v, H', os, bare, un, hok', rv, qv⟩ := h
      have qv' : v = .bl true := qv
      subst qv'
      have ru : u = Value.bool true := rv
      subst ru
      refine ⟨rfl, OldK.of_keep fun b o e => ?_, os, bare⟩
      rcases hO b with n | ⟨ob, ys, n⟩
      · exact un.keep b o e n (by intro z; cases z) (by simp)
      · obtain ⟨e1, _⟩ := hok b _ n
        obtain ⟨e2, _⟩ := hok' b _ (un.frzs b ob _ n)
        rw [e] at e1
        cases e1
        exact e2
  have rvs : Vals (ns.map V.int) vs := vals_ints hi
  have lenV : vs.length = ns.length := hi.length
  by_cases hk : ∃ o, K.lookup a = some o
  · obtain ⟨o, hk⟩ := hk
    have e := KX a o hk
    rw [ha] at e
    cases e
    refine main (fun _ => none) (fun _ => .inl rfl) (.inr ⟨_, vs.toArray, _, hk, rfl, rfl, rfl, ?_, by simpa using rvs⟩)
      (fun b u z => by cases (show (none : Option HO) = some u from z)) (fun b => .inl rfl) (.inl rfl)
    rw [List.size_toArray, lenV]
    exact hl
  · have hn : K.lookup a = none := by
      cases z : K.lookup a with
      | none => rfl
      | some o => exact absurd ⟨o, z⟩ hk
    let O : HO := .frz { cls := .type "list", data := .seq vs.toArray } (.lst (ns.map V.int))
    refine main (fun b => if b = a then some O else none) (fun b => ?_) (.inl (.inr ⟨_, if_pos rfl⟩)) (fun b u z => ?_)
      (fun b => ?_) (.inr hn)
    · by_cases hb : b = a
      · exact .inr ⟨_, _, if_pos hb⟩
      · exact .inl (if_neg hb)
    · by_cases hb : b = a
      · cases (if_pos hb).symm.trans z
        subst hb
        exact ⟨ha, by rw [List.length_map]; exact hl, vs, _, rvs, ha⟩
      · cases (if_neg hb).symm.trans z
    · by_cases hb : b = a
      · exact .inr hb
      · exact .inl (if_neg hb)

theorem walk_ofG {l : PySem.W.OpenLaw} {n : Nat} {q : Program} {loose : List Str}
    {XP : (Str → Option Value) → Heap → Prop} {YP : World → Heap → Prop} {d : DefRec}
    {K : Params → PySem.W.Frag} {sp : PySem.W.Frag → Sp} {x : Str}
    (hn : l.most = some n) (hn2 : n ≤ sizeLine) (hdf : d.params.defaults = [])
    (hY : ∀ (w : World) (h : Heap), YP w h → (K w.params).In h)
    (F : ∀ (w : World) (mg : Str → Option Value) (fa : Addr) (h : Heap), (K w.params).In h → h.Ns mainGlobals mg →
      mg d.name = some (.ref fa) →
      ∃ fd : FuncData, (∀ (s : Shared) (u : Value), BindsTo s fd ⟨[u], []⟩ [(x, u)]) ∧
        ∀ base : Heap, (K w.params).In base → base.Ns mainGlobals mg →
          RunsG l.prog w (K w.params) mg base fa fd x (sp (K w.params)))
    (hsp : ∀ (K : PySem.W.Frag) (H : Hp) (a : Addr) (ns : List Int), ns.length ≤ n → Only H →
      SqL K H a (ns.map V.int) → sp K [.ref a] H (fun v _ => v = .bl true) fun _ _ _ => False) :
    PySem.W.WalkO q loose XP YP l.row.toRowW d [] (fun f vs => PySem.call f vs) := by
  apply Att.attach_call hn hdf
  intro w s₀ s₁ mg mb fa o pm cd doc a vs ns G Y ho hd hcd hmg hobj hints hlen hg
  have KX := hY w _ Y
  obtain ⟨fd, hb, hF⟩ := F w mg fa _ KX G.T.g hmg
  exact law_callG KX G.T.g G.T.b G.T.builtins G.T.nolimit hg hobj hints (Nat.le_trans hlen hn2) hF hb
    (fun H hO hS => hsp _ H a ns hlen hO hS)
end WR
set_option Elab.async false
set_option linter.all false
set_option maxRecDepth 100000
set_option maxHeartbeats 1000000
/-! readings upon data: what evaluates to which datum, wherever the heap has grown -/
namespace WR
open PySem PySem.Spec PyProof.Rows L2 Evl

/-! ### data in a heap that grows -/
mutual
theorem dp_ex {K : PySem.W.Frag} {H H' : Hp} (e : Ex H H') : ∀ {v : V} (d : PyData), Dp K H v d → Dp K H' v d
  | _, .none, h => by cases h; exact .non
  | _, .bool _, h => by cases h; exact .bl _
  | _, .int _, h => by cases h; exact .int _
  | _, .str _, h => by cases h; exact .str _
  | _, .list ds, h => by
    cases h with
    | lst a b => exact .lst (ex_l e a) (dpAll_ex e ds b)
  | _, .tuple ds, h => by
    cases h with
    | tup a b => exact .tup (ex_t e a) (dpAll_ex e ds b)
  | _, .dict _, h => by cases h
theorem dpAll_ex {K : PySem.W.Frag} {H H' : Hp} (e : Ex H H') : ∀ {vs : List V} (ds : List PyData), DpAll K H vs ds → DpAll K H' vs ds
  | _, [], h => by cases h; exact .nil
  | _, d :: ds, h => by
    cases h with
    | cons a b => exact .cons (dp_ex e d a) (dpAll_ex e ds b)
end
section
variable {K : PySem.W.Frag} {H H' : Hp}
theorem dpAll_len : ∀ {vs : List V} {ds : List PyData}, DpAll K H vs ds → vs.length = ds.length
  | _, [], h => by cases h; rfl
  | _, _ :: _, h => by
    cases h with
    | cons a b => simp [dpAll_len b]
theorem dpAll_at : ∀ {vs : List V} {ds : List PyData} {i : Nat} {v : V}, DpAll K H vs ds → vs[i]? = some v → ∃ d, ds[i]? = some d ∧ Dp K H v d
  | _, [], _, _, h, e => by cases h; simp at e
  | _, _ :: _, 0, _, h, e => by
    cases h with
    | cons a b => exact ⟨_, rfl, by simp at e; rw [← e]; exact a⟩
  | _, _ :: _, i + 1, _, h, e => by
    cases h with
    | cons a b =>
      obtain ⟨d, h1, h2⟩ := dpAll_at (i := i) b (by simpa using e)
      exact ⟨d, by simpa using h1, h2⟩
theorem dpAll_at' : ∀ {vs : List V} {ds : List PyData} {i : Nat} {d : PyData}, DpAll K H vs ds → ds[i]? = some d → ∃ v, vs[i]? = some v ∧ Dp K H v d
  | _, [], _, _, h, e => by simp at e
  | _, _ :: _, 0, _, h, e => by
    cases h with
    | cons a b => exact ⟨_, rfl, by simp at e; rw [← e]; exact a⟩
  | _, _ :: _, i + 1, _, h, e => by
    cases h with
    | cons a b =>
      obtain ⟨v, h1, h2⟩ := dpAll_at' (i := i) b (by simpa using e)
      exact ⟨v, by simpa using h1, h2⟩
theorem dpAll_snoc : ∀ {vs : List V} {ds : List PyData} {v : V} {d : PyData}, DpAll K H vs ds → Dp K H v d → DpAll K H (vs ++ [v]) (ds ++ [d])
  | _, [], _, _, h, a => by cases h; exact .cons a .nil
  | _, _ :: _, _, _, h, a => by
    cases h with
    | cons b c => exact .cons b (dpAll_snoc c a)
theorem dpAll_app : ∀ {vs ws : List V} {ds es : List PyData}, DpAll K H vs ds → DpAll K H ws es → DpAll K H (vs ++ ws) (ds ++ es)
  | _, _, [], _, h, a => by cases h; exact a
  | _, _, _ :: _, _, h, a => by
    cases h with
    | cons b c => exact .cons b (dpAll_app c a)
theorem dpAll_drop : ∀ {vs : List V} {ds : List PyData} (n : Nat), DpAll K H vs ds → DpAll K H (vs.drop n) (ds.drop n)
  | _, _, 0, h => by simpa using h
  | _, [], n + 1, h => by cases h; exact .nil
  | _, _ :: _, n + 1, h => by
    cases h with
    | cons a b => exact dpAll_drop n b
theorem dpAll_take : ∀ {vs : List V} {ds : List PyData} (n : Nat), DpAll K H vs ds → DpAll K H (vs.take n) (ds.take n)
  | _, _, 0, h => .nil
  | _, [], n + 1, h => by cases h; exact .nil
  | _, _ :: _, n + 1, h => by
    cases h with
    | cons a b => exact .cons a (dpAll_take n b)
theorem dpAll_ints : ∀ (ns : List Int), DpAll K H (ns.map V.int) (ns.map PyData.int)
  | [] => .nil
  | _ :: ns => .cons (.int _) (dpAll_ints ns)
theorem dpAll_bls : ∀ (ns : List Bool), DpAll K H (ns.map V.bl) (ns.map PyData.bool)
  | [] => .nil
  | _ :: ns => .cons (.bl _) (dpAll_bls ns)
theorem ints_of : ∀ {vs : List V} {ns : List Int}, DpAll K H vs (ns.map PyData.int) → vs = ns.map V.int
  | _, [], h => by cases h; rfl
  | _, _ :: ns, h => by
    cases h with
    | cons a b => cases a; rw [ints_of b]; rfl
theorem bls_of : ∀ {vs : List V} {ns : List Bool}, DpAll K H vs (ns.map PyData.bool) → vs = ns.map V.bl
  | _, [], h => by cases h; rfl
  | _, _ :: ns, h => by
    cases h with
    | cons a b => cases a; rw [bls_of b]; rfl
theorem dp_tup {v : V} {ds : List PyData} (h : Dp K H v (.tuple ds)) : ∃ a xs, v = .ref a ∧ SqT K H a xs ∧ DpAll K H xs ds := by
  cases h with
  | tup a b => exact ⟨_, _, rfl, a, b⟩
theorem dp_lst {v : V} {ds : List PyData} (h : Dp K H v (.list ds)) : ∃ a xs, v = .ref a ∧ SqL K H a xs ∧ DpAll K H xs ds := by
  cases h with
  | lst a b => exact ⟨_, _, rfl, a, b⟩
theorem dp_int {v : V} {i : Int} (h : Dp K H v (.int i)) : v = .int i := by cases h; rfl
theorem dp_bl {v : V} {i : Bool} (h : Dp K H v (.bool i)) : v = .bl i := by cases h; rfl
theorem dp_non {v : V} (h : Dp K H v .none) : v = .non := by cases h; rfl
end

/-! data without lists and dicts within -/
mutual
def nl : PyData → Bool
  | .list _ => false
  | .dict _ => false
  | .tuple ds => nlAll ds
  | _ => true
def nlAll : List PyData → Bool
  | [] => true
  | d :: ds => nl d && nlAll ds
end
theorem nlAll_mem : ∀ {ds : List PyData}, (∀ d ∈ ds, nl d = true) → nlAll ds = true
  | [], _ => rfl
  | d :: ds, h => by
    show (nl d && nlAll ds) = true
    rw [h d (List.mem_cons_self ..), nlAll_mem fun x hx => h x (List.mem_cons_of_mem _ hx)]
    rfl
theorem ex_tL {K : PySem.W.Frag} {H : Hp} {a l : Addr} {xs ys zs : List V} (hl : H l = some (.lst ys)) (h : SqT K H a xs) : SqT K (upd H l (.lst zs)) a xs := by
  rcases h with (h | ⟨o, h⟩) | h
  · exact .inl (.inl (by rw [upd_ne (ne_of h hl (by intro z; cases z))]; exact h))
  · exact .inl (.inr ⟨o, by rw [upd_ne (ne_of h hl (by intro z; cases z))]; exact h⟩)
  · exact .inr h
mutual
/-- a list that changes changes no such datum -/
theorem dp_updL {K : PySem.W.Frag} {H : Hp} {l : Addr} {ys zs : List V} (hl : H l = some (.lst ys)) : ∀ {v : V} (d : PyData), nl d = true → Dp K H v d → Dp K (upd H l (.lst zs)) v d
  | _, .none, _, h => by cases h; exact .non
  | _, .bool _, _, h => by cases h; exact .bl _
  | _, .int _, _, h => by cases h; exact .int _
  | _, .str _, _, h => by cases h; exact .str _
  | _, .list ds, n, h => by cases n
  | _, .tuple ds, n, h => by
    cases h with
    | tup a b => exact .tup (ex_tL hl a) (dpAll_updL hl ds n b)
  | _, .dict _, _, h => by cases h
theorem dpAll_updL {K : PySem.W.Frag} {H : Hp} {l : Addr} {ys zs : List V} (hl : H l = some (.lst ys)) : ∀ {vs : List V} (ds : List PyData), nlAll ds = true → DpAll K H vs ds → DpAll K (upd H l (.lst zs)) vs ds
  | _, [], _, h => by cases h; exact .nil
  | _, d :: ds, n, h => by
    have n' : (nl d && nlAll ds) = true := n
    rw [Bool.and_eq_true] at n'
    cases h with
    | cons a b => exact .cons (dp_updL hl d n'.1 a) (dpAll_updL hl ds n'.2 b)
end

/-! ### what evaluates to which datum -/
def EvD (K : PySem.W.Frag) (te : TE) (σ : L2.St) (H : Hp) (d : PyData) : Prop := ∀ H1, Ex H H1 → ∀ Q : VK, (∀ v H2, Ex H1 H2 → Dp K H2 v d → Q v H2) → te σ H1 Q
def EvDA (K : PySem.W.Frag) (ta : TA) (σ : L2.St) (H : Hp) (ds : List PyData) : Prop := ∀ H1, Ex H H1 → ∀ Q : List V → Hp → Prop, (∀ vs H2, Ex H1 H2 → DpAll K H2 vs ds → Q vs H2) → ta σ H1 Q
/-- a new list of data -/
def EvN (K : PySem.W.Frag) (te : TE) (σ : L2.St) (H : Hp) (ds : List PyData) : Prop := ∀ H1, Ex H H1 → ∀ Q : VK, (∀ p xs H2, H1 p = none → Ex H1 H2 → H2 p = some (.lst xs) → DpAll K H2 xs ds → Q (.ref p) H2) → te σ H1 Q
/-- a promise: called with the data ds, it hands back the datum F ds -/
def spD (K : PySem.W.Frag) (F : List PyData → Option PyData) : Sp := fun vs H Q _ => ∃ ds r, DpAll K H vs ds ∧ F ds = some r ∧ ∀ v H', Ex H H' → Dp K H' v r → Q v H'

section
variable {K : PySem.W.Frag} {σ : L2.St} {H H' : Hp} {ta tb te tx : TE} {t u : TT} {x y z v : V} {r : R2} {d d1 d2 : PyData} {ds es : List PyData}
theorem EvD.mono (e : Ex H H') (h : EvD K te σ H d) : EvD K te σ H' d := fun H1 a Q q => h H1 (e.trans a) Q q
theorem EvN.mono (e : Ex H H') (h : EvN K te σ H ds) : EvN K te σ H' ds := fun H1 a Q q => h H1 (e.trans a) Q q
theorem EvDA.mono {ta : TA} (e : Ex H H') (h : EvDA K ta σ H ds) : EvDA K ta σ H' ds := fun H1 a Q q => h H1 (e.trans a) Q q
theorem ed_ev (h : Ev te σ H v) (hd : Dp K H v d) : EvD K te σ H d := fun H1 e Q q => h H1 e Q fun H2 e2 => q v H2 e2 (dp_ex (e.trans e2) d hd)
theorem ed_n (h : EvN K te σ H ds) : EvD K te σ H (.list ds) := fun H1 e Q q => h H1 e Q fun p xs H2 _ e2 hp hd => q _ H2 e2 (.lst (sq_of hp) hd)
theorem ev_i {i : Int} (h : EvD K te σ H (.int i)) : Ev te σ H (.int i) := fun H1 e Q q => h H1 e Q fun v H2 e2 hv => by
  cases dp_int hv
  exact q H2 e2
theorem ev_b {i : Bool} (h : EvD K te σ H (.bool i)) : Ev te σ H (.bl i) := fun H1 e Q q => h H1 e Q fun v H2 e2 hv => by
  cases dp_bl hv
  exact q H2 e2
theorem ed_i {i : Int} (h : Ev te σ H (.int i)) : EvD K te σ H (.int i) := ed_ev h (.int i)
theorem ed_b {i : Bool} (h : Ev te σ H (.bl i)) : EvD K te σ H (.bool i) := ed_ev h (.bl i)
theorem ed_var {i : Nat} (h : σ[i]? = some (some v)) (hd : Dp K H v d) : EvD K (tVar i) σ H d := ed_ev (ev_var h) hd
theorem ed_is (h : EvD K te σ H d) (e : d = d1) : EvD K te σ H d1 := by
  rw [← e]
  exact h
theorem eda_nil : EvDA K tNil σ H [] := fun H1 _ _ q => q [] H1 (Ex.refl H1) .nil
theorem eda_cons {tr : TA} (h : EvD K te σ H d) (hr : EvDA K tr σ H ds) : EvDA K (tCons te tr) σ H (d :: ds) := fun H1 e Q q =>
  h H1 e _ fun v H2 e2 hv => hr H2 (e.trans e2) _ fun vs H3 e3 hvs => q _ H3 (e2.trans e3) (.cons (dp_ex e3 d hv) hvs)
theorem ed_call {F : List PyData → Option PyData} {E : XK} {ta : TA} (h : EvDA K ta σ H ds) (hf : F ds = some d) : EvD K (tCall (spD K F) [] E ta) σ H d := fun H1 e Q q =>
  h H1 e _ fun vs H2 e2 hv => by
    rw [List.append_nil]
    exact ⟨ds, d, hv, hf, fun v H3 e3 hd => q v H3 (e2.trans e3) hd⟩
/-- an item of a tuple, of a list -/
theorem ed_ixT {n : Nat} {i : Int} (ha : EvD K ta σ H (.tuple ds)) (hb : EvD K tb σ H (.int i)) (hi : i = (n : Int)) (hx : ds[n]? = some d) : EvD K (tOp (rIxT K) ta tb) σ H d := fun H1 e Q q =>
  ha H1 e _ fun v H2 e2 hv => hb H2 (e.trans e2) _ fun w H3 e3 hw => by
    obtain ⟨a, xs, rfl, hs, hd⟩ := dp_tup (dp_ex e3 _ hv)
    cases dp_int hw
    obtain ⟨x, hx1, hx2⟩ := dpAll_at' hd hx
    subst hi
    exact ⟨a, xs, _, x, rfl, rfl, hs, atI_nat hx1, q x H3 (e2.trans e3) hx2⟩
theorem ed_ixL {n : Nat} {i : Int} (ha : EvD K ta σ H (.list ds)) (hb : EvD K tb σ H (.int i)) (hi : i = (n : Int)) (hx : ds[n]? = some d) : EvD K (tOp (rIxL K) ta tb) σ H d := fun H1 e Q q =>
  ha H1 e _ fun v H2 e2 hv => hb H2 (e.trans e2) _ fun w H3 e3 hw => by
    obtain ⟨a, xs, rfl, hs, hd⟩ := dp_lst (dp_ex e3 _ hv)
    cases dp_int hw
    obtain ⟨x, hx1, hx2⟩ := dpAll_at' hd hx
    subst hi
    exact ⟨a, xs, _, x, rfl, rfl, hs, atI_nat hx1, q x H3 (e2.trans e3) hx2⟩
/-- len -/
theorem ed_lenT (h : EvD K te σ H (.tuple ds)) : Ev (tCB (fun xs H Q => ∃ p ys, xs = [.ref p] ∧ (SqL K H p ys ∨ SqT K H p ys) ∧ Q (.int ys.length) H) (tCons te tNil)) σ H (.int (ds.length : Int)) := fun H1 e Q q =>
  h H1 e _ fun v H2 e2 hv => by
    obtain ⟨a, xs, rfl, hs, hd⟩ := dp_tup hv
    refine ⟨a, xs, rfl, .inr hs, ?_⟩
    rw [dpAll_len hd]
    exact q H2 e2
theorem ed_lenL (h : EvD K te σ H (.list ds)) : Ev (tCB (fun xs H Q => ∃ p ys, xs = [.ref p] ∧ (SqL K H p ys ∨ SqT K H p ys) ∧ Q (.int ys.length) H) (tCons te tNil)) σ H (.int (ds.length : Int)) := fun H1 e Q q =>
  h H1 e _ fun v H2 e2 hv => by
    obtain ⟨a, xs, rfl, hs, hd⟩ := dp_lst hv
    refine ⟨a, xs, rfl, .inl hs, ?_⟩
    rw [dpAll_len hd]
    exact q H2 e2
/-- tuple(list) -/
theorem ed_tupL (h : EvD K te σ H (.list ds)) : EvD K (tCB (fun xs H Q => ∃ p ys, xs = [.ref p] ∧ ((SqL K H p ys ∧ ∀ l, H l = none → Q (.ref l) (upd H l (.tup ys))) ∨ (SqT K H p ys ∧ Q (.ref p) H))) (tCons te tNil)) σ H (.tuple ds) := fun H1 e Q q =>
  h H1 e _ fun v H2 e2 hv => by
    obtain ⟨a, xs, rfl, hs, hd⟩ := dp_lst hv
    exact ⟨a, xs, rfl, .inl ⟨hs, fun l hl => q _ _ (e2.trans (Ex.new hl)) (.tup (st_of upd_same) (dpAll_ex (Ex.new hl) ds hd))⟩⟩
/-- a tuple written, a list written -/
theorem ed_tup {ta : TA} (h : EvDA K ta σ H ds) (hl : ds.length ≤ 100000) : EvD K (tTup ta) σ H (.tuple ds) := fun H1 e Q q =>
  h H1 e _ fun vs H2 e2 hv => ⟨sz_of (by rw [dpAll_len hv]; exact hl), fun p hp => q _ _ (e2.trans (Ex.new hp)) (.tup (st_of upd_same) (dpAll_ex (Ex.new hp) ds hv))⟩
theorem ed_lst {ta : TA} (h : EvDA K ta σ H ds) (hl : ds.length ≤ 100000) : EvN K (tLst ta) σ H ds := fun H1 e Q q =>
  h H1 e _ fun vs H2 e2 hv => ⟨sz_of (by rw [dpAll_len hv]; exact hl), fun p hp => q p vs _ (fresh_back e2 hp) (e2.trans (Ex.new hp)) upd_same (dpAll_ex (Ex.new hp) ds hv)⟩
/-- all(list of truths) -/
theorem ed_all {bs : List Bool} (h : EvD K te σ H (.list (bs.map PyData.bool))) : Ev (tCB (rAll K) (tCons te tNil)) σ H (.bl (bs.all id)) := fun H1 e Q q =>
  h H1 e _ fun v H2 e2 hv => by
    obtain ⟨a, xs, rfl, hs, hd⟩ := dp_lst hv
    rw [bls_of hd] at hs
    exact ⟨a, bs, rfl, hs, q H2 e2⟩
/-- tuple + tuple -/
theorem ed_cat (ha : EvD K ta σ H (.tuple ds)) (hb : EvD K tb σ H (.tuple es)) (hl : ds.length + es.length ≤ 100000) : EvD K (tOp (rCatA K) ta tb) σ H (.tuple (ds ++ es)) := fun H1 e Q q =>
  ha H1 e _ fun v H2 e2 hv => hb H2 (e.trans e2) _ fun w H3 e3 hw => by
    obtain ⟨a, xs, rfl, hs, hd⟩ := dp_tup (dp_ex e3 _ hv)
    obtain ⟨b, ys, rfl, ht, he⟩ := dp_tup hw
    refine ⟨a, b, xs, ys, rfl, rfl, hs, ht, sz_of (by rw [dpAll_len hd, dpAll_len he]; exact hl), fun z => ?_, fun _ z => ?_, fun _ _ p hp => ?_⟩
    · subst z
      have : ds = [] := by
        have := dpAll_len hd
        cases ds with
        | nil => rfl
        | cons _ _ => simp at this
      subst this
      exact q _ H3 (e2.trans e3) hw
    · subst z
      have : es = [] := by
        have := dpAll_len he
        cases es with
        | nil => rfl
        | cons _ _ => simp at this
      subst this
      exact q _ H3 (e2.trans e3) (by rw [List.append_nil]; exact .tup hs hd)
    · exact q _ _ ((e2.trans e3).trans (Ex.new hp)) (.tup (st_of upd_same) (dpAll_app (dpAll_ex (Ex.new hp) ds hd) (dpAll_ex (Ex.new hp) es he)))
end

/-! ### statements -/
section
variable {K : PySem.W.Frag} {σ : L2.St} {H H' : Hp} {ta tb te tx : TE} {t u : TT} {x y z v : V} {D : Ends} {tu tw tz : TS} {g : TG} {d d1 d2 : PyData} {ds : List PyData}
theorem s_retD (h : EvD K te σ H d) (k : ∀ v H1, Ex H H1 → Dp K H1 v d → D.rt v H1) : tRet te D σ H := h H (Ex.refl H) _ k
theorem s_asgD {i : Nat} (h : EvD K te σ H d) (k : ∀ v H1, Ex H H1 → Dp K H1 v d → D.nx (σ.set i (some v)) H1) : tAsg te (gName i) D σ H := h H (Ex.refl H) _ k
theorem q_asgD {i : Nat} (h : EvD K te σ H d) (k : ∀ v H1, Ex H H1 → Dp K H1 v d → tz D (σ.set i (some v)) H1) : tSeq (tAsg te (gName i)) tz D σ H := h H (Ex.refl H) _ k
theorem q_asgN {i : Nat} (h : EvN K te σ H ds) (k : ∀ p xs H1, H p = none → Ex H H1 → H1 p = some (.lst xs) → DpAll K H1 xs ds → tz D (σ.set i (some (.ref p))) H1) : tSeq (tAsg te (gName i)) tz D σ H := h H (Ex.refl H) _ k
theorem q_unp2 {i j : Nat} (h : EvD K te σ H (.tuple [d1, d2])) (k : ∀ v w H1, Ex H H1 → Dp K H1 v d1 → Dp K H1 w d2 → tz D ((σ.set i (some v)).set j (some w)) H1) :
    tSeq (tAsg te (gTup K 2 (gCons (gName i) (gCons (gName j) gNil)))) tz D σ H := h H (Ex.refl H) _ fun v H1 e hv => by
  obtain ⟨a, xs, rfl, hs, hd⟩ := dp_tup hv
  cases hd with
  | cons h1 hd =>
    cases hd with
    | cons h2 hd =>
      cases hd
      exact ⟨a, _, rfl, hs, rfl, _, _, rfl, _, _, rfl, rfl, k _ _ H1 e h1 h2⟩
end

/-! ### what a for, a comprehension walks -/
/-- wi gives the data ds, one by one; wherever the heap has grown from H (stable: G) -/
def Src (K : PySem.W.Frag) (wi : TI) (σ : L2.St) (H : Hp) (ds : List PyData) : Prop :=
  ∀ H1, Ex H H1 → ∀ R : It → Hp → Prop, (∀ J H2 (G : Hp → Prop), Ex H1 H2 → (∀ H', Ex H2 H' → G H') →
    Walk J ds.length G (fun i H x H' => H' = H ∧ ∃ d, ds[i]? = some d ∧ Dp K H x d) → R J H2) → wi σ H1 R
/-- the same where the walked object stood in H already -/
def SrcS (K : PySem.W.Frag) (wi : TI) (σ : L2.St) (H : Hp) (ds : List PyData) : Prop :=
  ∀ H1, Ex H H1 → ∀ R : It → Hp → Prop, (∀ J H2 (G : Hp → Prop), Ex H1 H2 → (∀ H', Ex H H' → G H') →
    Walk J ds.length G (fun i Hc x H' => H' = Hc ∧ ∃ d, ds[i]? = some d ∧ Dp K H x d) → R J H2) → wi σ H1 R
section
variable {K : PySem.W.Frag} {σ : L2.St} {H H' : Hp} {ta tb te tx tl : TE} {t u : TT} {x y z v : V} {D : Ends} {tu tw tz : TS} {g : TG} {d d1 d2 : PyData} {ds : List PyData} {wi : TI}
theorem SrcS.src (h : SrcS K wi σ H ds) : Src K wi σ H ds := fun H1 e R k => h H1 e R fun J H2 G e2 hg w =>
  k J H2 (fun H' => Ex H H') e2 (fun H' e3 => (e.trans e2).trans e3) (w.mono (fun H' e3 => hg H' e3) fun i Hc x H' _ e3 hy => ⟨hy.1, by
    obtain ⟨d, h1, h2⟩ := hy.2
    exact ⟨d, h1, dp_ex e3 _ h2⟩⟩)
theorem walk_sT {H0 : Hp} {a : Addr} {xs : List V} (hd : DpAll K H0 xs ds) : Walk (Itt K a) ds.length (fun H => SqT K H a xs) (fun i Hc x H' => H' = Hc ∧ ∃ d, ds[i]? = some d ∧ Dp K H0 x d) := by
  rw [← dpAll_len hd]
  exact (walk_tup (K := K) (a := a) (xs := xs)).mono (fun H h => h) fun i H x H' hi hg hy => ⟨hy.1, dpAll_at hd hy.2⟩
theorem walk_sL {H0 : Hp} {a : Addr} {xs : List V} (hd : DpAll K H0 xs ds) : Walk (Itl K a) ds.length (fun H => SqL K H a xs) (fun i Hc x H' => H' = Hc ∧ ∃ d, ds[i]? = some d ∧ Dp K H0 x d) := by
  rw [← dpAll_len hd]
  exact (walk_list (K := K) (a := a) (xs := xs)).mono (fun H h => h) fun i H x H' hi hg hy => ⟨hy.1, dpAll_at hd hy.2⟩
theorem Src.mono (e : Ex H H') (h : Src K wi σ H ds) : Src K wi σ H' ds := fun H1 a R k => h H1 (e.trans a) R k
theorem walk_dT {a : Addr} {xs : List V} (hn : xs.length = ds.length) : Walk (Itt K a) ds.length (fun H => SqT K H a xs ∧ DpAll K H xs ds) (fun i H x H' => H' = H ∧ ∃ d, ds[i]? = some d ∧ Dp K H x d) := by
  rw [← hn]
  refine (walk_tup (K := K) (a := a) (xs := xs)).mono (fun H h => h.1) (fun i H x H' hi hg hy => ⟨hy.1, ?_⟩)
  exact dpAll_at hg.2 hy.2
theorem walk_dL {a : Addr} {xs : List V} (hn : xs.length = ds.length) : Walk (Itl K a) ds.length (fun H => SqL K H a xs ∧ DpAll K H xs ds) (fun i H x H' => H' = H ∧ ∃ d, ds[i]? = some d ∧ Dp K H x d) := by
  rw [← hn]
  refine (walk_list (K := K) (a := a) (xs := xs)).mono (fun H h => h.1) (fun i H x H' hi hg hy => ⟨hy.1, ?_⟩)
  exact dpAll_at hg.2 hy.2
theorem src_T (h : EvD K tl σ H (.tuple ds)) : Src K (iTup K tl) σ H ds := fun H1 e R k => h H1 e _ fun v H2 e2 hv => by
  obtain ⟨a, xs, rfl, hs, hd⟩ := dp_tup hv
  exact ⟨a, rfl, ⟨xs, hs⟩, k _ H2 _ e2 (fun H' e3 => ⟨ex_t e3 hs, dpAll_ex e3 ds hd⟩) (walk_dT (dpAll_len hd))⟩
theorem src_L (h : EvD K tl σ H (.list ds)) : Src K (iList K tl) σ H ds := fun H1 e R k => h H1 e _ fun v H2 e2 hv => by
  obtain ⟨a, xs, rfl, hs, hd⟩ := dp_lst hv
  exact ⟨a, rfl, ⟨xs, hs⟩, k _ H2 _ e2 (fun H' e3 => ⟨ex_l e3 hs, dpAll_ex e3 ds hd⟩) (walk_dL (dpAll_len hd))⟩
theorem srcS_T (h : Ev tl σ H v) (hv : Dp K H v (.tuple ds)) : SrcS K (iTup K tl) σ H ds := fun H1 e R k => h H1 e _ fun H2 e2 => by
  obtain ⟨a, xs, rfl, hs, hd⟩ := dp_tup hv
  exact ⟨a, rfl, ⟨xs, ex_t (e.trans e2) hs⟩, k _ H2 _ e2 (fun H' e3 => ex_t e3 hs) (walk_sT hd)⟩
theorem srcS_L (h : Ev tl σ H v) (hv : Dp K H v (.list ds)) : SrcS K (iList K tl) σ H ds := fun H1 e R k => h H1 e _ fun H2 e2 => by
  obtain ⟨a, xs, rfl, hs, hd⟩ := dp_lst hv
  exact ⟨a, rfl, ⟨xs, ex_l (e.trans e2) hs⟩, k _ H2 _ e2 (fun H' e3 => ex_l e3 hs) (walk_sL hd)⟩
/-- the ints of a range -/
def rngD (lo : Int) (n : Nat) : List PyData := (List.range n).map fun (k : Nat) => PyData.int (lo + (k : Int))
theorem rngD_len {lo : Int} {n : Nat} : (rngD lo n).length = n := by unfold rngD; rw [List.length_map, List.length_range]
theorem rngD_at {lo : Int} {n i : Nat} (h : i < n) : (rngD lo n)[i]? = some (.int (lo + (i : Int))) := by unfold rngD; rw [List.getElem?_map, List.getElem?_range h]; rfl
theorem walk_dR {H0 : Hp} {lo : Int} {n : Nat} : Walk (Itr lo n) (rngD lo n).length (fun _ => True) (fun i Hc x H' => H' = Hc ∧ ∃ d, (rngD lo n)[i]? = some d ∧ Dp K H0 x d) := by
  rw [rngD_len]
  refine (walk_range (lo := lo) (n := n)).mono (fun H h => h) (fun i H x H' hi hg hy => ⟨hy.1, _, rngD_at hi, ?_⟩)
  rw [hy.2]
  exact .int _
theorem srcS_R1 {ta : TA} {n : Int} (h : EvA ta σ H [.int n]) (h1 : -100000000 ≤ n ∧ n ≤ 100000000) : SrcS K (iRng1 ta) σ H (rngD 0 n.toNat) := fun H1 e R k => h H1 e _ fun H2 e2 =>
  ⟨n, rfl, by omega, by omega, k _ H2 _ e2 (fun _ _ => trivial) walk_dR⟩
theorem srcS_R2 {ta : TA} {lo n : Int} (h : EvA ta σ H [.int lo, .int n]) (h1 : -100000000 ≤ n ∧ n ≤ 100000000 ∧ -100000000 ≤ lo ∧ lo ≤ 100000000) : SrcS K (iRng2 ta) σ H (rngD lo (n - lo).toNat) := fun H1 e R k => h H1 e _ fun H2 e2 =>
  ⟨lo, n, rfl, ⟨by omega, by omega, by omega, by omega⟩, k _ H2 _ e2 (fun _ _ => trivial) walk_dR⟩

/-! ### loops -/
theorem q_forS {H0 : Hp} {j : Nat} (e0 : Ex H0 H) (h : SrcS K wi σ H0 ds) (Pv : Nat → L2.St → Hp → Prop) (h0 : ∀ H1, Ex H H1 → Pv 0 σ H1) (hG : ∀ i σ' H', Pv i σ' H' → Ex H0 H')
    (hs : ∀ i d x σ' H', ds[i]? = some d → Dp K H0 x d → Pv i σ' H' → tu { D with nx := Pv (i + 1), ct := Pv (i + 1), bk := tz D } (σ'.set j (some x)) H') (hd : ∀ σ' H', Pv ds.length σ' H' → tz D σ' H') :
    tSeq (tFor wi (gName j) tu) tz D σ H := h H e0 _ fun J H2 G e2 hg w =>
  for_it w (D := { D with nx := tz D }) Pv (h0 H2 e2) (fun i σ' H' _ p => hg H' (hG i σ' H' p)) (fun i x σ' Hc H' hi p hy => by
    obtain ⟨rfl, d, h1, h2⟩ := hy
    exact hs i d x σ' H' h1 h2 p) hd
theorem s_forS {H0 : Hp} {j : Nat} (e0 : Ex H0 H) (h : SrcS K wi σ H0 ds) (Pv : Nat → L2.St → Hp → Prop) (h0 : ∀ H1, Ex H H1 → Pv 0 σ H1) (hG : ∀ i σ' H', Pv i σ' H' → Ex H0 H')
    (hs : ∀ i d x σ' H', ds[i]? = some d → Dp K H0 x d → Pv i σ' H' → tu { D with nx := Pv (i + 1), ct := Pv (i + 1), bk := D.nx } (σ'.set j (some x)) H') (hd : ∀ σ' H', Pv ds.length σ' H' → D.nx σ' H') :
    tFor wi (gName j) tu D σ H := h H e0 _ fun J H2 G e2 hg w =>
  for_it w (D := D) Pv (h0 H2 e2) (fun i σ' H' _ p => hg H' (hG i σ' H' p)) (fun i x σ' Hc H' hi p hy => by
    obtain ⟨rfl, d, h1, h2⟩ := hy
    exact hs i d x σ' H' h1 h2 p) hd
/-- over what may be new: the heap H2 behind its making -/
theorem q_forD {j : Nat} (h : Src K wi σ H ds) (Pv : Hp → Nat → L2.St → Hp → Prop) (h0 : ∀ H1, Ex H H1 → Pv H1 0 σ H1) (hG : ∀ H2 i σ' H', Pv H2 i σ' H' → Ex H2 H')
    (hs : ∀ H2 i d x σ' H', Ex H H2 → ds[i]? = some d → Dp K H' x d → Pv H2 i σ' H' → tu { D with nx := Pv H2 (i + 1), ct := Pv H2 (i + 1), bk := tz D } (σ'.set j (some x)) H') (hd : ∀ H2 σ' H', Ex H H2 → Pv H2 ds.length σ' H' → tz D σ' H') :
    tSeq (tFor wi (gName j) tu) tz D σ H := h H (Ex.refl H) _ fun J H2 G e2 hg w =>
  for_it w (D := { D with nx := tz D }) (Pv H2) (h0 H2 e2) (fun i σ' H' _ p => hg H' (hG H2 i σ' H' p)) (fun i x σ' Hc H' hi p hy => by
    obtain ⟨rfl, d, h1, h2⟩ := hy
    exact hs H2 i d x σ' H' e2 h1 h2 p) fun σ' H' p => hd H2 σ' H' e2 p
/-- for k in range(..): if c(k): return r(k) -/
theorem q_find {j : Nat} {lo : Int} {n : Nat} (h : SrcS K wi σ H (rngD lo n)) (b : Nat → Bool)
    (ht : ∀ k H1, k < n → Ex H H1 → EvT t (σ.set j (some (.int (lo + (k : Int))))) H1 (b k))
    (hr : ∀ k H1 D', k < n → b k = true → (∀ i, i < k → b i = false) → Ex H H1 → D'.rt = D.rt → tu D' (σ.set j (some (.int (lo + (k : Int))))) H1)
    (hd : (∀ k, k < n → b k = false) → ∀ σ' H1, Ex H H1 → (σ' = σ ∨ ∃ x, σ' = σ.set j (some x)) → tz D σ' H1) :
    tSeq (tFor wi (gName j) (tIfS t tu tNext)) tz D σ H := by
  refine q_forS (Ex.refl H) h (fun i σ' H' => Ex H H' ∧ (∀ k, k < i → b k = false) ∧ (σ' = σ ∨ ∃ x, σ' = σ.set j (some x))) (fun H1 e => ⟨e, fun k hk => by omega, .inl rfl⟩) (fun i σ' H' p => p.1) (fun i d x σ' H' hi hx p => ?_) fun σ' H' p => hd (fun k hk => p.2.1 k (by rw [rngD_len]; exact hk)) σ' H' p.1 p.2.2
  have hin : i < n := by
    have q := (List.getElem?_eq_some_iff.mp hi).1
    rw [rngD_len] at q
    exact q
  rw [rngD_at hin] at hi
  cases hi
  cases dp_int hx
  obtain ⟨e, hb, hσ⟩ := p
  have es : σ'.set j (some (.int (lo + (i : Int)))) = σ.set j (some (.int (lo + (i : Int)))) := by
    rcases hσ with rfl | ⟨x, rfl⟩
    · rfl
    · rw [List.set_set]
  rw [es]
  refine s_if (ht i H' hin e) (fun hbi H1 e1 => hr i H1 _ hin hbi hb (e.trans e1) rfl) fun hbi H1 e1 => ?_
  exact ⟨e.trans e1, fun k hk => by
    rcases Nat.lt_succ_iff_lt_or_eq.mp hk with z | z
    · exact hb k z
    · rw [z]
      exact hbi, .inr ⟨_, rfl⟩⟩

/-! ### comprehensions: the data that f gives -/
theorem en_lc {j : Nat} {vs : List Nat} (f : PyData → Option PyData) (h : Src K wi σ H ds) (hz : ds.length ≤ 40000) (hw : ∀ x, wipe ((wipe σ vs).set j (some x)) vs = wipe σ vs)
    (ht : ∀ d v H1, Ex H H1 → d ∈ ds → Dp K H1 v d → EvT t ((wipe σ vs).set j (some v)) H1 (f d).isSome)
    (he : ∀ d r v H1, Ex H H1 → d ∈ ds → Dp K H1 v d → f d = some r → EvD K te ((wipe σ vs).set j (some v)) H1 r) (hn : ∀ d r, d ∈ ds → f d = some r → nl r = true) :
    EvN K (tLc wi (gName j) t te vs) σ H (ds.filterMap f) := fun H1 e Q q => h H1 e _ fun J H2 G e2 hg w Dl hD => by
  refine lc_it w (fun i H' => Ex H2 H' ∧ ∃ acc, H' Dl = some (.lst acc) ∧ DpAll K H' acc ((ds.take i).filterMap f)) ⟨Ex.new hD, [], upd_same, by simpa using DpAll.nil⟩ (fun i H' _ p => hg H' p.1) (fun i x H' H'' hi p hy => ?_) (fun H' p => ?_)
  · obtain ⟨rfl, d, hd, hx⟩ := hy
    obtain ⟨p1, acc, p2, p3⟩ := p
    have e3 : Ex H H'' := (e.trans e2).trans p1
    have hm : d ∈ ds := List.mem_of_getElem? hd
    have htk : ds.take (i + 1) = ds.take i ++ [d] := by rw [List.take_add_one, hd]; rfl
    refine ⟨hw x, ht d x H'' e3 hm hx H'' (Ex.refl _) _ fun H3 e4 => ?_⟩
    have hle : acc.length ≤ ds.length := by
      rw [dpAll_len p3]
      exact Nat.le_trans (List.length_filterMap_le _ _) (by rw [List.length_take]; omega)
    cases hf : f d with
    | none =>
      show Ex H2 H3 ∧ _
      refine ⟨p1.trans e4, acc, e4 _ _ p2, ?_⟩
      rw [htk, List.filterMap_append, List.filterMap_cons, hf]
      simpa using dpAll_ex e4 _ p3
    | some r =>
      show te _ H3 _
      refine he d r x H'' e3 hm hx hf H3 e4 _ fun y H4 e5 hyr => ⟨acc, e5 _ _ (e4 _ _ p2), sz_lt (by omega), Ex.mut ((p1.trans e4).trans e5) hD, _, upd_same, ?_⟩
      rw [htk, List.filterMap_append, List.filterMap_cons, hf]
      have hall : nlAll ((ds.take i).filterMap f) = true := nlAll_mem fun r' hr' => by
        obtain ⟨d', h1, h2⟩ := List.mem_filterMap.mp hr'
        exact hn d' r' (List.mem_of_mem_take h1) h2
      exact dpAll_snoc (dpAll_updL (e5 _ _ (e4 _ _ p2)) _ hall (dpAll_ex (e4.trans e5) _ p3)) (dp_updL (e5 _ _ (e4 _ _ p2)) _ (hn d r hm hf) hyr)
  · obtain ⟨p1, acc, p2, p3⟩ := p
    rw [List.take_length] at p3
    exact q Dl acc H' (fresh_back e2 hD) (e2.trans p1) p2 p3
end
end WR
set_option Elab.async false
set_option linter.all false
set_option maxRecDepth 100000
set_option maxHeartbeats 1000000
namespace WR
open PySem PySem.Spec PyProof.Rows L2 Evl
/-! ### isinstance upon data -/
def tyName : PyData → String
  | .none => "NoneType"
  | .bool _ => "bool"
  | .int _ => "int"
  | .str _ => "str"
  | .list _ => "list"
  | .tuple _ => "tuple"
  | .dict _ => "dict"
theorem tyx_of {K : PySem.W.Frag} {H : Hp} {v : V} {d : PyData} (h : Dp K H v d) : TyX K H v (.type (tyName d)) := by
  cases h with
  | non => exact .base .non
  | bl b => exact .base (.bl b)
  | int i => exact .base (.int i)
  | str x => exact .base (.str x)
  | lst a b =>
    rcases a with (a | ⟨o, a⟩) | ⟨o, its, n, a, c, _⟩
    · exact .base (.lst a)
    · exact .base (.frz a)
    · exact .kList a c
  | tup a b =>
    rcases a with (a | ⟨o, a⟩) | ⟨o, its, n, a, c, _⟩
    · exact .base (.tup a)
    · exact .fTuple a
    · exact .kTuple a c
theorem ev_isi {K : PySem.W.Frag} {σ : L2.St} {H : Hp} {te : TE} {d : PyData} {T : String} {b : Bool} (h : EvD K te σ H d) (hk : kitB (tyName d) T = some b) :
    Ev (tCB (rIsi K) (tCons te (tCons (tC (.ty T)) tNil))) σ H (.bl b) := fun H1 e Q q =>
  h H1 e _ fun v H2 e2 hv => ⟨v, .ty T, _, _, b, rfl, .ty T, tyx_of hv, kit_ty hk, q H2 e2⟩
def isTup : PyData → Bool | .tuple _ => true | _ => false
def isInt : PyData → Bool | .int _ => true | _ => false
def isIntB : PyData → Bool | .int _ => true | .bool _ => true | _ => false
def isBool : PyData → Bool | .bool _ => true | _ => false
theorem kit_tup (d : PyData) : kitB (tyName d) "tuple" = some (isTup d) := by cases d <;> (simp only [tyName, isTup]; decide +kernel)
theorem kit_int (d : PyData) : kitB (tyName d) "int" = some (isIntB d) := by cases d <;> (simp only [tyName, isIntB]; decide +kernel)
theorem kit_bool (d : PyData) : kitB (tyName d) "bool" = some (isBool d) := by cases d <;> (simp only [tyName, isBool]; decide +kernel)

theorem ev_chain {K : PySem.W.Frag} {σ : L2.St} {H : Hp} {ta tb tc : TE} {a i b : Int} {p1 p2 : Int → Int → Bool} (ha : EvD K ta σ H (.int a)) (hb : EvD K tb σ H (.int i)) (hc : EvD K tc σ H (.int b)) :
    Ev (tChain (rI0 fun i j => .bl (p1 i j)) (rI0 fun i j => .bl (p2 i j)) ta tb tc) σ H (.bl (p1 a i && p2 i b)) := fun H1 e Q q =>
  ha H1 e _ fun v H2 e2 hv => hb H2 (e.trans e2) _ fun w H3 e3 hw => by
    cases dp_int hv
    cases dp_int hw
    refine ⟨a, i, rfl, rfl, _, rfl, ?_⟩
    cases h : p1 a i with
    | false =>
      rw [h] at q
      exact q H3 (e2.trans e3)
    | true =>
      rw [h] at q
      show tc σ H3 _
      refine hc H3 ((e.trans e2).trans e3) _ fun x H4 e4 hx => ?_
      cases dp_int hx
      exact ⟨i, b, rfl, rfl, q H4 ((e2.trans e3).trans e4)⟩
theorem spD_len {K : PySem.W.Frag} {F : List PyData → Option PyData} {n : Nat} (hF : ∀ ds r, F ds = some r → ds.length = n) {vs : List V} {H : Hp} {Q : VK} {E : XK} (h : spD K F vs H Q E) : vs.length = n := by
  obtain ⟨ds, r, hd, hf, _⟩ := h
  rw [dpAll_len hd]
  exact hF ds r hf
theorem dpAll_1 {K : PySem.W.Frag} {H : Hp} {vs : List V} {d : PyData} (h : DpAll K H vs [d]) : ∃ v, vs = [v] ∧ Dp K H v d := by
  cases h with
  | cons a b => cases b; exact ⟨_, rfl, a⟩
theorem dpAll_2 {K : PySem.W.Frag} {H : Hp} {vs : List V} {d e : PyData} (h : DpAll K H vs [d, e]) : ∃ v w, vs = [v, w] ∧ Dp K H v d ∧ Dp K H w e := by
  cases h with
  | cons a b =>
    obtain ⟨w, rfl, c⟩ := dpAll_1 b
    exact ⟨_, w, rfl, a, c⟩
theorem dpAll_3 {K : PySem.W.Frag} {H : Hp} {vs : List V} {d e f : PyData} (h : DpAll K H vs [d, e, f]) : ∃ v w x, vs = [v, w, x] ∧ Dp K H v d ∧ Dp K H w e ∧ Dp K H x f := by
  cases h with
  | cons a b =>
    obtain ⟨w, x, rfl, c⟩ := dpAll_2 b
    exact ⟨_, w, x, rfl, a, c⟩
/-- functions upon data, by their number of arguments -/
def f1 (g : PyData → Option PyData) : List PyData → Option PyData | [a] => g a | _ => none
def f2 (g : PyData → PyData → Option PyData) : List PyData → Option PyData | [a, b] => g a b | _ => none
def f3 (g : PyData → PyData → PyData → Option PyData) : List PyData → Option PyData | [a, b, c] => g a b c | _ => none
theorem f1_len {g : PyData → Option PyData} : ∀ ds r, f1 g ds = some r → ds.length = 1
  | [_], _, _ => rfl
theorem f2_len {g : PyData → PyData → Option PyData} : ∀ ds r, f2 g ds = some r → ds.length = 2
  | [_, _], _, _ => rfl
theorem f3_len {g : PyData → PyData → PyData → Option PyData} : ∀ ds r, f3 g ds = some r → ds.length = 3
  | [_, _, _], _, _ => rfl
theorem sp1 {K : PySem.W.Frag} {g : PyData → Option PyData} {vs : List V} {H : Hp} {Q : VK} {E : XK} (h : spD K (f1 g) vs H Q E) :
    ∃ v d r, vs = [v] ∧ Dp K H v d ∧ g d = some r ∧ ∀ v H', Ex H H' → Dp K H' v r → Q v H' := by
  obtain ⟨ds, r, hd, hf, q⟩ := h
  match ds, hf with
  | [d], hf =>
    obtain ⟨v, rfl, hv⟩ := dpAll_1 hd
    exact ⟨v, d, r, rfl, hv, hf, q⟩
theorem sp2 {K : PySem.W.Frag} {g : PyData → PyData → Option PyData} {vs : List V} {H : Hp} {Q : VK} {E : XK} (h : spD K (f2 g) vs H Q E) :
    ∃ v w d e r, vs = [v, w] ∧ Dp K H v d ∧ Dp K H w e ∧ g d e = some r ∧ ∀ v H', Ex H H' → Dp K H' v r → Q v H' := by
  obtain ⟨ds, r, hd, hf, q⟩ := h
  match ds, hf with
  | [d, e], hf =>
    obtain ⟨v, w, rfl, hv, hw⟩ := dpAll_2 hd
    exact ⟨v, w, d, e, r, rfl, hv, hw, hf, q⟩
theorem sp3 {K : PySem.W.Frag} {g : PyData → PyData → PyData → Option PyData} {vs : List V} {H : Hp} {Q : VK} {E : XK} (h : spD K (f3 g) vs H Q E) :
    ∃ v w x d e f r, vs = [v, w, x] ∧ Dp K H v d ∧ Dp K H w e ∧ Dp K H x f ∧ g d e f = some r ∧ ∀ v H', Ex H H' → Dp K H' v r → Q v H' := by
  obtain ⟨ds, r, hd, hf, q⟩ := h
  match ds, hf with
  | [d, e, f], hf =>
    obtain ⟨v, w, x, rfl, hv, hw, hx⟩ := dpAll_3 hd
    exact ⟨v, w, x, d, e, f, r, rfl, hv, hw, hx, hf, q⟩

theorem fm_map {α β : Type} {f : α → Option β} {g : α → β} : ∀ {l : List α}, (∀ x ∈ l, f x = some (g x)) → l.filterMap f = l.map g
  | [], _ => rfl
  | x :: l, h => by
    rw [List.filterMap_cons, h x (List.mem_cons_self ..), List.map_cons]
    show g x :: _ = _
    rw [fm_map fun y hy => h y (List.mem_cons_of_mem _ hy)]
end WR
set_option Elab.async false
set_option linter.all false
set_option maxRecDepth 100000
set_option maxHeartbeats 1000000
namespace WR
open PySem PySem.Spec PyProof.Rows L2 Evl
/-! ### webs as data -/
def natD (k : Nat) : PyData := .int (k : Int)
def kidsD (ks : List Nat) : PyData := .tuple (ks.map natD)
def webD (l : Nat) (inner : List (List Nat)) : PyData := .tuple [natD l, .tuple (inner.map kidsD)]
/-- leaves and items in their bounds -/
structure Raw (l : Nat) (inner : List (List Nat)) : Prop where
  l1 : 1 ≤ l
  l8 : l ≤ 8
  n20 : inner.length ≤ 20
  lt : ∀ j ks, inner[j]? = some ks → ∀ k ∈ ks, k < l + j
  len : ∀ ks ∈ inner, ks.length ≤ 30
/-- a promise of a def of a web -/
def spW (K : PySem.W.Frag) (g : Nat → List (List Nat) → PyData) : Sp := fun vs H Q _ =>
  ∃ v l inner, vs = [v] ∧ Dp K H v (webD l inner) ∧ Raw l inner ∧ ∀ r H', Ex H H' → Dp K H' r (g l inner) → Q r H'
/-- of a web and a kind -/
def spWK (K : PySem.W.Frag) (g : Nat → List (List Nat) → Nat → PyData) : Sp := fun vs H Q _ =>
  ∃ v l inner k, vs = [v, .int ((k : Nat) : Int)] ∧ Dp K H v (webD l inner) ∧ Raw l inner ∧ k < l + inner.length ∧ ∀ r H', Ex H H' → Dp K H' r (g l inner k) → Q r H'
theorem spW_len {K : PySem.W.Frag} {g : Nat → List (List Nat) → PyData} {vs : List V} {H : Hp} {Q : VK} {E : XK} (h : spW K g vs H Q E) : vs.length = 1 := by
  obtain ⟨v, l, inner, rfl, _⟩ := h
  rfl
theorem spWK_len {K : PySem.W.Frag} {g : Nat → List (List Nat) → Nat → PyData} {vs : List V} {H : Hp} {Q : VK} {E : XK} (h : spWK K g vs H Q E) : vs.length = 2 := by
  obtain ⟨v, l, inner, k, rfl, _⟩ := h
  rfl
section
variable {K : PySem.W.Frag} {σ : L2.St} {H H' : Hp} {ta tb te tx : TE} {D : Ends} {tu tw tz : TS} {l : Nat} {inner : List (List Nat)} {k : Nat}
theorem ed_callW {g : Nat → List (List Nat) → PyData} {E : XK} (h : EvD K te σ H (webD l inner)) (hw : Raw l inner) : EvD K (tCall (spW K g) [] E (tCons te tNil)) σ H (g l inner) := fun H1 e Q q =>
  h H1 e _ fun v H2 e2 hv => ⟨v, l, inner, rfl, hv, hw, fun r H3 e3 hr => q r H3 (e2.trans e3) hr⟩
theorem ed_callWK {g : Nat → List (List Nat) → Nat → PyData} {E : XK} (h : EvD K te σ H (webD l inner)) (hk : EvD K tx σ H (natD k)) (hw : Raw l inner) (hlt : k < l + inner.length) :
    EvD K (tCall (spWK K g) [] E (tCons te (tCons tx tNil))) σ H (g l inner k) := fun H1 e Q q =>
  h H1 e _ fun v H2 e2 hv => hk H2 (e.trans e2) _ fun w H3 e3 hw' => by
    cases dp_int hw'
    exact ⟨v, l, inner, k, rfl, dp_ex e3 _ hv, hw, hlt, fun r H4 e4 hr => q r H4 ((e2.trans e3).trans e4) hr⟩
end
def topN (l : Nat) (inner : List (List Nat)) : Nat := l + inner.length - 1
def kidsAt (l : Nat) (inner : List (List Nat)) (k : Nat) : List Nat := if k < l then [] else inner.getD (k - l) []
end WR
set_option Elab.async false
set_option linter.all false
set_option maxRecDepth 100000
set_option maxHeartbeats 1000000
namespace WR
open PySem PySem.Spec PyProof.Rows L2 Evl
/-! ### how many parents each kind has -/
def bump (cs : List Int) (k : Nat) : List Int := cs.set k (cs.getD k 0 + 1)
def bumpAll (cs : List Int) (ks : List Nat) : List Int := ks.foldl bump cs
def cntF (n : Nat) (inner : List (List Nat)) : List Int := inner.foldl bumpAll (List.replicate n 0)
theorem bump_len (cs : List Int) (k : Nat) : (bump cs k).length = cs.length := by unfold bump; rw [List.length_set]
theorem bumpAll_len : ∀ (ks : List Nat) (cs : List Int), (bumpAll cs ks).length = cs.length
  | [], _ => rfl
  | k :: ks, cs => by
    show (bumpAll (bump cs k) ks).length = _
    rw [bumpAll_len ks, bump_len]
theorem foldl_bump_len : ∀ (inner : List (List Nat)) (cs : List Int), (inner.foldl bumpAll cs).length = cs.length
  | [], _ => rfl
  | ks :: inner, cs => by
    show (inner.foldl bumpAll (bumpAll cs ks)).length = _
    rw [foldl_bump_len inner, bumpAll_len]
theorem cntF_len (n : Nat) (inner : List (List Nat)) : (cntF n inner).length = n := by
  unfold cntF
  rw [foldl_bump_len, List.length_replicate]
theorem cntF_take {n i : Nat} {inner : List (List Nat)} {ks : List Nat} (h : inner[i]? = some ks) : cntF n (inner.take (i + 1)) = bumpAll (cntF n (inner.take i)) ks := by
  unfold cntF
  rw [List.take_add_one, h, List.foldl_append]
  rfl
theorem bumpAll_take {cs : List Int} {ks : List Nat} {j k : Nat} (h : ks[j]? = some k) : bumpAll cs (ks.take (j + 1)) = bump (bumpAll cs (ks.take j)) k := by
  unfold bumpAll
  rw [List.take_add_one, h, List.foldl_append]
  rfl
/-- of each kind of a web -/
def cnts (l : Nat) (inner : List (List Nat)) : List Int := cntF (l + inner.length) inner
theorem fm_rng {f : PyData → Option PyData} {g : Nat → PyData} {lo : Int} {n : Nat} (h : ∀ k : Nat, k < n → f (.int (lo + (k : Int))) = some (g k)) : (rngD lo n).filterMap f = (List.range n).map g := by
  unfold rngD
  rw [List.filterMap_map]
  exact fm_map fun k hk => h k (List.mem_range.mp hk)
end WR
set_option Elab.async false
set_option linter.all false
namespace WR
open PySem
def topS (i : Nat) : Stmt := PySem.Challenge.pw_wayrows_k03_bounds_of_webs.main.body.getD i (.Pass ⟨0, 0, 0, 0⟩)
abbrev sIsInt : Stmt := topS 3
abbrev sBetw : Stmt := topS 4
abbrev sAsc : Stmt := topS 5
abbrev sErr : Stmt := topS 7
abbrev sLink : Stmt := topS 8
abbrev sCnt : Stmt := topS 9
abbrev sRoot : Stmt := topS 10
abbrev sKids : Stmt := topS 11
abbrev sDeck : Stmt := topS 13
abbrev sDraw : Stmt := topS 14
abbrev sOne : Stmt := topS 15
abbrev sComb : Stmt := topS 16
abbrev sFan : Stmt := topS 17
abbrev sLaw : Stmt := topS 18
end WR
set_option Elab.async false
set_option linter.all false
set_option maxRecDepth 100000
set_option maxHeartbeats 1000000
namespace WR
open PySem PySem.Spec PyProof.Rows L2 Evl
theorem scRoot : FnScope ["web", "leaves", "inner"] ["web"] (defScope sRoot) := ⟨rfl, rfl, rfl, by decide +kernel, rfl, by decide +kernel, by decide +kernel⟩
theorem scKids : FnScope ["web", "kind", "leaves", "inner"] ["web", "kind"] (defScope sKids) := ⟨rfl, rfl, rfl, by decide +kernel, rfl, by decide +kernel, by decide +kernel⟩
section
variable {P : Program} {w : World} {K : PySem.W.Frag} {mg : Str → Option Value} {base : Heap}
theorem ok_root {f : Addr} {fd : FuncData} (F : Fun K "root" "root" sRoot f fd) (m5 : mg "len" = none) : FnOk P w K mg base CX0 1 f fd ["web"] (spW K fun l inner => natD (topN l inner)) := by
  refine F.ok scRoot (fun vs H Q E h => spW_len h) (fun cdv A outer s H vs Q E hr h => ?_)
  obtain ⟨v, l, inner, rfl, hv, hw, q⟩ := h
  refine ⟨_, pss_cons (ps_asg (pv 0) (pg_tup rfl (pgs_cons (pg_name (i := 1) scRoot.nd rfl (.inl rfl)) (pgs_cons (pg_name (i := 2) scRoot.nd rfl (.inl rfl)) pgs_nil))))
    (pss_one (ps_ret (pe_op op_sub (pe_op op_add (pv 1) (pe_callB call_len_seq (by rfl) m5 PySem.boot_len (pa_cons (pv 2) pa_nil))) pe_int))), ?_⟩
  refine q_unp2 (ed_var rfl hv) fun x y H1 e1 hx hy => ?_
  refine s_retD (d := natD (topN l inner)) (ed_is (ed_i (ev_op (ev_op (ev_i (ed_var rfl hx)) (ed_lenT (ed_var rfl hy)) rv_I0) ev_c rv_I0)) ?_) fun v H2 e2 hr => q v H2 (e1.trans e2) hr
  show PyData.int _ = PyData.int _
  have := hw.l1
  rw [List.length_map]
  unfold topN
  congr 1
  omega
theorem ok_kids {f : Addr} {fd : FuncData} (F : Fun K "children" "children" sKids f fd) : FnOk P w K mg base CX0 1 f fd ["web", "kind"] (spWK K fun l inner k => kidsD (kidsAt l inner k)) := by
  refine F.ok scKids (fun vs H Q E h => spWK_len h) (fun cdv A outer s H vs Q E hr h => ?_)
  obtain ⟨v, l, inner, k, rfl, hv, hw, hlt, q⟩ := h
  refine ⟨_, pss_cons (ps_asg (pv 0) (pg_tup rfl (pgs_cons (pg_name (i := 2) scKids.nd rfl (.inl rfl)) (pgs_cons (pg_name (i := 3) scKids.nd rfl (.inl rfl)) pgs_nil))))
    (pss_cons (ps_if (pt_cmpR op_lt (pv 1) (pv 2) (nomark _)) (pss_one (ps_ret (pe_tup pa_nil))) pss_nil)
    (pss_one (ps_ret (pe_ix ix_tup (pv 3) (pe_op op_sub (pv 1) (pv 2)) (fun _ _ => rfl))))), ?_⟩
  refine q_unp2 (ed_var rfl hv) fun x y H1 e1 hx hy => ?_
  refine q_when (b := decide ((k : Int) < (l : Int))) (et_test (ev_op (ev_var rfl) (ev_i (ed_var rfl hx)) rv_I0)) (fun hb H2 e2 => ?_) fun hb H2 e2 => ?_
  · have hb := of_decide_eq_true hb
    refine s_retD (K := K) (d := .tuple []) (ed_tup eda_nil (by simp)) fun v H3 e3 hr => q v H3 ((e1.trans e2).trans e3) ?_
    show Dp K H3 v (kidsD (kidsAt l inner k))
    rw [show kidsAt l inner k = [] from if_pos (by omega)]
    exact hr
  · have hb := of_decide_eq_false hb
    have hi : k - l < inner.length := by omega
    refine s_retD (d := kidsD (inner.getD (k - l) [])) (ed_ixT (n := k - l) (ed_var rfl (dp_ex e2 _ hy)) (ed_i (ev_op (ev_var rfl) (ev_i (ed_var rfl (dp_ex e2 _ hx))) rv_I0)) (by omega) ?_) fun v H3 e3 hr => q v H3 ((e1.trans e2).trans e3) ?_
    · rw [List.getElem?_map, List.getElem?_eq_getElem hi, List.getD_eq_getElem?_getD, List.getElem?_eq_getElem hi]
      rfl
    · show Dp K H3 v (kidsD (kidsAt l inner k))
      rw [show kidsAt l inner k = inner.getD (k - l) [] from if_neg (by omega)]
      exact hr
end
end WR
set_option Elab.async false
set_option linter.all false
set_option maxRecDepth 100000
set_option maxHeartbeats 1000000
namespace WR
open PySem PySem.Spec PyProof.Rows L2 Evl
abbrev nCnt : List Str := ["web", "counts", "item", "child", "_"]
theorem scCnt : FnScope nCnt ["web"] (defScope sCnt) := ⟨rfl, rfl, rfl, by decide +kernel, rfl, by decide +kernel, by decide +kernel⟩
section
variable {P : Program} {w : World} {K : PySem.W.Frag} {mg : Str → Option Value} {base : Heap}
theorem ok_cnt {f fR : Addr} {fd fdR : FuncData} (F : Fun K "parent_counts" "parent_counts" sCnt f fd) (FR : Fun K "root" "root" sRoot fR fdR) (bR : Binds K fdR ["web"] []) (gR : mg "root" = some (.ref fR))
    (m4 : mg "range" = none) (G : FnOk P w K mg base CX0 1 fR fdR ["web"] (spW K fun l inner => natD (topN l inner))) :
    FnOk P w K mg base CX0 2 f fd ["web"] (spW K fun l inner => .list ((cnts l inner).map PyData.int)) := by
  refine F.ok scCnt (fun vs H Q E h => spW_len h) (fun cdv A outer s H vs Q E hr h => ?_)
  obtain ⟨v, l, inner, rfl, hv, hw, q⟩ := h
  refine ⟨_, pss_cons (ps_setLc (i := 1) (own := [("_", 4)]) (g := gName 4) (tt := tYes) rfl scCnt.nd rfl rfl (sw_true rfl rfl rfl (by decide +kernel))
      (pi_range1 (by rfl) m4 (pa_cons (pe_op op_add (pe_call G hr (by rfl) gR FR.kp bR .nil pass0 (pa_cons (pv 0) pa_nil)) pe_int) pa_nil)) (blkOk_by (N := nCnt) (sc := defScope sCnt) (by decide +kernel))
      (fun _ _ _ _ _ => pg_name (i := 4) scCnt.nd rfl (Or.inl rfl)) (fun _ _ _ _ _ => pts_nil) (fun _ _ _ _ _ => pe_int))
    (pss_cons (ps_for PassesOwn.never rfl (pi_tup (pe_ix ix_tup (pv 0) pe_int (fun _ _ => rfl))) (pg_name (i := 2) scCnt.nd rfl (.inl rfl))
      (pss_one (ps_for PassesOwn.never rfl (pi_tup (pv 2)) (pg_name (i := 3) scCnt.nd rfl (.inl rfl))
        (pss_one (ps_asg (pe_op op_add (pe_ix ix_list (pv 1) (pv 3) (fun _ _ => rfl)) pe_int) (pg_sub (pv 1) (pv 3) set_list))))))
    (pss_one (ps_ret (pv 1)))), ?_⟩
  have hn := hw.n20
  have h8 := hw.l8
  have h1 := hw.l1
  obtain ⟨n, en⟩ : ∃ n, n = l + inner.length := ⟨_, rfl⟩
  have hN : (n : Int) = ((topN l inner : Nat) : Int) + 1 := by unfold topN; omega
  refine q_asgN (K := K) (ds := (List.replicate n (0 : Int)).map PyData.int) ?_ fun p xs H1 hp e1 hH1 hd1 => ?_
  · have hR := srcS_R1 (K := K) (σ := start nCnt [v]) (H := H) (n := (n : Int)) (ta := tCons (tOp (rI0 fun i j => .int (i + j)) (tCall (spW K fun l inner => natD (topN l inner)) [] E0 (tCons (tVar 0) tNil)) (tC (.int 1))) tNil)
      (ea_cons (ev_is (ev_op (ev_i (K := K) (ed_callW (ed_var rfl hv) hw)) ev_c rv_I0) (by rw [hN])) ea_nil) (by omega)
    rw [show (n : Int).toNat = n by omega] at hR
    have hL := en_lc (K := K) (σ := start nCnt [v]) (H := H) (t := tYes) (te := tC (.int 0)) (j := 4) (vs := [4]) (fun _ => some (.int 0)) hR.src (by rw [rngD_len]; omega) (fun _ => rfl) (fun _ _ _ _ _ _ => fun H1 _ _ q => q H1 (Ex.refl H1))
      (fun d r w H2 e2 _ _ hr => by cases hr; exact ed_i ev_c) (fun d r _ hr => by cases hr; rfl)
    rw [fm_rng (g := fun _ => .int 0) (fun _ _ => rfl)] at hL
    have ez : (List.range n).map (fun _ => PyData.int 0) = (List.replicate n (0 : Int)).map PyData.int := by
      rw [List.map_replicate, List.map_const', List.length_range]
    rw [ez] at hL
    exact hL
  have ex1 : xs = (List.replicate n (0 : Int)).map V.int := ints_of hd1
  subst ex1
  obtain ⟨a, ys, rfl, hs, hy⟩ := dp_tup hv
  cases hy with
  | cons y0 hy =>
  cases hy with
  | cons y1 hy =>
  cases hy
  rename_i u0 u1
  refine q_forS (H0 := H) e1 (srcS_T (v := u1) (ev_op (x := .ref a) (y := .int 1) (ev_var rfl) ev_c (rv_ixT hs rfl)) y1) (fun i σ' H' => Ex H H' ∧ H' p = some (.lst ((cntF n (inner.take i)).map V.int)) ∧ ∃ y2 y3, σ' = [some (.ref a), some (.ref p), y2, y3, none]) (fun H2 e2 => ⟨e1.trans e2, e2 _ _ hH1, _, _, rfl⟩) (fun i σ' H' p => p.1) (fun i d x σ' H' hi hx p' => ?_) (fun σ' H' p' => ?_)
  · obtain ⟨e2, hp2, y2, y3, rfl⟩ := p'
    rw [List.getElem?_map] at hi
    obtain ⟨ks, hks, rfl⟩ := Option.map_eq_some_iff.mp hi
    refine s_forS (H0 := H) e2 (srcS_T (v := x) (ev_var rfl) hx) (fun j σ' H' => Ex H H' ∧ H' p = some (.lst ((bumpAll (cntF n (inner.take i)) (ks.take j)).map V.int)) ∧ ∃ y3, σ' = [some (.ref a), some (.ref p), some x, y3, none]) (fun H3 e3 => ⟨e2.trans e3, e3 _ _ hp2, _, rfl⟩) (fun j σ' H' p => p.1) (fun j d y σ' H' hj hyv p' => ?_) (fun σ' H' p' => ?_)
    · obtain ⟨e3, hp3, z3, rfl⟩ := p'
      rw [List.getElem?_map] at hj
      obtain ⟨k, hk, rfl⟩ := Option.map_eq_some_iff.mp hj
      cases dp_int hyv
      have hkm : k < n := by
        have q1 := hw.lt i ks hks k (List.mem_of_getElem? hk)
        have q2 := (List.getElem?_eq_some_iff.mp hks).1
        omega
      have hcl : (bumpAll (cntF n (inner.take i)) (ks.take j)).length = n := by rw [bumpAll_len, cntF_len]
      generalize hcs : bumpAll (cntF n (inner.take i)) (ks.take j) = cs at hp3 hcl
      have hat : (cs.map V.int)[k]? = some (.int (cs.getD k 0)) := by
        rw [List.getElem?_map, List.getD_eq_getElem?_getD, List.getElem?_eq_getElem (by omega)]
        rfl
      refine s_setL (j := k) (v := .int (cs.getD k 0 + 1)) hp3 (ev_op (ev_op (ev_var rfl) (ev_var rfl) (rv_ixL (K := K) (sq_of hp3) (atI_nat hat))) ev_c rv_I0) (ev_var rfl) (ev_var rfl) (by rw [List.length_map]; omega) fun H4 e4 => ?_
      refine ⟨Ex.mut (e3.trans e4) hp, ?_, _, rfl⟩
      rw [bumpAll_take hk, hcs, upd_same]
      unfold bump
      rw [List.map_set]
    · obtain ⟨e3, hp3, z3, rfl⟩ := p'
      refine ⟨e3, ?_, _, _, rfl⟩
      rw [cntF_take hks]
      have hlen : (ks.map natD).length = ks.length := List.length_map ..
      rw [hlen, List.take_length] at hp3
      exact hp3
  · obtain ⟨e2, hp2, y2, y3, rfl⟩ := p'
    refine s_retD (K := K) (ed_var rfl (.lst (sq_of hp2) (dpAll_ints _))) fun r H3 e3 hr => q r H3 (e2.trans e3) ?_
    rw [List.length_map, List.take_length] at hr
    subst en
    exact hr
end
end WR
set_option Elab.async false
set_option linter.all false
set_option maxRecDepth 100000
set_option maxHeartbeats 1000000
namespace WR
open PySem PySem.Spec PyProof.Rows L2 Evl
section
variable {prog : Program} {w : World} {A : Around} {E : Value → Shared → Prop} {s : Shared}
theorem collect_tup {l : Addr} {vs : List Value} {Q : List Value → Shared → Prop} (hT : s.heap.IsTuple l vs.toArray) (hz : vs.length ≤ sizeLine)
    (k : Q vs { s with heap := (s.heap.push (seqObj "list" #[] 0)).update s.heap.objs.size (Obj.mapSeq (· ++ vs.toArray)) }) :
    wpAny (model prog w) A (collect (.ref l)) Q E s := by
  obtain ⟨ob, hob, hcl, n, hdat⟩ := id hT
  unfold collect
  refine wpAny_bind (wpAny_runValue ?_)
  refine codeAny_builtin entry_proto_collect' ?_
  show wpAny _ _ (do
    again (.builtin "list.__iadd__" ⟨[← newList [], .ref l], []⟩)) _ _ s
  refine wpAny_bind (wpAny_newList ?_)
  refine wpAny_pure ⟨Code.quiet_builtin _ (by decide +kernel), ?_⟩
  refine codeAny_builtin entry_list_iadd' ?_
  show wpAny _ _ (Builtin.List.listExtendWith
    (.ref s.heap.objs.size) (.ref l) (.ref s.heap.objs.size)) _ _ { s with heap := s.heap.push (seqObj "list" #[] 0) }
  unfold Builtin.List.listExtendWith
  have hob' : (s.heap.push (seqObj "list" #[] 0)).get? l = some ob :=
    Heap.get?_push_of_some _ hob
  have new := Heap.get?_push_size s.heap (o := seqObj "list" #[] 0) rfl
  refine wpAny_bind (wpAny_typeOf (T := "tuple") ⟨ob, hob', hcl⟩ ?_)
  rw [if_pos (by
    rw [show (Value.type "tuple" == Value.type "tuple") = true from rfl]
    simp)]
  refine wpAny_bind (listItems_at hob' hdat ?_)
  refine wpAny_bind (listItems_at new rfl ?_)
  rw [if_neg (by simp)]
  refine wpAny_bind (listUpdate_at new rfl ?_ (Nat.zero_le _) ?_)
  · refine wpAny_pure ?_
    show wpAny (model prog w) A (do
        let o ← load s.heap.objs.size
        match o.data with
        | .seq ys _ => pure ys.toList
        | _ => unsupported "internal:collect") Q E { s with heap := (s.heap.push (seqObj "list" #[] 0)).update s.heap.objs.size (Obj.mapSeq (· ++ vs.toArray)) }
    refine wpAny_bind (wpAny_load (get?_update_seq new _) ?_)
    have e : ((#[] : Array Value) ++ vs.toArray).toList = vs := by simp
    show wpAny _ _ (pure ((#[] : Array Value) ++ vs.toArray).toList) Q E _
    rw [e]
    exact wpAny_pure k
  · show (#[] ++ vs.toArray).size ≤ sizeLine + 1
    simp only [Array.size_append, List.size_toArray, List.length_nil]
    omega
theorem sorted_tupI {l : Addr} {vs : List Value} {ns : List Int} {Q : Value → Shared → Prop} (hT : s.heap.IsTuple l vs.toArray) (hi : IntsAre vs ns) (h64 : vs.length < 64)
    (k : ∀ (out : Array Value) (ns' : List Int), IntsAre out.toList ns' → ns'.Perm ns → ns'.Pairwise (· ≤ ·) →
      Q (.ref (s.heap.objs.size + 1)) { s with heap := sortedAll s.heap vs out }) :
    wpAny (model prog w) A (call (.builtin "sorted") [.ref l]) Q E s := by
  refine Calls.call_function_entry kind_sorted plain_sorted
    entry_sorted (args_sorted1 _) ?_
  unfold Builtin.«sorted»
  refine wpAny_bind (m := checkCount "sorted" 1 1 _) ?_
  refine wpAny_pure (wpAny_bind (collect_tup hT (small64 h64) ?_))
  refine wpAny_bind (wpAny_newList ?_)
  let h1 : Heap := (s.heap.push (seqObj "list" #[] 0)).update s.heap.objs.size (Obj.mapSeq (· ++ vs.toArray))
  have sz : h1.objs.size = s.heap.objs.size + 1 := by
    show ((s.heap.push (seqObj "list" #[] 0)).update s.heap.objs.size _).objs.size = _
    rw [Heap.size_update, size_push']
  have at2 : (h1.push (seqObj "list" vs.toArray 0)).get? (s.heap.objs.size + 1) = some (seqObj "list" vs.toArray 0) := by
    rw [← sz]
    exact Heap.get?_push_size _ rfl
  show wpAny _ _ _ _ _ { s with heap := h1.push (seqObj "list" vs.toArray 0) }
  rw [show (s.heap.push (seqObj "list" #[] 0)).update s.heap.objs.size (Obj.mapSeq (· ++ vs.toArray)) = h1 from rfl, sz]
  refine wpAny_bind (wpAny_holding ?_)
  refine wpAny_call_entry slot_list_sort ⟨_, at2, rfl⟩ entry_list_sort ?_ (args_list_sort _)
  refine list_sort_tree at2 hi h64 fun out ns' a1 a2 a3 => ⟨_, rfl, ?_⟩
  exact wpAny_pure ⟨_, rfl, k out ns' a1 a2 a3⟩
end
section
variable {X : Cx}
/-- sorted of a list or a tuple of ints -/
def rSortedA (K : PySem.W.Frag) : List V → Hp → VK → Prop := fun vs H Q =>
  ∃ (a : Addr) (ns : List Int), vs = [V.ref a] ∧ (SqL K H a (ns.map V.int) ∨ SqT K H a (ns.map V.int)) ∧ ns.length < 64 ∧
    ∀ (ns' : List Int) (p : Addr), ns'.Perm ns → ns'.Pairwise (· ≤ ·) → H p = none → Q (.ref p) (upd H p (.lst (ns'.map V.int)))
theorem cr_sortedA : CallR X (.builtin "sorted") (rSortedA X.K) := by
  intro pins s σ H vs us Q I r h
  obtain ⟨a, ns, rfl, hs, h64, q⟩ := h
  rcases hs with hs | hs
  · exact cr_sorted pins s σ H _ us Q I r ⟨a, ns, rfl, hs, h64, q⟩
  · obtain ⟨its, rv, hl, _⟩ := I.tuple hs
    rw [Vals.ref1 r]
    have hi := rv.ints
    refine sorted_tupI (show s.heap.IsTuple a its.toArray from hl) hi (by rw [hi.length]; exact h64) fun out ns' h1 h2 h3 => ?_
    obtain ⟨ep, e⟩ := sortedAll_at s.heap its out
    have hlen : (ns'.map V.int).length ≤ sizeLine := by
      rw [List.length_map, h2.length_eq]
      exact small64 h64
    refine ⟨.ref _, upd H (s.heap.objs.size + 1) (.lst (ns'.map V.int)), ?_, rfl, q ns' _ h2 h3 (I.hok.fresh (Nat.le_succ _))⟩
    exact I.laid (t' := s.toks) (fun _ _ => sortedAll_old) (Nat.le_succ _) ⟨hlen, out.toList, ep, vals_of_ints h1, e⟩
end
/-- the sorted one is one -/
def insI (x : Int) : List Int → List Int
  | [] => [x]
  | y :: r => if x ≤ y then x :: y :: r else y :: insI x r
def sortI : List Int → List Int
  | [] => []
  | x :: r => insI x (sortI r)
theorem insI_perm (x : Int) : ∀ l, (insI x l).Perm (x :: l)
  | [] => List.Perm.refl _
  | y :: r => by
    unfold insI
    split
    · exact List.Perm.refl _
    · exact ((insI_perm x r).cons y).trans (List.Perm.swap x y r)
theorem sortI_perm : ∀ l, (sortI l).Perm l
  | [] => List.Perm.refl _
  | x :: r => (insI_perm x _).trans ((sortI_perm r).cons x)
theorem insI_sorted (x : Int) : ∀ l : List Int, l.Pairwise (· ≤ ·) → (insI x l).Pairwise (· ≤ ·)
  | [], _ => List.pairwise_singleton _ _
  | y :: r, h => by
    rw [List.pairwise_cons] at h
    unfold insI
    split
    · next hxy =>
      rw [List.pairwise_cons, List.pairwise_cons]
      refine ⟨fun z hz => ?_, h⟩
      rcases List.mem_cons.mp hz with rfl | hz
      · exact hxy
      · exact Int.le_trans hxy (h.1 z hz)
    · next hxy =>
      rw [List.pairwise_cons]
      refine ⟨fun z hz => ?_, insI_sorted x r h.2⟩
      rcases List.mem_cons.mp ((insI_perm x r).mem_iff.mp hz) with rfl | hz
      · omega
      · exact h.1 z hz
theorem sortI_sorted : ∀ l, (sortI l).Pairwise (· ≤ ·)
  | [] => .nil
  | x :: r => insI_sorted x _ (sortI_sorted r)
theorem sorted_one : ∀ {a b : List Int}, a.Perm b → a.Pairwise (· ≤ ·) → b.Pairwise (· ≤ ·) → a = b
  | [], b, h, _, _ => by rw [List.nil_perm.mp h]
  | x :: a, [], h, _, _ => by cases List.perm_nil.mp h
  | x :: a, y :: b, h, ha, hb => by
    rw [List.pairwise_cons] at ha hb
    have h1 : x ≤ y := by
      rcases List.mem_cons.mp (h.mem_iff.mpr (List.mem_cons_self ..)) with z | z
      · omega
      · exact ha.1 y z
    have h2 : y ≤ x := by
      rcases List.mem_cons.mp (h.mem_iff.mp (List.mem_cons_self ..)) with z | z
      · omega
      · exact hb.1 x z
    have e : x = y := by omega
    subst e
    rw [sorted_one (List.Perm.cons_inv h) ha.2 hb.2]
section
variable {K : PySem.W.Frag} {σ : L2.St} {H : Hp} {te : TE} {ns : List Int}
/-- sorted(te): a new list -/
theorem en_sortedT (h : EvD K te σ H (.tuple (ns.map PyData.int))) (h64 : ns.length < 64) : EvN K (tCB (rSortedA K) (tCons te tNil)) σ H ((sortI ns).map PyData.int) := fun H1 e Q q =>
  h H1 e _ fun v H2 e2 hv => by
    obtain ⟨a, xs, rfl, hs, hd⟩ := dp_tup hv
    rw [ints_of hd] at hs
    refine ⟨a, ns, rfl, .inr hs, h64, fun ns' p hp hq hn => ?_⟩
    rw [sorted_one (hp.trans (sortI_perm ns).symm) hq (sortI_sorted ns)]
    exact q p _ _ (fresh_back e2 hn) (e2.trans (Ex.new hn)) upd_same (dpAll_ints _)
theorem en_sortedL (h : EvD K te σ H (.list (ns.map PyData.int))) (h64 : ns.length < 64) : EvN K (tCB (rSortedA K) (tCons te tNil)) σ H ((sortI ns).map PyData.int) := fun H1 e Q q =>
  h H1 e _ fun v H2 e2 hv => by
    obtain ⟨a, xs, rfl, hs, hd⟩ := dp_lst hv
    rw [ints_of hd] at hs
    refine ⟨a, ns, rfl, .inl hs, h64, fun ns' p hp hq hn => ?_⟩
    rw [sorted_one (hp.trans (sortI_perm ns).symm) hq (sortI_sorted ns)]
    exact q p _ _ (fresh_back e2 hn) (e2.trans (Ex.new hn)) upd_same (dpAll_ints _)
/-- tuple(a new list) -/
theorem ed_tupN {ds : List PyData} (h : EvN K te σ H ds) : EvD K (tCB (fun xs H Q => ∃ p ys, xs = [.ref p] ∧ ((SqL K H p ys ∧ ∀ l, H l = none → Q (.ref l) (upd H l (.tup ys))) ∨ (SqT K H p ys ∧ Q (.ref p) H))) (tCons te tNil)) σ H (.tuple ds) := ed_tupL (ed_n h)
end
section
variable {X : Cx}
/-- repr of any datum -/
def rReprA (K : PySem.W.Frag) : List V → Hp → VK → Prop := fun xs H Q =>
  ∃ (x : V) (d : PyData), xs = [x] ∧ Dp K H x d ∧ d.showable = true ∧ d.hasDict = false ∧ d.shown.length ≤ sizeLine ∧ d.depth ≤ 40 ∧ Q (.str d.shown) H
theorem call_reprA (hg : X.A.guards = some []) (hu : X.A.units + 64 < cLine) : CallR X (.builtin "repr") (rReprA X.K) := by
  intro pins s σ H xs us Q I r h
  obtain ⟨x, d, rfl, hd, hs, hn, hz, hdp, q⟩ := h
  have hd' := hd
  cases hd' with
  | lst a b => exact call_reprD hg hu pins s σ H _ us Q I r ⟨_, _, rfl, hd, hs, hn, hz, hdp, q⟩
  | tup a b => exact call_reprD hg hu pins s σ H _ us Q I r ⟨_, _, rfl, hd, hs, hn, hz, hdp, q⟩
  | non =>
    obtain ⟨u, rfl, ru⟩ := vals1 r
    cases ru
    exact PySem.P.repr_of_none ⟨.str _, H, I.tok _, ⟨_, rfl⟩, q⟩
  | bl b =>
    obtain ⟨u, rfl, ru⟩ := vals1 r
    cases ru
    exact PySem.P.repr_of_bool ⟨.str _, H, I.tok _, ⟨_, rfl⟩, q⟩
  | int i =>
    obtain ⟨u, rfl, t, rfl⟩ := vals1 r
    exact PySem.P.repr_of_int (of_decide_eq_true hs) ⟨.str _, H, I.tok _, ⟨_, rfl⟩, q⟩
  | str y =>
    obtain ⟨u, rfl, t, rfl⟩ := vals1 r
    exact PySem.P.repr_of_str ⟨.str _, H, I.tok _, ⟨_, rfl⟩, q⟩ hz
end
end WR
set_option Elab.async false
set_option linter.all false
set_option maxRecDepth 100000
set_option maxHeartbeats 1000000
namespace WR
open PySem PySem.Spec PyProof.Rows L2 Evl
/-! ### a list of data that grows -/
def LD (K : PySem.W.Frag) (H : Hp) (p : Addr) (ds : List PyData) : Prop := ∃ xs, H p = some (.lst xs) ∧ DpAll K H xs ds
theorem LD.ex {K : PySem.W.Frag} {H H' : Hp} {p : Addr} {ds : List PyData} (h : LD K H p ds) (e : Ex H H') : LD K H' p ds := by
  obtain ⟨xs, h1, h2⟩ := h
  exact ⟨xs, e _ _ h1, dpAll_ex e ds h2⟩
theorem LD.dp {K : PySem.W.Frag} {H : Hp} {p : Addr} {ds : List PyData} (h : LD K H p ds) : Dp K H (.ref p) (.list ds) := by
  obtain ⟨xs, h1, h2⟩ := h
  exact .lst (sq_of h1) h2
section
variable {K : PySem.W.Frag} {σ : L2.St} {H H' : Hp} {ta tb te tx : TE} {t : TT} {D : Ends} {tz : TS} {d : PyData} {ds es : List PyData} {l : Addr}
/-- xs.append(a datum) -/
theorem q_appD (hl : LD K H l ds) (ha : Ev ta σ H (.ref l)) (h : EvD K te σ H d) (hz : ds.length < 100000) (hn : nlAll ds = true) (hd : nl d = true)
    (k : ∀ H1, (∀ B : Hp, Ex B H → B l = none → Ex B H1) → LD K H1 l (ds ++ [d]) → tz D σ H1) :
    tSeq (tDrop (tBM K "list" rAppend ta (tCons te tNil))) tz D σ H := ha H (Ex.refl H) _ fun H1 e1 => by
  obtain ⟨xs, h1, h2⟩ := hl
  refine ⟨.inl ⟨rfl, xs, sq_of (e1 l _ h1)⟩, h H1 e1 _ fun v H2 e2 hv => ?_⟩
  have h3 := e2 l _ (e1 l _ h1)
  refine ⟨l, xs, v, rfl, rfl, h3, sz_lt (by rw [dpAll_len h2]; exact hz), k _ (fun B eb hb => Ex.mut ((eb.trans e1).trans e2) hb) ⟨_, upd_same, ?_⟩⟩
  exact dpAll_snoc (dpAll_updL h3 _ hn (dpAll_ex (e1.trans e2) _ h2)) (dp_updL h3 _ hd hv)
theorem s_appD (hl : LD K H l ds) (ha : Ev ta σ H (.ref l)) (h : EvD K te σ H d) (hz : ds.length < 100000) (hn : nlAll ds = true) (hd : nl d = true)
    (k : ∀ H1, (∀ B : Hp, Ex B H → B l = none → Ex B H1) → LD K H1 l (ds ++ [d]) → D.nx σ H1) :
    tDrop (tBM K "list" rAppend ta (tCons te tNil)) D σ H := ha H (Ex.refl H) _ fun H1 e1 => by
  obtain ⟨xs, h1, h2⟩ := hl
  refine ⟨.inl ⟨rfl, xs, sq_of (e1 l _ h1)⟩, h H1 e1 _ fun v H2 e2 hv => ?_⟩
  have h3 := e2 l _ (e1 l _ h1)
  refine ⟨l, xs, v, rfl, rfl, h3, sz_lt (by rw [dpAll_len h2]; exact hz), k _ (fun B eb hb => Ex.mut ((eb.trans e1).trans e2) hb) ⟨_, upd_same, ?_⟩⟩
  exact dpAll_snoc (dpAll_updL h3 _ hn (dpAll_ex (e1.trans e2) _ h2)) (dp_updL h3 _ hd hv)
theorem q_asgLD {i : Nat} (h : EvN K te σ H ds) (k : ∀ p H1, H p = none → Ex H H1 → LD K H1 p ds → tz D (σ.set i (some (.ref p))) H1) : tSeq (tAsg te (gName i)) tz D σ H :=
  q_asgN h fun p xs H1 hp e h1 hd => k p H1 hp e ⟨xs, h1, hd⟩
theorem en_if {b : Bool} (h : EvT t σ H b) (h1 : b = true → EvN K ta σ H ds) (h2 : b = false → EvN K tb σ H ds) : EvN K (tIf t ta tb) σ H ds := fun H1 e Q q => h H1 e _ fun H2 e2 => by
  cases b with
  | true =>
    show ta σ H2 Q
    exact h1 rfl H2 (e.trans e2) Q fun p xs H3 hp e3 h3 hd => q p xs H3 (fresh_back e2 hp) (e2.trans e3) h3 hd
  | false =>
    show tb σ H2 Q
    exact h2 rfl H2 (e.trans e2) Q fun p xs H3 hp e3 h3 hd => q p xs H3 (fresh_back e2 hp) (e2.trans e3) h3 hd
theorem ed_if {b : Bool} (h : EvT t σ H b) (h1 : b = true → EvD K ta σ H d) (h2 : b = false → EvD K tb σ H d) : EvD K (tIf t ta tb) σ H d := fun H1 e Q q => h H1 e _ fun H2 e2 => by
  cases b with
  | true =>
    show ta σ H2 Q
    exact h1 rfl H2 (e.trans e2) Q fun v H3 e3 hd => q v H3 (e2.trans e3) hd
  | false =>
    show tb σ H2 Q
    exact h2 rfl H2 (e.trans e2) Q fun v H3 e3 hd => q v H3 (e2.trans e3) hd
end
def tupI (ns : List Int) : PyData := .tuple (ns.map PyData.int)
def intI : PyData → Int
  | .int i => i
  | _ => 0
def sortT : PyData → PyData
  | .tuple ds => tupI (sortI (ds.map intI))
  | _ => .none
theorem map_intI : ∀ ns : List Int, (ns.map PyData.int).map intI = ns
  | [] => rfl
  | n :: ns => by rw [List.map_cons, List.map_cons, map_intI ns]; rfl
theorem sortT_tupI (ns : List Int) : sortT (tupI ns) = tupI (sortI ns) := by
  show tupI (sortI ((ns.map PyData.int).map intI)) = _
  rw [map_intI]
theorem nl_tupI (ns : List Int) : nl (tupI ns) = true := nlAll_mem fun d hd => by
  obtain ⟨n, _, rfl⟩ := List.mem_map.mp hd
  rfl
theorem nl_tupIs : ∀ l : List (List Int), nlAll (l.map tupI) = true
  | [] => rfl
  | x :: l => by
    show (nl (tupI x) && nlAll (l.map tupI)) = true
    rw [nl_tupI, nl_tupIs l]
    rfl
end WR
set_option Elab.async false
set_option linter.all false
set_option maxRecDepth 100000
set_option maxHeartbeats 1000000
namespace WR
open PySem PySem.Spec PyProof.Rows L2 Evl
section
variable {P : Program} {w : World} {K : PySem.W.Frag} {mg : Str → Option Value} {base : Heap}
/-! ### _law_comb -/
def combU (l : Nat) : List (List Int) := (if 1 < l then [[0, 1]] else []) ++ (List.range (l - 2)).map fun (i : Nat) => [2 + (i : Int), (l : Int) + (2 + (i : Int)) - 2]
def combI (l : Nat) : List PyData := (combU l).map fun ns => tupI (sortI ns)
def combD (l : Nat) : PyData := .tuple [natD l, .tuple (combI l)]
def gComb : PyData → Option PyData
  | .int l => if 1 ≤ l ∧ l ≤ 9 then some (combD l.toNat) else none
  | _ => none
abbrev nComb : List Str := ["_law_leaves", "_law_inner", "_law_leaf", "_law_some"]
theorem scComb : FnScope nComb ["_law_leaves"] (defScope sComb) := ⟨rfl, rfl, rfl, by decide +kernel, rfl, by decide +kernel, by decide +kernel⟩
theorem ok_comb {f : Addr} {fd : FuncData} (F : Fun K "_law_comb" "_law_comb" sComb f fd) (m1 : mg "range" = none) (m2 : mg "tuple" = none) (m3 : mg "sorted" = none) :
    FnOk P w K mg base CX0 1 f fd ["_law_leaves"] (spD K (f1 gComb)) := by
  refine F.ok scComb (fun vs H Q E h => spD_len f1_len h) (fun cdv A outer s H vs Q E hr h => ?_)
  obtain ⟨v, d, r, rfl, hv, hf, q⟩ := sp1 h
  obtain ⟨l, rfl, hl1, hl9, rfl⟩ : ∃ l : Nat, d = natD l ∧ 1 ≤ l ∧ l ≤ 9 ∧ r = combD l := by
    cases d with
    | int i =>
      have hf : (if 1 ≤ i ∧ i ≤ 9 then some (combD i.toNat) else none) = some r := hf
      by_cases hi : 1 ≤ i ∧ i ≤ 9
      · rw [if_pos hi] at hf
        exact ⟨i.toNat, by unfold natD; rw [Int.toNat_of_nonneg (by omega)], by omega, by omega, (Option.some.inj hf).symm⟩
      · rw [if_neg hi] at hf
        cases hf
    | _ => cases hf
  cases dp_int hv
  refine ⟨_, pss_cons (ps_set (i := 1) scComb.nd rfl (.inl rfl) (pe_ifExp (pt_cmpR op_gt (pv 0) pe_int (nomark _)) (pe_lst (pa_cons (pe_tup (pa_cons pe_int (pa_cons pe_int pa_nil))) pa_nil)) (pe_lst pa_nil)))
    (pss_cons (ps_for PassesOwn.never rfl (pi_range2 (by rfl) m1 (pa_cons pe_int (pa_cons (pv 0) pa_nil))) (pg_name (i := 2) scComb.nd rfl (.inl rfl))
      (pss_one (ps_expr (pe_bm PySem.F.plainAttrs_list PySem.F.slot_list_append PySem.F.type_list_append mt_append (pv 1) (pa_cons (pe_tup (pa_cons (pv 2) (pa_cons (pe_op op_sub (pe_op op_add (pv 0) (pv 2)) pe_int) pa_nil))) pa_nil)))))
    (pss_one (ps_ret (pe_tup (pa_cons (pv 0) (pa_cons (pe_callTy call_tuple_of (by rfl) m2 (by decide +kernel) (pa_cons (pe_lc (own := [("_law_some", 3)]) (g := gName 3) (tt := tYes) rfl scComb.nd (pi_list (pv 1)) (blkOk_by (N := nComb) (sc := defScope sComb) (by decide +kernel))
        (fun _ _ _ _ _ => pg_name (i := 3) scComb.nd rfl (Or.inl rfl)) (fun _ _ _ _ _ => pts_nil)
        (fun _ _ _ _ _ => pe_callTy (r := (fun xs H Q => ∃ p ys, xs = [.ref p] ∧ ((SqL K H p ys ∧ ∀ l, H l = none → Q (.ref l) (upd H l (.tup ys))) ∨ (SqT K H p ys ∧ Q (.ref p) H)))) call_tuple_of (by rfl) m2 (by decide +kernel) (pa_cons (pe_callB (r := rSortedA K) cr_sortedA (by rfl) m3 (by decide +kernel) (pa_cons (pv 3) pa_nil)) pa_nil))) pa_nil)) pa_nil)))))), ?_⟩
  let S (x1 x2 : Option V) : L2.St := [some (.int (l : Int)), x1, x2, none]
  let u0 : List (List Int) := if 1 < l then [[0, 1]] else []
  show tSeq _ _ _ (S none none) H
  refine q_asgLD (K := K) (ds := u0.map tupI) (en_if (b := decide ((1 : Int) < (l : Int))) (et_test (ev_op (ev_var rfl) ev_c rv_I0)) (fun hb => ?_) fun hb => ?_) fun p H1 hp e1 hL => ?_
  · have hb := of_decide_eq_true hb
    have hu : u0 = [[0, 1]] := if_pos (by omega)
    rw [hu]
    exact ed_lst (eda_cons (ed_tup (eda_cons (ed_i ev_c) (eda_cons (ed_i ev_c) eda_nil)) (by simp)) eda_nil) (by simp)
  · have hb := of_decide_eq_false hb
    have hu : u0 = [] := if_neg (by omega)
    rw [hu]
    exact ed_lst eda_nil (by simp)
  show tSeq _ _ _ (S (some (.ref p)) none) H1
  let g : Nat → List Int := fun i => [2 + (i : Int), (l : Int) + (2 + (i : Int)) - 2]
  have hu0 : u0.length ≤ 1 := by
    show (if 1 < l then [[0, 1]] else [] : List (List Int)).length ≤ 1
    split <;> simp
  have hR : SrcS K (iRng2 (tCons (tC (.int 2)) (tCons (tVar 0) tNil))) (S (some (.ref p)) none) H (rngD 2 (l - 2)) := by
    have q1 := srcS_R2 (K := K) (σ := S (some (.ref p)) none) (H := H) (lo := 2) (n := (l : Int)) (ta := tCons (tC (.int 2)) (tCons (tVar 0) tNil)) (ea_cons ev_c (ea_cons (ev_var rfl) ea_nil)) (by omega)
    rw [show ((l : Int) - 2).toNat = l - 2 by omega] at q1
    exact q1
  refine q_forS (H0 := H) e1 hR (fun i σ' H' => Ex H H' ∧ LD K H' p ((u0 ++ (List.range i).map g).map tupI) ∧ ∃ y, σ' = S (some (.ref p)) y) (fun H2 e2 => ⟨e1.trans e2, by rw [List.range_zero, List.map_nil, List.append_nil]; exact hL.ex e2, _, rfl⟩) (fun i σ' H' p => p.1) (fun i d x σ' H' hi hx p' => ?_) fun σ' H' p' => ?_
  · obtain ⟨e2, hL2, y, rfl⟩ := p'
    have hin : i < l - 2 := by
      have q := (List.getElem?_eq_some_iff.mp hi).1
      rw [rngD_len] at q
      exact q
    rw [rngD_at hin] at hi
    cases hi
    cases dp_int hx
    show tDrop _ _ (S (some (.ref p)) (some (.int (2 + (i : Int))))) H'
    refine s_appD (d := tupI (g i)) hL2 (ev_var rfl) (ed_is (ed_tup (eda_cons (ed_var rfl (.int _)) (eda_cons (ed_i (ev_op (ev_op (ev_var rfl) (ev_var rfl) rv_I0) ev_c rv_I0)) eda_nil)) (by simp)) rfl) (by rw [List.length_map, List.length_append, List.length_map, List.length_range]; omega) (nl_tupIs _) (nl_tupI _) fun H3 k3 hL3 => ?_
    refine ⟨k3 H e2 hp, ?_, _, rfl⟩
    have ea : u0 ++ (List.range (i + 1)).map g = (u0 ++ (List.range i).map g) ++ [g i] := by
      rw [List.range_succ, List.map_append, ← List.append_assoc]
      rfl
    rw [ea, List.map_append]
    exact hL3
  · obtain ⟨e2, hL2, y, rfl⟩ := p'
    rw [rngD_len] at hL2
    have hcl : (combU l).length ≤ 20 := by
      show (u0 ++ (List.range (l - 2)).map g).length ≤ 20
      rw [List.length_append, List.length_map, List.length_range]
      omega
    refine s_retD (K := K) (d := combD l) (ed_tup (eda_cons (ed_var rfl (.int _)) (eda_cons (ed_is (ed_tupN (en_lc (ds := (combU l).map tupI) (fun d => some (sortT d)) (src_L (ed_var rfl hL2.dp)) (by rw [List.length_map]; omega) (fun _ => rfl) (fun d v H3 e3 hd hv => ?_) (fun d r w H3 e3 hd hw hr => ?_) (fun d r hd hr => ?_))) ?_) eda_nil)) (by simp)) fun r H3 e3 hr => q r H3 (e2.trans e3) hr
    · exact fun H1 _ _ q => q H1 (Ex.refl H1)
    · obtain ⟨ns, hns, rfl⟩ := List.mem_map.mp hd
      cases hr
      rw [sortT_tupI]
      have h2 : ns.length = 2 := by
        have hm : ns ∈ u0 ++ (List.range (l - 2)).map g := hns
        rcases List.mem_append.mp hm with hm | hm
        · have hm : ns ∈ (if 1 < l then [[0, 1]] else [] : List (List Int)) := hm
          split at hm
          · rw [List.mem_singleton.mp hm]
            rfl
          · cases hm
        · obtain ⟨k, _, rfl⟩ := List.mem_map.mp hm
          rfl
      exact ed_tupN (en_sortedT (ed_var rfl hw) (by omega))
    · obtain ⟨ns, hns, rfl⟩ := List.mem_map.mp hd
      cases hr
      rw [sortT_tupI]
      exact nl_tupI _
    · refine congrArg PyData.tuple ?_
      rw [List.filterMap_map]
      exact fm_map fun ns _ => by
        show some (sortT (tupI ns)) = _
        rw [sortT_tupI]
end
end WR
set_option Elab.async false
set_option linter.all false
set_option maxRecDepth 100000
set_option maxHeartbeats 1000000
namespace WR
open PySem PySem.Spec PyProof.Rows L2 Evl
/-! ### the deck: an object that each draw changes -/
def rem (H : Hp) (p : Addr) : Hp := fun q => if q = p then none else H q
theorem rem_self {H : Hp} {p : Addr} : rem H p p = none := if_pos rfl
theorem rem_ne {H : Hp} {p q : Addr} (h : q ≠ p) : rem H p q = H q := if_neg h
theorem rem_ex {H : Hp} {p : Addr} : Ex (rem H p) H := fun a o h => by
  by_cases e : a = p
  · rw [e, rem_self] at h
    cases h
  · rwa [rem_ne e] at h
theorem rem_mono {H H' : Hp} {p : Addr} (e : Ex H H') : Ex (rem H p) (rem H' p) := fun a o h => by
  by_cases z : a = p
  · rw [z, rem_self] at h
    cases h
  · rw [rem_ne z] at h ⊢
    exact e a o h
/-- what is behind a change of p is behind a second one -/
theorem rem_trans {H H1 H2 : Hp} {p : Addr} (a : Ex (rem H p) H1) (b : Ex (rem H1 p) H2) : Ex (rem H p) H2 := fun q o h => by
  have n : q ≠ p := fun z => by
    rw [z, rem_self] at h
    cases h
  exact b q o (by rw [rem_ne n]; exact a q o h)
def DkO (L : Addr) (a b n : Int) : HO := .lst [.ref L, .int a, .int b, .int n]
structure DkAt (H : Hp) (p L : Addr) (ns : List Int) (a b n : Int) : Prop where
  at_ : H p = some (DkO L a b n)
  ls : H L = some (.lst (ns.map V.int))
  a0 : 0 ≤ a
  b0 : 0 ≤ b
  n0 : 0 ≤ n
  len : ns.length ≤ 63
def Dk (H : Hp) (p L : Addr) (ns : List Int) (N : Int) : Prop := ∃ a b n, DkAt H p L ns a b n ∧ n ≤ N
theorem DkAt.ne {H : Hp} {p L : Addr} {ns : List Int} {a b n : Int} (h : DkAt H p L ns a b n) : L ≠ p := by
  intro z
  have h1 := h.at_
  have h2 := h.ls
  rw [z, h1] at h2
  have h3 : [V.ref L, .int a, .int b, .int n] = ns.map V.int := HO.lst.inj (Option.some.inj h2)
  cases ns with
  | nil => cases h3
  | cons x r => cases h3
theorem DkAt.ex {H H' : Hp} {p L : Addr} {ns : List Int} {a b n : Int} (h : DkAt H p L ns a b n) (e : Ex H H') : DkAt H' p L ns a b n :=
  ⟨e _ _ h.at_, e _ _ h.ls, h.a0, h.b0, h.n0, h.len⟩
theorem DkAt.upd {H : Hp} {p L : Addr} {ns : List Int} {a b n a' b' n' : Int} (h : DkAt H p L ns a b n) (ha : 0 ≤ a') (hb : 0 ≤ b') (hn : 0 ≤ n') : DkAt (upd H p (DkO L a' b' n')) p L ns a' b' n' :=
  ⟨upd_same, by rw [upd_ne h.ne]; exact h.ls, ha, hb, hn, h.len⟩
theorem Dk.ex {H H' : Hp} {p L : Addr} {ns : List Int} {N : Int} (h : Dk H p L ns N) (e : Ex H H') : Dk H' p L ns N := by
  obtain ⟨a, b, n, d, hn⟩ := h
  exact ⟨a, b, n, d.ex e, hn⟩
theorem ex_upd {H B : Hp} {p : Addr} {o : HO} (e : Ex B H) (h : B p = none) : Ex B (upd H p o) := Ex.mut e h

/-- a draw below m: some number, the deck one draw on -/
def spDraw : Sp := fun vs H Q _ => ∃ p L ns m N, vs = [.ref p, .int m] ∧ Dk H p L ns N ∧ N ≤ 1000000000 ∧ 1 ≤ m ∧ m ≤ 1000000 ∧
  ∀ r H', 0 ≤ r → r < m → Ex (rem H p) H' → Dk H' p L ns (N + 1) → Q (.int r) H'
theorem spDraw_len {vs : List V} {H : Hp} {Q : VK} {E : XK} (h : spDraw vs H Q E) : vs.length = 2 := by
  obtain ⟨p, L, ns, m, N, rfl, _⟩ := h
  rfl

abbrev nDraw : List Str := ["_law_deck_here", "_law_many", "_law_found", "_law_cell", "_law_mixed"]
theorem scDraw : FnScope nDraw ["_law_deck_here", "_law_many"] (defScope sDraw) := ⟨rfl, rfl, rfl, by decide +kernel, rfl, by decide +kernel, by decide +kernel⟩
theorem ev_int {σ : L2.St} {H : Hp} {te : TE} {i : Int} (h : Ev te σ H (.int i)) : Ev (tCB (fun xs H Q => (∃ i, xs = [.int i] ∧ Q (.int i) H) ∨ ∃ k, xs = [.bl k] ∧ Q (.int (if k then 1 else 0)) H) (tCons te tNil)) σ H (.int i) :=
  ev_cb (ea_cons h ea_nil) fun H1 _ Q q => .inl ⟨i, rfl, q H1 (Ex.refl H1)⟩
theorem ev_abs {σ : L2.St} {H : Hp} {te : TE} {i : Int} (h : Ev te σ H (.int i)) : Ev (tCB (fun xs H Q => ∃ i, xs = [.int i] ∧ Q (.int (if i < 0 then -i else i)) H) (tCons te tNil)) σ H (.int (if i < 0 then -i else i)) :=
  ev_cb (ea_cons h ea_nil) fun H1 _ Q q => ⟨i, rfl, q H1 (Ex.refl H1)⟩
theorem eqv_ints_nil : ∀ ns : List Int, PyData.eqv (.list (ns.map PyData.int)) (.list []) = ns.isEmpty
  | [] => by simp [PyData.eqv, PyData.eqvAll]
  | _ :: _ => by simp [PyData.eqv, PyData.eqvAll]
theorem lay_ints : ∀ ns : List Int, PyData.canLayAll0 (ns.map PyData.int) = true ∧ PyData.depthAll (ns.map PyData.int) = 0
  | [] => by simp [PyData.canLayAll0, PyData.depthAll]
  | n :: ns => by
    have ih := lay_ints ns
    simp only [List.map_cons, PyData.canLayAll0, PyData.canLay0, PyData.depthAll, PyData.depth, ih.1, ih.2]
    decide
theorem shaped_ints (ns : List Int) : SeqAt.shaped (.list (ns.map PyData.int)) = true := by
  have q := lay_ints ns
  show (PyData.canLay0 _ && decide (PyData.depth _ ≤ 64)) = true
  simp only [PyData.canLay0, PyData.depth, q.1, q.2]
  decide
section
variable {P : Program} {w : World} {K : PySem.W.Frag} {mg : Str → Option Value} {base : Heap}
theorem ok_draw {f : Addr} {fd : FuncData} (F : Fun K "_law_draw" "_law_draw" sDraw f fd) (m1 : mg "int" = none) (m2 : mg "abs" = none) (m3 : mg "len" = none) :
    FnOk P w K mg base CX0 1 f fd ["_law_deck_here", "_law_many"] spDraw := by
  refine F.ok scDraw (fun vs H Q E h => spDraw_len h) (fun cdv A outer s H vs Q E hr h => ?_)
  obtain ⟨p, L, ns, m, N, rfl, hdk, hN, hm1, hm2, q⟩ := h
  refine ⟨_, pss_cons (ps_asg (pe_op op_add (pe_ix ix_list (pv 0) pe_int (fun _ _ => rfl)) pe_int) (pg_sub (pv 0) pe_int set_list))
    (pss_cons (ps_if (pt_cmpR op_gt (pe_ix ix_list (pv 0) pe_int (fun _ _ => rfl)) pe_int (nomark _))
      (pss_cons (ps_set (i := 2) scDraw.nd rfl (.inl rfl) (pe_op op_mod (pe_callTy call_int1 (by rfl) m1 (by decide +kernel) (pa_cons (pe_ix ix_list (pv 0) pe_int (fun _ _ => rfl)) pa_nil)) (pv 1)))
      (pss_cons (ps_asg (pe_op op_fdiv (pe_ix ix_list (pv 0) pe_int (fun _ _ => rfl)) (pv 1)) (pg_sub (pv 0) pe_int set_list))
      (pss_one (ps_ret (pv 2))))) pss_nil)
    (pss_cons (ps_set (i := 3) scDraw.nd rfl (.inl rfl) pe_int)
    (pss_cons (ps_if (pt_cmpR (op_neD (by have := hr.units; exact this)) (pe_ix ix_list (pv 0) pe_int (fun _ _ => rfl)) (pe_lst pa_nil) (nomark _))
      (pss_one (ps_set (i := 3) scDraw.nd rfl (.inl rfl) (pe_ix ix_list (pe_ix ix_list (pv 0) pe_int (fun _ _ => rfl)) (pe_op op_mod (pe_callTy call_int1 (by rfl) m1 (by decide +kernel) (pa_cons (pe_ix ix_list (pv 0) pe_int (fun _ _ => rfl)) pa_nil)) (pe_callB call_len_seq (by rfl) m3 PySem.boot_len (pa_cons (pe_ix ix_list (pv 0) pe_int (fun _ _ => rfl)) pa_nil))) (fun _ _ => rfl)))) pss_nil)
    (pss_cons (ps_asg (pe_op op_add (pe_ix ix_list (pv 0) pe_int (fun _ _ => rfl)) pe_int) (pg_sub (pv 0) pe_int set_list))
    (pss_cons (ps_if (pw_and (pt_cmpR op_ge (pe_callB call_abs (by rfl) m2 (by decide +kernel) (pa_cons (pv 3) pa_nil)) (pe_op op_pow pe_int pe_int) (nomark _))
        (pw_and1 (pt_cmpR op_le (pe_ix ix_list (pv 0) pe_int (fun _ _ => rfl)) (pe_callB call_len_seq (by rfl) m3 PySem.boot_len (pa_cons (pe_ix ix_list (pv 0) pe_int (fun _ _ => rfl)) pa_nil)) (nomark _)))).pt
      (pss_cons (ps_asg (pe_op op_fdiv (pe_callB call_abs (by rfl) m2 (by decide +kernel) (pa_cons (pv 3) pa_nil)) (pv 1)) (pg_sub (pv 0) pe_int set_list))
      (pss_one (ps_ret (pe_op op_mod (pe_callTy call_int1 (by rfl) m1 (by decide +kernel) (pa_cons (pe_callB call_abs (by rfl) m2 (by decide +kernel) (pa_cons (pv 3) pa_nil)) pa_nil)) (pv 1))))) pss_nil)
    (pss_cons (ps_set (i := 4) scDraw.nd rfl (.inl rfl) (pe_op op_mod (pe_op op_pow (pe_callTy call_int1 (by rfl) m1 (by decide +kernel) (pa_cons (pe_op op_add (pe_op op_mod (pe_callTy call_int1 (by rfl) m1 (by decide +kernel) (pa_cons (pv 3) pa_nil)) pe_int)
        (pe_op op_mul pe_int (pe_ix ix_list (pv 0) pe_int (fun _ _ => rfl)))) pa_nil)) pe_int) pe_int))
    (pss_cons (ps_set (i := 4) scDraw.nd rfl (.inl rfl) (pe_op op_mod (pe_op op_pow (pe_callTy call_int1 (by rfl) m1 (by decide +kernel) (pa_cons (pe_op op_add (pe_op op_mul (pv 4) (pe_op op_add (pe_op op_mul pe_int (pe_ix ix_list (pv 0) pe_int (fun _ _ => rfl))) pe_int)) pe_int) pa_nil)) pe_int) pe_int))
    (pss_one (ps_ret (pe_op op_mod (pe_op op_fdiv (pv 4) pe_int) (pv 1))))))))))), ?_⟩
  obtain ⟨a, b, n, d, hnN⟩ := hdk
  have hB : rem H p p = none := rem_self
  have g0 : ∀ {σ' : L2.St} {H' : Hp} {a b n : Int}, σ'[0]? = some (some (.ref p)) → DkAt H' p L ns a b n → Ev (tOp (rIxL K) (tVar 0) (tC (.int 0))) σ' H' (.ref L) := fun hs d => ev_op (ev_var hs) ev_c (rv_ixL (sq_of d.at_) rfl)
  have g1 : ∀ {σ' : L2.St} {H' : Hp} {a b n : Int}, σ'[0]? = some (some (.ref p)) → DkAt H' p L ns a b n → Ev (tOp (rIxL K) (tVar 0) (tC (.int 1))) σ' H' (.int a) := fun hs d => ev_op (ev_var hs) ev_c (rv_ixL (sq_of d.at_) rfl)
  have g2 : ∀ {σ' : L2.St} {H' : Hp} {a b n : Int}, σ'[0]? = some (some (.ref p)) → DkAt H' p L ns a b n → Ev (tOp (rIxL K) (tVar 0) (tC (.int 2))) σ' H' (.int b) := fun hs d => ev_op (ev_var hs) ev_c (rv_ixL (sq_of d.at_) rfl)
  have g3 : ∀ {σ' : L2.St} {H' : Hp} {a b n : Int}, σ'[0]? = some (some (.ref p)) → DkAt H' p L ns a b n → Ev (tOp (rIxL K) (tVar 0) (tC (.int 3))) σ' H' (.int n) := fun hs d => ev_op (ev_var hs) ev_c (rv_ixL (sq_of d.at_) rfl)
  have gl : ∀ {σ' : L2.St} {H' : Hp} {a b n : Int}, σ'[0]? = some (some (.ref p)) → DkAt H' p L ns a b n → Ev (tCB (fun xs H Q => ∃ p ys, xs = [.ref p] ∧ (SqL K H p ys ∨ SqT K H p ys) ∧ Q (.int ys.length) H) (tCons (tOp (rIxL K) (tVar 0) (tC (.int 0))) tNil)) σ' H' (.int (ns.length : Int)) := fun hs d =>
    ev_is (ev_len (K := K) (g0 hs d) (sq_of d.ls)) (by rw [List.length_map])
  have hm : (0 : Int) < m := by omega
  have cdiv : ∀ i, CDiv i m := fun i => ⟨hm, by omega⟩
  have n0 := d.n0
  -- the draw is counted
  refine q_setL (j := 3) (v := .int (n + 1)) d.at_ (ev_op (g3 rfl d) ev_c rv_I0) (ev_var rfl) ev_c (show 3 < 4 by decide) fun H1 e1 => ?_
  have d1 : DkAt (upd H1 p (DkO L a b (n + 1))) p L ns a b (n + 1) := (d.ex e1).upd d.a0 d.b0 (by omega)
  have x1 : Ex (rem H p) (upd H1 p (DkO L a b (n + 1))) := ex_upd (rem_ex.trans e1) hB
  show tSeq _ _ _ _ (upd H1 p (DkO L a b (n + 1)))
  generalize upd H1 p (DkO L a b (n + 1)) = H1 at d1 x1 ⊢
  -- what is left of a great one
  refine q_when (b := decide (0 < b)) (et_test (ev_op (g2 rfl d1) ev_c rv_I0)) (fun _ H2 e2 => ?_) fun _ H2 e2 => ?_
  · have d2 := d1.ex e2
    refine q_asg (v := .int (b % m)) (ev_op (ev_int (g2 rfl d2)) (ev_var rfl) (rv_I hm)) fun H3 e3 => ?_
    have d3 := d2.ex e3
    refine q_setL (j := 2) (v := .int (b / m)) d3.at_ (ev_op (g2 rfl d3) (ev_var rfl) (rv_I (cdiv b))) (ev_var rfl) ev_c (show 2 < 4 by decide) fun H4 e4 => ?_
    have d4 : DkAt (upd H4 p (DkO L a (b / m) (n + 1))) p L ns a (b / m) (n + 1) := (d3.ex e4).upd d.a0 (Int.ediv_nonneg d.b0 (by omega)) (by omega)
    refine s_ret (v := .int (b % m)) (ev_var rfl) fun H5 e5 => ?_
    refine q _ H5 (Int.emod_nonneg _ (by omega)) (Int.emod_lt_of_pos _ hm) ((ex_upd (((x1.trans e2).trans e3).trans e4) hB).trans e5) ?_
    exact ⟨_, _, _, d4.ex e5, by omega⟩
  have d2 := d1.ex e2
  have x2 := x1.trans e2
  refine q_asg (v := .int 61) ev_c fun H3 e3 => ?_
  have d3 := d2.ex e3
  have x3 := x2.trans e3
  have hlen : ∀ H', DkAt H' p L ns a b (n + 1) → SqL K H' L (ns.map V.int) := fun H' d => sq_of d.ls
  refine q_ifAsg (b := !ns.isEmpty) (v := .int (if ns.isEmpty then 61 else ns.getD (a % (ns.length : Int)).toNat 0)) ?_ (fun hb => ?_) (fun hb => ?_) fun H4 e4 => ?_
  · refine et_test (ev_opL (x := .ref L) (xs := []) (g0 rfl d3) (el_lst ea_nil (by simp)) fun q' H5 h5 e5 => ?_)
    intro H6 e6 Q' q6
    refine ⟨.list (ns.map PyData.int), .list [], .lst (sq_of ((d3.ex (e5.trans e6)).ls)) (dpAll_ints ns), .lst (sq_of (e6 _ _ h5)) .nil, shaped_ints ns, shaped_ints [], ?_⟩
    rw [eqv_ints_nil]
    exact q6 H6 (Ex.refl H6)
  · have hne : ns ≠ [] := by
      intro z
      rw [z] at hb
      cases hb
    have hpos : 0 < ns.length := by
      cases ns with
      | nil => exact absurd rfl hne
      | cons _ _ => simp
    have hie : ns.isEmpty = false := by simpa using hne
    have hr0 : 0 ≤ a % (ns.length : Int) := Int.emod_nonneg _ (by omega)
    have hr1 : a % (ns.length : Int) < (ns.length : Int) := Int.emod_lt_of_pos _ (by omega)
    rw [hie]
    refine ev_op (x := .ref L) (y := .int (a % (ns.length : Int))) (g0 rfl d3) (ev_op (ev_int (g1 rfl d3)) (gl rfl d3) (rv_I (by omega))) (rv_ixL (K := K) (sq_of d3.ls) ?_)
    obtain ⟨k, hk⟩ : ∃ k : Nat, a % (ns.length : Int) = (k : Int) := ⟨_, (Int.toNat_of_nonneg hr0).symm⟩
    rw [hk]
    refine atI_nat ?_
    have hkl : k < ns.length := by omega
    rw [Int.toNat_natCast, List.getElem?_map, List.getD_eq_getElem?_getD, List.getElem?_eq_getElem hkl]
    rfl
  · have hie : ns.isEmpty = true := by simpa using hb
    rw [hie]
    rfl
  generalize (if ns.isEmpty = true then (61 : Int) else ns.getD (a % (ns.length : Int)).toNat 0) = cell
  have d4 := d3.ex e4
  have x4 := x3.trans e4
  refine q_setL (j := 1) (v := .int (a + 1)) d4.at_ (ev_op (g1 rfl d4) ev_c rv_I0) (ev_var rfl) ev_c (show 1 < 4 by decide) fun H5 e5 => ?_
  have a0 := d.a0
  have d5 : DkAt (upd H5 p (DkO L (a + 1) b (n + 1))) p L ns (a + 1) b (n + 1) := (d4.ex e5).upd (by omega) d.b0 (by omega)
  have x5 : Ex (rem H p) (upd H5 p (DkO L (a + 1) b (n + 1))) := ex_upd (x4.trans e5) hB
  show tSeq _ _ _ _ (upd H5 p (DkO L (a + 1) b (n + 1)))
  generalize upd H5 p (DkO L (a + 1) b (n + 1)) = H5 at d5 x5 ⊢
  refine q_when (b := decide ((10 : Int) ^ (18 : Int).toNat ≤ (if cell < 0 then -cell else cell)) && decide (a + 1 ≤ (ns.length : Int))) ?_ (fun _ H6 e6 => ?_) fun _ H6 e6 => ?_
  · refine et_and (et_test (ev_op (ev_abs (ev_var rfl)) (ev_op ev_c ev_c (rv_I ⟨by decide, by decide, by decide⟩)) rv_I0)) fun _ => et_test (ev_op (g1 rfl d5) (gl rfl d5) rv_I0)
  · have d6 := d5.ex e6
    have hab : 0 ≤ (if cell < 0 then -cell else cell) := by split <;> omega
    refine q_setL (j := 2) (v := .int ((if cell < 0 then -cell else cell) / m)) d6.at_ (ev_op (ev_abs (ev_var rfl)) (ev_var rfl) (rv_I (cdiv _))) (ev_var rfl) ev_c (show 2 < 4 by decide) fun H7 e7 => ?_
    have d7 : DkAt (upd H7 p (DkO L (a + 1) ((if cell < 0 then -cell else cell) / m) (n + 1))) p L ns (a + 1) ((if cell < 0 then -cell else cell) / m) (n + 1) := (d6.ex e7).upd (by omega) (Int.ediv_nonneg hab (by omega)) (by omega)
    refine s_ret (v := .int ((if cell < 0 then -cell else cell) % m)) (ev_op (ev_int (ev_abs (ev_var rfl))) (ev_var rfl) (rv_I hm)) fun H8 e8 => ?_
    refine q _ H8 (Int.emod_nonneg _ (by omega)) (Int.emod_lt_of_pos _ hm) ((ex_upd ((x5.trans e6).trans e7) hB).trans e8) ?_
    exact ⟨_, _, _, d7.ex e8, by omega⟩
  have d6 := d5.ex e6
  have x6 := x5.trans e6
  have c1 : 0 ≤ cell % 2147483587 := Int.emod_nonneg _ (by decide)
  have c2 : cell % 2147483587 < 2147483587 := Int.emod_lt_of_pos _ (by decide)
  refine q_asg (v := .int ((cell % 2147483587 + 67867979 * (n + 1)) ^ (5 : Int).toNat % 2147483647)) (ev_op (ev_op (ev_int (ev_op (ev_op (ev_int (ev_var rfl)) ev_c (rv_I (by decide))) (ev_op ev_c (g3 rfl d6) (rv_I (.inl ⟨by decide, by decide⟩))) rv_I0)) ev_c (rv_I ⟨by decide, by decide, by omega⟩)) ev_c (rv_I (by decide))) fun H7 e7 => ?_
  have m1 : 0 ≤ (cell % 2147483587 + 67867979 * (n + 1)) ^ (5 : Int).toNat % 2147483647 := Int.emod_nonneg _ (by decide)
  have m2 : (cell % 2147483587 + 67867979 * (n + 1)) ^ (5 : Int).toNat % 2147483647 < 2147483647 := Int.emod_lt_of_pos _ (by decide)
  generalize (cell % 2147483587 + 67867979 * (n + 1)) ^ (5 : Int).toNat % 2147483647 = mixed at m1 m2 ⊢
  have d7 := d6.ex e7
  have x7 := x6.trans e7
  have hmul : mixed * (2 * (n + 1) + 9) < 2147483647 * (2 * (n + 1) + 9) := Int.mul_lt_mul_of_pos_right m2 (by omega)
  have hmul0 : 0 ≤ mixed * (2 * (n + 1) + 9) := Int.mul_nonneg m1 (by omega)
  refine q_asg (v := .int ((mixed * (2 * (n + 1) + 9) + 7019) ^ (3 : Int).toNat % 2147483579)) (ev_op (ev_op (ev_int (ev_op (ev_op (ev_var rfl) (ev_op (ev_op ev_c (g3 rfl d7) (rv_I (.inl ⟨by decide, by decide⟩))) ev_c rv_I0) (rv_I (.inl ⟨by omega, by omega⟩))) ev_c rv_I0)) ev_c (rv_I ⟨by decide, by decide, by omega⟩)) ev_c (rv_I (by decide))) fun H8 e8 => ?_
  generalize (mixed * (2 * (n + 1) + 9) + 7019) ^ (3 : Int).toNat % 2147483579 = mixed2
  refine s_ret (v := .int (mixed2 / 16 % m)) (ev_op (ev_op (ev_var rfl) ev_c (rv_I ⟨by decide, by decide⟩)) (ev_var rfl) (rv_I hm)) fun H9 e9 => ?_
  refine q _ H9 (Int.emod_nonneg _ (by omega)) (Int.emod_lt_of_pos _ hm) ((x7.trans e8).trans e9) ?_
  exact ⟨_, _, _, (d7.ex e8).ex e9, by omega⟩
end
end WR
set_option Elab.async false
set_option linter.all false
set_option maxRecDepth 100000
set_option maxHeartbeats 1000000
namespace WR
open PySem PySem.Spec PyProof.Rows L2 Evl
/-! ### _law_deck -/
def spDeck (K : PySem.W.Frag) : Sp := fun vs H Q _ => ∃ (a : Addr) (ns : List Int), vs = [.ref a] ∧ SqL K H a (ns.map V.int) ∧ ns.length ≤ 63 ∧
  ∀ p L H', H p = none → H L = none → Ex H H' → Dk H' p L ns 0 → Q (.ref p) H'
theorem scDeck : FnScope ["_law_script"] ["_law_script"] (defScope sDeck) := ⟨rfl, rfl, rfl, by decide +kernel, rfl, by decide +kernel, by decide +kernel⟩
theorem cut63 {xs : List V} (h : xs.length ≤ 63) : cutV xs none (some 63) = xs := by
  unfold cutV
  rw [show HT.sIx xs.length xs.length (some 63) = min 63 xs.length from HT.sIx_nat xs.length xs.length 63, HT.sIx_none, List.drop_zero]
  exact List.take_of_length_le (by omega)
section
variable {P : Program} {w : World} {K : PySem.W.Frag} {mg : Str → Option Value} {base : Heap}
theorem ok_deck {f : Addr} {fd : FuncData} (F : Fun K "_law_deck" "_law_deck" sDeck f fd) (m1 : mg "list" = none) : FnOk P w K mg base CX0 1 f fd ["_law_script"] (spDeck K) := by
  refine F.ok scDeck (fun vs H Q E h => ?_) (fun cdv A outer s H vs Q E hr h => ?_)
  · obtain ⟨a, ns, rfl, _⟩ := h
    rfl
  obtain ⟨a, ns, rfl, hS, hlen, q⟩ := h
  refine ⟨_, pss_one (ps_ret (pe_lst (pa_cons (pe_callTy call_list_of (by rfl) m1 (by decide +kernel) (pa_cons (pe_slice sl_list (pv 0) po_none (po_some pe_int)) pa_nil)) (pa_cons pe_int (pa_cons pe_int (pa_cons pe_int pa_nil)))))), ?_⟩
  refine ⟨.ref a, rfl, 63, rfl, a, ns.map V.int, rfl, hS, fun c nc => ?_⟩
  rw [cut63 (by rw [List.length_map]; exact hlen)]
  refine ⟨c, ns.map V.int, rfl, .inl (sq_of upd_same), fun L nL => ?_⟩
  refine ⟨by show 4 ≤ sizeLine; decide, fun p np => ?_⟩
  have e1 : Ex H (upd H c (.lst (ns.map V.int))) := Ex.new nc
  have e2 := Ex.new (o := .lst (ns.map V.int)) nL
  have e3 := Ex.new (o := DkO L 0 0 0) np
  have hp : H p = none := fresh_back (e1.trans e2) np
  refine q p L _ hp (fresh_back e1 nL) ((e1.trans e2).trans e3) ⟨0, 0, 0, ⟨upd_same, ?_, by decide, by decide, by decide, hlen⟩, by decide⟩
  exact e3 _ _ upd_same

end
end WR
set_option Elab.async false
set_option linter.all false
set_option maxRecDepth 100000
set_option maxHeartbeats 1000000
/-! for i, x in enumerate(a tuple) -/
namespace WR
open PySem PySem.Spec PyProof.Rows L2 Evl

theorem meets_enum1 {v : Value} {o : Obj} {HH : Heap → Prop} (B : Begins v o HH) :
    Meets (Builtin.«enumerate.__new__» ⟨[.type "enumerate", v], []⟩) (fun _ R s => HH s.heap ∧
      R (.ok (.ret (.ref (s.heap.push o).objs.size)))
        { s with heap := (s.heap.push o).push { cls := .type "enumerate", data := .fields #[.none, .bool false, .ref s.heap.objs.size, rawInt 0, .none, .none] } }) := by
  refine .of_wp fun prog w A R s h => ?_
  obtain ⟨hp, g, dr, tk, os⟩ := s
  obtain ⟨hh, hr⟩ := h
  have hsub := sub_enumerate
  have it1 : ∀ {A' : Around} {E' : Value → Shared → Prop} {Q' : Value → Shared → Prop},
      Q' (.ref hp.objs.size) ⟨hp.push o, g, dr, tk, os⟩ →
        wpAny (model prog w) A' (pyIter v) Q' E' ⟨hp, g, dr, tk, os⟩ := by
    intro A' E' Q' q
    exact B.iter prog w A' E' ⟨hp, g, dr, tk, os⟩ Q' hh q
  wp_walk using it1
  refine wpAny_stack_any fun st => ?_
  refine wpAny_pure ?_
  split
  · rename_i c _ _ _ _ _
    cases (c == Value.type "enumerate") with
    | true =>
      wp_walk using it1
      exact ⟨_, rfl, hr⟩
    | false =>
      wp_walk using it1
      exact ⟨_, rfl, hr⟩
  · wp_walk using it1
    exact ⟨_, rfl, hr⟩

theorem call_enum1 {prog : Program} {w : World} {A : Around} {E : Value → Shared → Prop} {s : Shared} {v : Value} {o : Obj} {HH : Heap → Prop}
    {Q : Value → Shared → Prop} (B : Begins v o HH) (hh : HH s.heap)
    (k : ∀ h', IsEnum h' (s.heap.objs.size + 1) s.heap.objs.size 0 .none → h'.get? s.heap.objs.size = some o →
      (∀ b u, s.heap.get? b = some u → h'.get? b = some u) → Q (.ref (s.heap.objs.size + 1)) { s with heap := h' }) :
    wpAny (model prog w) A (call (.type "enumerate") [v]) Q E s := by
  refine callType_new F.called_enumerate (by decide) (F.typeCall_enumerate_1 _) (F.newCall_enumerate_1 _)
    (fun obj => F.args_object_init_2 obj _) F.entry_enumerate_new (meets_enum1 B) ⟨hh, ?_⟩
  have sz : (s.heap.push o).objs.size = s.heap.objs.size + 1 := Heap.size_push ..
  show _ ∧ _
  rw [sz]
  let O : Obj := { cls := .type "enumerate", data := .fields #[.none, .bool false, .ref s.heap.objs.size, rawInt 0, .none, .none] }
  have he : IsEnum ((s.heap.push o).push O) (s.heap.objs.size + 1) s.heap.objs.size 0 .none := by
    have q := Heap.get?_push_size (s.heap.push o) (o := O) rfl
    rw [sz] at q
    exact q
  refine ⟨⟨_, he, rfl⟩, k _ he ?_ fun b u x => ?_⟩
  · exact Heap.get?_push_of_some _ (Heap.get?_push_size _ B.free)
  · exact Heap.get?_push_of_some _ (Heap.get?_push_of_some _ x)

/-- the tuple at a, each item in a new pair with its place -/
def IteT (K : PySem.W.Frag) (a : Addr) : It where
  go := fun i H => ∃ (xs : List V) (x : V), SqT K H a xs ∧ xs[i]? = some x
  yld := fun i H v H' => ∃ T x, v = .ref T ∧ H T = none ∧ H' = upd H T (.tup [.int (i : Nat), x]) ∧ ∀ xs, SqT K H a xs → xs[i]? = some x
  stop := fun i H => ∃ xs : List V, SqT K H a xs ∧ xs.length = i

theorem turn_enumT {P : Program} {w : World} {K : PySem.W.Frag} {elts : List Expr} {kk : Nat} {tpos : Pos} (a e it : Addr) :
    Turn P w K (.Tuple elts kk tpos) (IteT K a) [e, it] e
      (fun i h => (∃ old, IsEnum h e it ((i : Nat) : Int) old) ∧ h.IsTupleIter it a i ∧ e ≠ it ∧ it ≠ a ∧ e ≠ a) where
  mem := List.mem_cons_self ..
  obj := fun i h st b hb => by
    obtain ⟨⟨old, he⟩, ⟨o, ho, hc, hd⟩, _⟩ := st
    rcases List.mem_cons.mp hb with z | z
    · subst z
      exact ⟨_, he, fun v q => nomatch q⟩
    · cases List.mem_singleton.mp z
      exact ⟨o, ho, fun v q => by rw [hd] at q; cases q⟩
  keep := fun i h h' st k => by
    obtain ⟨⟨old, he⟩, hi, n1, n2, n3⟩ := st
    exact ⟨⟨old, k e (by simp) _ he⟩, hi.at fun o q => k it (by simp) o q, n1, n2, n3⟩
  item := by
    intro X hP hw hK hc i pins s σ H E I hf st hg
    subst hP hw hK
    obtain ⟨⟨old, he⟩, hit, hne, hia, hea⟩ := st
    obtain ⟨xs, x, hq, hx⟩ := hg
    obtain ⟨its, rv, p, hz⟩ := I.tuple hq
    obtain ⟨u, hu, ru⟩ := rv.get hx
    have el : e < s.heap.objs.size := Heap.lt_size he
    have il : it < s.heap.objs.size := by
      obtain ⟨_, q, _⟩ := hit
      exact Heap.lt_size q
    have iu : its.toArray[i]? = some u := by simpa using hu
    have hD := Draws.tuple (prog := X.prog) (w := X.w) (A := X.A.in1) (I.ok.hd hc) it a hia.symm its.toArray
    have hlt : i < its.toArray.size := (Array.getElem?_eq_some_iff.mp iu).1
    refine wpAny_pyNext_enum_itemD hD he ⟨hit, p⟩ hlt hne (by simp [hne, hea]) fun y h' tk hy ho hs hT hsz hk => ?_
    have ey : y = u := Option.some.inj (hy.symm.trans iu)
    subst ey
    refine ⟨_, rfl, wpAny_letOwnedTupleGo_enum (s := { s with heap := h', toks := tk + 1 }) ho fun h'' he' sb => ?_⟩
    have tT : h''.get? s.heap.objs.size = some { cls := .type "tuple", data := .seq #[.int i tk, y] } := (sb.2 _ (Nat.ne_of_gt el)).trans hT
    have new : ObjOk X.prog X.w (upd H s.heap.objs.size (.tup [.int (i : Nat), x])) h'' s.heap.objs.size (.tup [.int (i : Nat), x]) := by
      refine ⟨by show 2 ≤ sizeLine; decide, [.int i tk, y], ?_, ⟨_, tT, rfl, _, rfl⟩⟩
      exact .cons ⟨_, rfl⟩ (.cons ru .nil)
    have I1 : Inv X pins σ (upd H s.heap.objs.size (.tup [.int (i : Nat), x])) { s with heap := h'', toks := tk + 1 } := by
      refine I.turnedNew (ch := [e, it]) (fun b ob hb q => ?_) hf (Nat.le_refl _) new
      have b1 : b ≠ e := fun z => hb (by simp [z])
      have b2 : b ≠ it := fun z => hb (by simp [z])
      exact (sb.2 b b1).trans (hk b ob b1 b2 q)
    refine ⟨.ref s.heap.objs.size, _, I1, rfl, ?_, ?_, fun b hb => ?_⟩
    · exact ⟨_, x, rfl, I.hok.fresh (Nat.le_refl _), rfl, fun ys hy => by rw [I.tuple_inj hy hq]; exact hx⟩
    · refine ⟨⟨y, ?_⟩, hs.1.at fun o q => (sb.2 it (Ne.symm hne)).trans q, hne, hia, hea⟩
      rw [show ((i + 1 : Nat) : Int) = (i : Int) + 1 by omega]
      exact he'
    · have lt : b < s.heap.objs.size := by
        rcases List.mem_cons.mp hb with z | z
        · rw [z]
          exact el
        · rw [List.mem_singleton.mp z]
          exact il
      rw [upd_ne (Nat.ne_of_lt lt)]
      exact (hf b hb).1
  done := by
    intro X hP hw hK hc i pins s σ H E I hf st hg
    subst hP hw hK
    obtain ⟨⟨old, he⟩, hit, hne, hia, hea⟩ := st
    obtain ⟨xs, hq, hx⟩ := hg
    obtain ⟨its, rv, p, hz⟩ := I.tuple hq
    obtain ⟨f0, f1, f2, f3, f4, f5⟩ := hf it (by simp)
    have hl := rv.length
    have hD := Draws.tuple (prog := X.prog) (w := X.w) (A := X.A.in1) (I.ok.hd hc) it a hia.symm its.toArray
    have hn : its.toArray.size = i := by rw [List.size_toArray]; omega
    subst hn
    refine wpAny_pyNext_enum_endD hD he ⟨hit, p⟩ fun h' eb => ⟨rfl, ?_⟩
    exact I.turned (t' := s.toks) (fun b o hb q => eb b o hb q) f0 f1 f3 f4 f5
  self := fun A i s Q E st h => by
    obtain ⟨⟨_, he⟩, _⟩ := st
    exact wpAny_pyIter_enum he h

def iEnumT (K : PySem.W.Frag) (ta : TA) : TI := fun σ H R => ta σ H fun vs H1 => ∃ a xs, vs = [.ref a] ∧ SqT K H1 a xs ∧ R (IteT K a) H1
theorem pi_enumT {X : Cx} {e : Expr} {ta : TA} {p pos tpos : Pos} {elts : List Expr} {kk : Nat} (hg : Gl X "enumerate")
    (hm : X.mg "enumerate" = none) (ha : PA X [e] ta) (hs : starEach [e] X.env = [(false, eval e X.env)] := by rfl) :
    PI X (.Tuple elts kk tpos) (.Call (.Name "enumerate" p) [e] [] pos) (iEnumT X.K ta) := by
  constructor
  intro pins s σ H R I h
  refine Call_ (ld_blt I hg hm boot_enumerate (PyProof.Rows.callWith_type1 (thn (ha.run pos pins s σ H _ I h) ?_) hs rfl))
  intro us s1 hq
  obtain ⟨vs, H1, I1, r1, a, xs, rfl, hx, q⟩ := hq
  match r1 with
  | .cons r .nil =>
    cases r
    obtain ⟨its, rv, p', hz⟩ := I1.tuple hx
    refine call_enum1 (begins_tuple a its.toArray) (show s1.heap.IsTuple a its.toArray from p') fun h' he hit hk => wpAny_pyIter_enum he ?_
    have I2 : Inv X pins σ H1 { s1 with heap := h' } := I1.kept (t' := s1.toks) hk
    have la : a < s1.heap.objs.size := by
      obtain ⟨_, z, _⟩ := p'
      exact Heap.lt_size z
    refine ⟨s1.heap.objs.size + 1, [s1.heap.objs.size + 1, s1.heap.objs.size], _, _, H1, rfl, I2, turn_enumT a (s1.heap.objs.size + 1) s1.heap.objs.size, ?_, fun b hb => ?_, q⟩
    · exact ⟨⟨.none, he⟩, ⟨_, hit, rfl, rfl⟩, Nat.succ_ne_self _, Nat.ne_of_gt la, Nat.ne_of_gt (Nat.lt_succ_of_lt la)⟩
    · have le : s1.heap.objs.size ≤ b := by
        rcases List.mem_cons.mp hb with z | z
        · rw [z]; exact Nat.le_add_right _ _
        · rw [List.mem_singleton.mp z]
          exact Nat.le_refl _
      exact I1.fpOk le (I1.hok.fresh le)

/-- enumerate over a tuple of data: each turn a new pair of the place and the item -/
theorem walk_dE {K : PySem.W.Frag} {a : Addr} {xs : List V} {ds : List PyData} (hn : xs.length = ds.length) :
    Walk (IteT K a) ds.length (fun H => SqT K H a xs ∧ DpAll K H xs ds)
      (fun i H v H' => ∃ T x d, v = .ref T ∧ H T = none ∧ H' = upd H T (.tup [.int (i : Nat), x]) ∧ ds[i]? = some d ∧ Dp K H x d) := by
  refine ⟨fun i H hi q => ⟨xs, xs[i]'(by omega), q.1, by simp⟩, fun H q => ⟨xs, q.1, hn⟩, fun i H v H' hi q y => ?_⟩
  obtain ⟨T, x, h1, h2, h3, h4⟩ := y
  obtain ⟨d, h5, h6⟩ := dpAll_at q.2 (h4 xs q.1)
  exact ⟨T, x, d, h1, h2, h3, h5, h6⟩
end WR
set_option Elab.async false
set_option linter.all false
set_option maxRecDepth 100000
set_option maxHeartbeats 1000000
namespace WR
open PySem PySem.Spec PyProof.Rows L2 Evl
/-! ### the first of some numbers -/
def fnd (lo n : Nat) (b : Nat → Bool) : Option Nat := ((List.range n).find? fun k => b (lo + k)).map (lo + ·)
theorem fnd_some {lo n k : Nat} {b : Nat → Bool} (hk : k < n) (h : b (lo + k) = true) (hi : ∀ i, i < k → b (lo + i) = false) : fnd lo n b = some (lo + k) := by
  have e : (List.range n).find? (fun k => b (lo + k)) = some k := by
    rw [List.find?_eq_some_iff_getElem]
    refine ⟨h, k, by rw [List.length_range]; exact hk, List.getElem_range _, fun j hj => ?_⟩
    rw [List.getElem_range, hi j hj]
    rfl
  unfold fnd
  rw [e]
  rfl
theorem fnd_none {lo n : Nat} {b : Nat → Bool} (hi : ∀ i, i < n → b (lo + i) = false) : fnd lo n b = none := by
  have e : (List.range n).find? (fun k => b (lo + k)) = none := by
    rw [List.find?_eq_none]
    intro k hk
    rw [hi k (List.mem_range.mp hk)]
    exact Bool.false_ne_true
  unfold fnd
  rw [e]
  rfl
theorem q_findP {K : PySem.W.Frag} {σ : L2.St} {H : Hp} {t : TT} {D : Ends} {tu tz : TS} {wi : TI} {j lo n : Nat} (hj : j < σ.length) (h : SrcS K wi σ H (rngD (lo : Int) n)) (b : Nat → Bool)
    (ht : ∀ k H1, k < n → Ex H H1 → EvT t (σ.set j (some (.int ((lo + k : Nat) : Int)))) H1 (b (lo + k)))
    (hr : ∀ k H1 D', k < n → fnd lo n b = some (lo + k) → Ex H H1 → D'.rt = D.rt → tu D' (σ.set j (some (.int ((lo + k : Nat) : Int)))) H1)
    (hd : fnd lo n b = none → ∀ x H1, Ex H H1 → tz D (σ.set j x) H1) :
    tSeq (tFor wi (gName j) (tIfS t tu tNext)) tz D σ H := by
  have ec : ∀ k : Nat, (lo : Int) + (k : Int) = ((lo + k : Nat) : Int) := fun k => by omega
  refine q_find h (fun k => b (lo + k)) (fun k H1 hk e => by rw [ec]; exact ht k H1 hk e) (fun k H1 D' hk hb hi e hD => by rw [ec]; exact hr k H1 D' hk (fnd_some hk hb hi) e hD) fun hall σ' H1 e hσ => ?_
  rcases hσ with rfl | ⟨x, rfl⟩
  · have q := hd (fnd_none hall) σ'[j] H1 e
    rw [List.set_getElem_self] at q
    exact q
  · exact hd (fnd_none hall) _ H1 e

def chain (r : PyData) : List (Option Nat × Str) → PyData
  | [] => r
  | (some k, x) :: _ => .tuple [natD k, .str x]
  | (none, _) :: l => chain r l
def cAt (l : Nat) (inner : List (List Nat)) (k : Nat) : Int := (cnts l inner).getD k 0
def isLone (l : Nat) (inner : List (List Nat)) (k : Nat) : Bool := decide (cAt l inner k < 2) && decide (((kidsAt l inner k).length : Int) = 1)
def isWide (l : Nat) (inner : List (List Nat)) (k : Nat) : Bool := decide (1 < cAt l inner k) && decide (1 < ((kidsAt l inner k).length : Int))
def isBare (l : Nat) (inner : List (List Nat)) (k : Nat) : Bool := (kidsAt l inner k).all fun c => decide (1 < cAt l inner c)
def linkErr (l : Nat) (inner : List (List Nat)) : PyData := chain .none
  [(fnd 0 (topN l inner) (fun k => decide (cAt l inner k = 0)), "parents"), (fnd 0 l (fun k => decide (1 < cAt l inner k)), "leaf"),
   (fnd l inner.length (isLone l inner), "single"), (fnd l inner.length (isWide l inner), "mixing"), (fnd l inner.length (isBare l inner), "bare")]

theorem cAt_at {l : Nat} {inner : List (List Nat)} {k : Nat} (h : k < l + inner.length) : ((cnts l inner).map PyData.int)[k]? = some (.int (cAt l inner k)) := by
  have hl : (cnts l inner).length = l + inner.length := cntF_len _ _
  unfold cAt
  rw [List.getElem?_map, List.getD_eq_getElem?_getD, List.getElem?_eq_getElem (by omega)]
  rfl
theorem kidsAt_ltL {l : Nat} {inner : List (List Nat)} {k c : Nat} (hw : Raw l inner) (hc : c ∈ kidsAt l inner k) : c < k ∧ k < l + inner.length := by
  unfold kidsAt at hc
  by_cases h : k < l
  · rw [if_pos h] at hc
    cases hc
  · rw [if_neg h, List.getD_eq_getElem?_getD] at hc
    cases e : inner[k - l]? with
    | none =>
      rw [e] at hc
      cases hc
    | some ks =>
      rw [e] at hc
      have q1 := hw.lt _ ks e c hc
      have q2 := (List.getElem?_eq_some_iff.mp e).1
      omega
theorem kidsAt_len {l : Nat} {inner : List (List Nat)} {k : Nat} (hw : Raw l inner) : (kidsAt l inner k).length ≤ 30 := by
  unfold kidsAt
  by_cases h : k < l
  · rw [if_pos h]
    exact Nat.zero_le _
  · rw [if_neg h, List.getD_eq_getElem?_getD]
    cases e : inner[k - l]? with
    | none => exact Nat.zero_le _
    | some ks => exact hw.len ks (List.mem_of_getElem? e)

abbrev nLink : List Str := ["web", "counts", "leaves", "kind", "child"]
theorem scLink : FnScope nLink ["web"] (defScope sLink) := ⟨rfl, rfl, rfl, by decide +kernel, rfl, by decide +kernel, by decide +kernel⟩
section
variable {P : Program} {w : World} {K : PySem.W.Frag} {mg : Str → Option Value} {base : Heap}
theorem ok_link {f fR fC fK : Addr} {fd fdR fdC fdK : FuncData} (F : Fun K "link_error" "link_error" sLink f fd)
    (FR : Fun K "root" "root" sRoot fR fdR) (bR : Binds K fdR ["web"] []) (gR : mg "root" = some (.ref fR))
    (FC : Fun K "parent_counts" "parent_counts" sCnt fC fdC) (bC : Binds K fdC ["web"] []) (gC : mg "parent_counts" = some (.ref fC))
    (FK : Fun K "children" "children" sKids fK fdK) (bK : Binds K fdK ["web", "kind"] []) (gK : mg "children" = some (.ref fK))
    (m4 : mg "range" = none) (m5 : mg "len" = none) (m6 : mg "all" = none)
    (G : FnOk P w K mg base CX0 1 fR fdR ["web"] (spW K fun l inner => natD (topN l inner)))
    (GC : FnOk P w K mg base CX0 2 fC fdC ["web"] (spW K fun l inner => .list ((cnts l inner).map PyData.int)))
    (GK : FnOk P w K mg base CX0 1 fK fdK ["web", "kind"] (spWK K fun l inner k => kidsD (kidsAt l inner k))) :
    FnOk P w K mg base CX0 3 f fd ["web"] (spW K linkErr) := by
  refine F.ok scLink (fun vs H Q E h => spW_len h) (fun cdv A outer s H vs Q E hr h => ?_)
  obtain ⟨v, l, inner, rfl, hv, hw, q⟩ := h
  refine ⟨_, pss_cons (ps_set (i := 1) scLink.nd rfl (.inr rfl) (pe_call GC hr (by rfl) gC FC.kp bC .nil pass0 (pa_cons (pv 0) pa_nil)))
    (pss_cons (ps_set (i := 2) scLink.nd rfl (.inl rfl) (pe_ix ix_tup (pv 0) pe_int (fun _ _ => rfl)))
    (pss_cons (ps_for PassesOwn.never rfl (pi_range1 (by rfl) m4 (pa_cons (pe_call G (hr.mono (by decide)) (by rfl) gR FR.kp bR .nil pass0 (pa_cons (pv 0) pa_nil)) pa_nil)) (pg_name (i := 3) scLink.nd rfl (.inl rfl))
      (pss_one (ps_if (pt_cmpR op_eq (pe_ix ix_list (pv 1) (pv 3) (fun _ _ => rfl)) pe_int (nomark _)) (pss_one (ps_ret (pe_tup (pa_cons (pv 3) (pa_cons pe_str pa_nil))))) pss_nil)))
    (pss_cons (ps_for PassesOwn.never rfl (pi_range1 (by rfl) m4 (pa_cons (pv 2) pa_nil)) (pg_name (i := 3) scLink.nd rfl (.inl rfl))
      (pss_one (ps_if (pt_cmpR op_gt (pe_ix ix_list (pv 1) (pv 3) (fun _ _ => rfl)) pe_int (nomark _)) (pss_one (ps_ret (pe_tup (pa_cons (pv 3) (pa_cons pe_str pa_nil))))) pss_nil)))
    (pss_cons (ps_for PassesOwn.never rfl (pi_range2 (by rfl) m4 (pa_cons (pv 2) (pa_cons (pe_callB call_len_seq (by rfl) m5 PySem.boot_len (pa_cons (pv 1) pa_nil)) pa_nil))) (pg_name (i := 3) scLink.nd rfl (.inl rfl))
      (pss_one (ps_if (pw_and (pt_cmpR op_lt (pe_ix ix_list (pv 1) (pv 3) (fun _ _ => rfl)) pe_int (nomark _)) (pw_and1 (pt_cmpR op_eq (pe_callB call_len_seq (by rfl) m5 PySem.boot_len (pa_cons (pe_call GK (hr.mono (by decide)) (by rfl) gK FK.kp bK .nil pass0 (pa_cons (pv 0) (pa_cons (pv 3) pa_nil))) pa_nil)) pe_int (nomark _)))).pt
        (pss_one (ps_ret (pe_tup (pa_cons (pv 3) (pa_cons pe_str pa_nil))))) pss_nil)))
    (pss_cons (ps_for PassesOwn.never rfl (pi_range2 (by rfl) m4 (pa_cons (pv 2) (pa_cons (pe_callB call_len_seq (by rfl) m5 PySem.boot_len (pa_cons (pv 1) pa_nil)) pa_nil))) (pg_name (i := 3) scLink.nd rfl (.inl rfl))
      (pss_one (ps_if (pw_and (pt_cmpR op_gt (pe_ix ix_list (pv 1) (pv 3) (fun _ _ => rfl)) pe_int (nomark _)) (pw_and1 (pt_cmpR op_gt (pe_callB call_len_seq (by rfl) m5 PySem.boot_len (pa_cons (pe_call GK (hr.mono (by decide)) (by rfl) gK FK.kp bK .nil pass0 (pa_cons (pv 0) (pa_cons (pv 3) pa_nil))) pa_nil)) pe_int (nomark _)))).pt
        (pss_one (ps_ret (pe_tup (pa_cons (pv 3) (pa_cons pe_str pa_nil))))) pss_nil)))
    (pss_cons (ps_for PassesOwn.never rfl (pi_range2 (by rfl) m4 (pa_cons (pv 2) (pa_cons (pe_callB call_len_seq (by rfl) m5 PySem.boot_len (pa_cons (pv 1) pa_nil)) pa_nil))) (pg_name (i := 3) scLink.nd rfl (.inl rfl))
      (pss_one (ps_if (pt_val (pe_callB (cr_all rfl) (by rfl) m6 (by decide +kernel) (pa_cons (pe_lc (own := [("child", 4)]) (g := gName 4) (tt := tYes) rfl scLink.nd
          (pi_tup (pe_call GK (hr.mono (by decide)) (by rfl) gK FK.kp bK .nil pass0 (pa_cons (pv 0) (pa_cons (pv 3) pa_nil)))) (blkOk_by (N := nLink) (sc := defScope sLink) (by decide +kernel))
          (fun _ _ _ _ _ => pg_name (i := 4) scLink.nd rfl (Or.inl rfl)) (fun _ _ _ _ _ => pts_nil)
          (fun _ _ _ _ _ => pe_cmpR op_gt (pe_ix (r := rIxL K) ix_list (pv 1) (pv 4) (fun _ _ => rfl)) pe_int (nomark _))) pa_nil)))
        (pss_one (ps_ret (pe_tup (pa_cons (pv 3) (pa_cons pe_str pa_nil))))) pss_nil)))
    (pss_one (ps_ret pe_non)))))))), ?_⟩
  have h8 := hw.l8
  have h20 := hw.n20
  have h1 := hw.l1
  refine q_asgD (K := K) (d := .list ((cnts l inner).map PyData.int)) (ed_callW (ed_var rfl hv) hw) fun c H1 e1 hc => ?_
  refine q_asgD (K := K) (d := natD l) (ed_ixT (n := 0) (ed_var rfl (dp_ex e1 _ hv)) (ed_i ev_c) rfl rfl) fun y H2 e2 hy => ?_
  cases dp_int hy
  have e12 := e1.trans e2
  have v2 := dp_ex e12 _ hv
  have c2 := dp_ex e2 _ hc
  clear hy hc
  let S (x : Option V) : L2.St := [some v, some c, some (.int (l : Int)), x, none]
  have hcount : ∀ (k : Nat) (H' : Hp), k < l + inner.length → Ex H2 H' → EvD K (tOp (rIxL K) (tVar 1) (tVar 3)) (S (some (.int (k : Int)))) H' (.int (cAt l inner k)) := fun k H' hk e =>
    ed_ixL (n := k) (ed_var rfl (dp_ex e _ c2)) (ed_var rfl (.int _)) rfl (cAt_at hk)
  have hkids : ∀ (k : Nat) (H' : Hp), k < l + inner.length → Ex H2 H' → EvD K (tCall (spWK K fun l inner k => kidsD (kidsAt l inner k)) [] E0 (tCons (tVar 0) (tCons (tVar 3) tNil))) (S (some (.int (k : Int)))) H' (kidsD (kidsAt l inner k)) := fun k H' hk e =>
    ed_callWK (ed_var rfl (dp_ex e _ v2)) (ed_var rfl (.int _)) hw hk
  have hret : ∀ (k : Nat) (x : Str) (H' : Hp) (D' : Ends), Ex H2 H' → D'.rt = Q → linkErr l inner = .tuple [natD k, .str x] → tRet (tTup (tCons (tVar 3) (tCons (tC (.str x)) tNil))) D' (S (some (.int (k : Int)))) H' := fun k x H' D' e hD hl =>
    s_retD (K := K) (ed_tup (eda_cons (d := natD k) (ed_var rfl (.int _)) (eda_cons (ed_ev ev_c (.str x)) eda_nil)) (by simp)) fun r H3 e3 hr => by
      rw [hD]
      exact q r H3 ((e12.trans e).trans e3) (by rw [hl]; exact hr)
  show tSeq _ _ _ (S none) H2
  have hR1 : SrcS K (iRng1 (tCons (tCall (spW K fun l inner => natD (topN l inner)) [] E0 (tCons (tVar 0) tNil)) tNil)) (S none) H2 (rngD ((0 : Nat) : Int) (topN l inner)) := by
    have q1 := srcS_R1 (K := K) (σ := S none) (H := H2) (n := ((topN l inner : Nat) : Int)) (ta := tCons (tCall (spW K fun l inner => natD (topN l inner)) [] E0 (tCons (tVar 0) tNil)) tNil)
      (ea_cons (ev_i (K := K) (ed_callW (ed_var rfl v2) hw)) ea_nil) (by unfold topN; omega)
    rw [Int.toNat_natCast] at q1
    exact q1
  have hR2 : ∀ (x : Option V) (H' : Hp), Ex H2 H' → SrcS K (iRng1 (tCons (tVar 2) tNil)) (S x) H' (rngD ((0 : Nat) : Int) l) := fun x H' e => by
    have q1 := srcS_R1 (K := K) (σ := S x) (H := H') (n := (l : Int)) (ta := tCons (tVar 2) tNil) (ea_cons (ev_var rfl) ea_nil) (by omega)
    rw [Int.toNat_natCast] at q1
    exact q1
  have hR3 : ∀ (x : Option V) (H' : Hp), Ex H2 H' → SrcS K (iRng2 (tCons (tVar 2) (tCons (tCB (fun xs H Q => ∃ p ys, xs = [.ref p] ∧ (SqL K H p ys ∨ SqT K H p ys) ∧ Q (.int ys.length) H) (tCons (tVar 1) tNil)) tNil))) (S x) H' (rngD (l : Int) inner.length) := fun x H' e => by
    have hl : ((cnts l inner).map PyData.int).length = l + inner.length := by rw [List.length_map]; exact cntF_len _ _
    have q1 := srcS_R2 (K := K) (σ := S x) (H := H') (lo := (l : Int)) (n := ((l + inner.length : Nat) : Int)) (ta := tCons (tVar 2) (tCons (tCB (fun xs H Q => ∃ p ys, xs = [.ref p] ∧ (SqL K H p ys ∨ SqT K H p ys) ∧ Q (.int ys.length) H) (tCons (tVar 1) tNil)) tNil))
      (ea_cons (ev_var rfl) (ea_cons (ev_is (ed_lenL (K := K) (ed_var rfl (dp_ex e _ c2))) (by rw [hl])) ea_nil)) (by omega)
    rw [show (((l + inner.length : Nat) : Int) - (l : Int)).toNat = inner.length by omega] at q1
    exact q1
  have htop : topN l inner < l + inner.length := by unfold topN; omega
  refine q_findP (j := 3) (show 3 < 5 by decide) hR1 (fun k => decide (cAt l inner k = 0)) (fun k H3 hk e => ?_) (fun k H3 D' hk hf e hD => ?_) fun hn1 x H3 e3 => ?_
  · exact et_test (ev_is (ev_op (ev_i (hcount (0 + k) H3 (by omega) e)) ev_c (rv_eq rfl)) (by rw [dec_int]; congr 1))
  · exact hret (0 + k) "parents" H3 D' e hD (by unfold linkErr; rw [hf]; rfl)
  show tSeq _ _ _ (S x) H3
  refine q_findP (j := 3) (show 3 < 5 by decide) (hR2 x H3 e3) (fun k => decide (1 < cAt l inner k)) (fun k H4 hk e => ?_) (fun k H4 D' hk hf e hD => ?_) fun hn2 x H4 e4 => ?_
  · exact et_test (ev_op (ev_i (hcount (0 + k) H4 (by omega) (e3.trans e))) ev_c rv_I0)
  · exact hret (0 + k) "leaf" H4 D' (e3.trans e) hD (by unfold linkErr; rw [hn1, hf]; rfl)
  have e4 := e3.trans e4
  show tSeq _ _ _ (S x) H4
  refine q_findP (j := 3) (show 3 < 5 by decide) (hR3 x H4 e4) (isLone l inner) (fun k H5 hk e => ?_) (fun k H5 D' hk hf e hD => ?_) fun hn3 x H5 e5 => ?_
  · refine et_and (et_test (ev_op (ev_i (hcount (l + k) H5 (by omega) (e4.trans e))) ev_c rv_I0)) fun _ => et_test (ev_is (ev_op (ed_lenT (hkids (l + k) H5 (by omega) (e4.trans e))) ev_c (rv_eq rfl)) ?_)
    rw [dec_int, List.length_map]
    congr 1
  · exact hret (l + k) "single" H5 D' (e4.trans e) hD (by unfold linkErr; rw [hn1, hn2, hf]; rfl)
  have e5 := e4.trans e5
  show tSeq _ _ _ (S x) H5
  refine q_findP (j := 3) (show 3 < 5 by decide) (hR3 x H5 e5) (isWide l inner) (fun k H6 hk e => ?_) (fun k H6 D' hk hf e hD => ?_) fun hn4 x H6 e6 => ?_
  · refine et_and (et_test (ev_op (ev_i (hcount (l + k) H6 (by omega) (e5.trans e))) ev_c rv_I0)) fun _ => et_test (ev_is (ev_op (ed_lenT (hkids (l + k) H6 (by omega) (e5.trans e))) ev_c rv_I0) ?_)
    rw [List.length_map]
  · exact hret (l + k) "mixing" H6 D' (e5.trans e) hD (by unfold linkErr; rw [hn1, hn2, hn3, hf]; rfl)
  have e6 := e5.trans e6
  show tSeq _ _ _ (S x) H6
  refine q_findP (j := 3) (show 3 < 5 by decide) (hR3 x H6 e6) (isBare l inner) (fun k H7 hk e => ?_) (fun k H7 D' hk hf e hD => ?_) fun hn5 x H7 e7 => ?_
  · have e := e6.trans e
    refine et_B (ev_is (ed_all (K := K) (bs := (kidsAt l inner (l + k)).map fun c => decide (1 < cAt l inner c)) (ed_is (ed_n (en_lc (ds := (kidsAt l inner (l + k)).map natD) (fun d => match d with | .int i => some (.bool (decide (1 < cAt l inner i.toNat))) | _ => none)
      (src_T (hkids (l + k) H7 (by omega) e)) (by rw [List.length_map]; have := kidsAt_len (k := l + k) hw; omega) (fun _ => rfl) (fun d w H8 e8 hd hw' => ?_) (fun d r w H8 e8 hd hw' hr => ?_) (fun d r hd hr => ?_))) ?_)) ?_)
    · obtain ⟨c, hc, rfl⟩ := List.mem_map.mp hd
      exact fun H1 _ _ q => q H1 (Ex.refl H1)
    · obtain ⟨c', hc, rfl⟩ := List.mem_map.mp hd
      cases hr
      cases dp_int hw'
      have hlt := kidsAt_ltL hw hc
      exact ed_b (ev_op (ev_i (ed_ixL (n := c') (ed_var rfl (dp_ex (e.trans e8) _ c2)) (ed_var rfl (.int _)) rfl (cAt_at (by omega)))) ev_c rv_I0)
    · obtain ⟨c', hc, rfl⟩ := List.mem_map.mp hd
      cases hr
      rfl
    · refine congrArg PyData.list ?_
      rw [List.filterMap_map, List.map_map]
      exact fm_map fun k hk => rfl
    · rw [List.all_map]
      rfl
  · exact hret (l + k) "bare" H7 D' (e6.trans e) hD (by unfold linkErr; rw [hn1, hn2, hn3, hn4, hf]; rfl)
  refine s_retD (K := K) (d := .none) (ed_ev ev_c .non) fun r H8 e8 hr => q r H8 (((e12.trans e6).trans e7).trans e8) ?_
  rw [show linkErr l inner = .none by unfold linkErr; rw [hn1, hn2, hn3, hn4, hn5]; rfl]
  exact hr
end
end WR
set_option Elab.async false
set_option linter.all false
set_option maxRecDepth 100000
set_option maxHeartbeats 1000000
namespace WR
open PySem PySem.Spec PyProof.Rows L2 Evl
/-! ### the text -/
theorem scIsInt : FnScope ["value"] ["value"] (defScope sIsInt) := ⟨rfl, rfl, rfl, by decide +kernel, rfl, by decide +kernel, by decide +kernel⟩
theorem scBetw : FnScope ["value", "low", "high"] ["value", "low", "high"] (defScope sBetw) := ⟨rfl, rfl, rfl, by decide +kernel, rfl, by decide +kernel, by decide +kernel⟩

section
variable {P : Program} {w : World} {K : PySem.W.Frag} {mg : Str → Option Value} {base : Heap}
theorem ok_isInt {f : Addr} {fd : FuncData} (F : Fun K "is_integer" "is_integer" sIsInt f fd) (m1 : mg "isinstance" = none) (m2 : mg "int" = none) (m3 : mg "bool" = none) :
    FnOk P w K mg base CX0 1 f fd ["value"] (spD K (f1 fun d => some (.bool (isInt d)))) := by
  refine F.ok scIsInt (fun vs H Q E h => spD_len f1_len h) (fun cdv A outer s H vs Q E hr h => ?_)
  obtain ⟨v, d, r, rfl, hv, hf, q⟩ := sp1 h
  cases hf
  refine ⟨_, pss_one (ps_ret (pe_and
    (pe_callB call_isi (by rfl) m1 (by decide +kernel) (pa_cons (pv 0) (pa_cons (pe_bltn (by rfl) m2 (by decide +kernel) (v := .ty "int") rfl) pa_nil)))
    (pe_one (pe_not (pe_callB call_isi (by rfl) m1 (by decide +kernel) (pa_cons (pv 0) (pa_cons (pe_bltn (by rfl) m3 (by decide +kernel) (v := .ty "bool") rfl) pa_nil))))))), ?_⟩
  refine s_ret (v := .bl (isInt d)) (ev_is (ev_andV (ev_isi (ed_var rfl hv) (kit_int d)) fun _ => ev_notV (ev_isi (ed_var rfl hv) (kit_bool d))) ?_) fun H1 e => q _ _ e (.bl _)
  cases d <;> rfl

def betw : PyData → Int → Int → Bool
  | .int i, a, b => decide (a ≤ i) && decide (i ≤ b)
  | _, _, _ => false
def gBetw (d lo hi : PyData) : Option PyData := match lo, hi with
  | .int a, .int b => some (.bool (betw d a b))
  | _, _ => none
theorem ok_betw {f fI : Addr} {fd fdI : FuncData} (F : Fun K "is_between" "is_between" sBetw f fd) (FI : Fun K "is_integer" "is_integer" sIsInt fI fdI) (bI : Binds K fdI ["value"] []) (gI : mg "is_integer" = some (.ref fI))
    (G : FnOk P w K mg base CX0 1 fI fdI ["value"] (spD K (f1 fun d => some (.bool (isInt d))))) :
    FnOk P w K mg base CX0 2 f fd ["value", "low", "high"] (spD K (f3 gBetw)) := by
  refine F.ok scBetw (fun vs H Q E h => spD_len f3_len h) (fun cdv A outer s H vs Q E hr h => ?_)
  obtain ⟨v, x, y, d, lo, hi, r, rfl, hv, hx, hy, hf, q⟩ := sp3 h
  match lo, hi, hf, hx, hy with
  | .int a, .int b, hf, hx, hy =>
    cases hf
    refine ⟨_, pss_one (ps_ret (pe_and
      (pe_call G hr (by rfl) gI FI.kp bI .nil pass0 (pa_cons (pv 0) pa_nil))
      (pe_one (pe_chain op_le op_le (pv 1) (pv 0) (pv 2))))), ?_⟩
    have e1 : Ev (tCall (spD K (f1 fun d => some (.bool (isInt d)))) [] E0 (tCons (tVar 0) tNil)) (start ["value", "low", "high"] [v, x, y]) H (.bl (isInt d)) :=
      ev_b (ed_call (eda_cons (ed_var rfl hv) eda_nil) rfl)
    cases hd : isInt d with
    | false =>
      have hb : betw d a b = false := by cases d <;> first | rfl | cases hd
      rw [hb] at q
      rw [hd] at e1
      exact s_ret (ev_andV (b := false) e1 (fun z => by cases z)) fun H1 e => q _ _ e (.bl _)
    | true =>
      cases d with
      | int i =>
        rw [hd] at e1
        exact s_ret (ev_andV e1 fun _ => ev_chain (K := K) (ed_var rfl hx) (ed_var rfl hv) (ed_var rfl hy)) fun H1 e => q _ _ e (.bl _)
      | _ => cases hd

end
end WR
set_option Elab.async false
set_option linter.all false
set_option maxRecDepth 100000
set_option maxHeartbeats 1000000
namespace WR
open PySem PySem.Spec PyProof.Rows L2 Evl
theorem scAsc : FnScope ["value", "high", "item", "at"] ["value", "high"] (defScope sAsc) := ⟨rfl, rfl, rfl, by decide +kernel, rfl, by decide +kernel, by decide +kernel⟩

section
variable {P : Program} {w : World} {K : PySem.W.Frag} {mg : Str → Option Value} {base : Heap}
/-- ascending below and up to b -/
def asc1 : List Int → Bool
  | x :: y :: r => decide (x < y) && asc1 (y :: r)
  | _ => true
def toInts : List PyData → Option (List Int)
  | [] => some []
  | .int i :: r => (toInts r).map (i :: ·)
  | _ :: _ => none
def ascD : PyData → Int → Bool
  | .tuple ds, b => ds.all (fun d => betw d 0 b) && (match toInts ds with | some ns => asc1 ns | none => false)
  | _, _ => false
def small : PyData → Bool
  | .tuple ds => decide (ds.length ≤ 30000)
  | _ => true
def gAsc (d hi : PyData) : Option PyData := match hi with
  | .int b => if small d = true then some (.bool (ascD d b)) else none
  | _ => none
theorem gAsc_some {d hi r : PyData} (h : gAsc d hi = some r) : ∃ b, hi = .int b ∧ small d = true ∧ r = .bool (ascD d b) := by
  cases hi with
  | int b =>
    have h : (if small d = true then some (PyData.bool (ascD d b)) else none) = some r := h
    by_cases hs : small d = true
    · rw [if_pos hs] at h
      exact ⟨b, rfl, hs, (Option.some.inj h).symm⟩
    · rw [if_neg hs] at h
      cases h
  | _ => cases h
theorem toInts_of : ∀ {ds : List PyData} {b : Int}, (ds.all fun d => betw d 0 b) = true → ∃ ns, toInts ds = some ns ∧ ds = ns.map PyData.int
  | [], _, _ => ⟨[], rfl, rfl⟩
  | d :: ds, b, h => by
    rw [List.all_cons, Bool.and_eq_true] at h
    obtain ⟨ns, h1, h2⟩ := toInts_of h.2
    cases d with
    | int i => exact ⟨i :: ns, by show (toInts ds).map (i :: ·) = _; rw [h1]; rfl, by rw [List.map_cons, ← h2]⟩
    | _ => cases h.1
theorem asc_range : ∀ ns : List Int, ((List.range (ns.length - 1)).map fun k => decide (ns.getD k 0 < ns.getD (k + 1) 0)).all id = asc1 ns
  | [] => rfl
  | [_] => rfl
  | x :: y :: r => by
    have ih := asc_range (y :: r)
    have e1 : (x :: y :: r).length - 1 = (y :: r).length - 1 + 1 := by simp
    rw [e1, List.range_succ_eq_map, List.map_cons, List.all_cons, List.map_map]
    show (decide (x < y) && _) = (decide (x < y) && asc1 (y :: r))
    rw [← ih]
    congr 1
theorem ok_asc {f fB : Addr} {fd fdB : FuncData} (F : Fun K "is_ascending" "is_ascending" sAsc f fd) (FB : Fun K "is_between" "is_between" sBetw fB fdB) (bB : Binds K fdB ["value", "low", "high"] []) (gB : mg "is_between" = some (.ref fB))
    (m1 : mg "isinstance" = none) (m2 : mg "tuple" = none) (m3 : mg "all" = none) (m4 : mg "range" = none) (m5 : mg "len" = none)
    (G : FnOk P w K mg base CX0 2 fB fdB ["value", "low", "high"] (spD K (f3 gBetw))) :
    FnOk P w K mg base CX0 3 f fd ["value", "high"] (spD K (f2 gAsc)) := by
  refine F.ok scAsc (fun vs H Q E h => spD_len f2_len h) (fun cdv A outer s H vs Q E hr h => ?_)
  obtain ⟨v, x, d, hi, r, rfl, hv, hx, hf, q⟩ := sp2 h
  obtain ⟨b, rfl, hs, rfl⟩ := gAsc_some hf
  refine ⟨_, pss_cons (ps_if (pt_not (pt_val (pe_callB call_isi (by rfl) m1 (by decide +kernel) (pa_cons (pv 0) (pa_cons (pe_bltn (by rfl) m2 (by decide +kernel) (v := .ty "tuple") rfl) pa_nil))))) (pss_one (ps_ret pe_bl)) pss_nil)
    (pss_cons (ps_if (pt_not (pt_val (pe_callB (cr_all rfl) (by rfl) m3 (by decide +kernel) (pa_cons (pe_lc (own := [("item", 2)]) (g := gName 2) (tt := tYes) rfl scAsc.nd (pi_tup (pv 0)) (blkOk_by (N := ["value", "high", "item", "at"]) (sc := defScope sAsc) (by decide +kernel))
        (fun _ _ _ _ _ => pg_name (i := 2) scAsc.nd rfl (Or.inl rfl)) (fun _ _ _ _ _ => pts_nil)
        (fun _ _ _ _ _ => pe_call G hr (by rfl) gB FB.kp bB .nil pass0 (pa_cons (pv 2) (pa_cons pe_int (pa_cons (pv 1) pa_nil))))) pa_nil)))) (pss_one (ps_ret pe_bl)) pss_nil)
    (pss_one (ps_ret (pe_callB (cr_all rfl) (by rfl) m3 (by decide +kernel) (pa_cons (pe_lc (own := [("at", 3)]) (g := gName 3) (tt := tYes) rfl scAsc.nd (pi_range1 (by rfl) m4 (pa_cons (pe_op op_sub (pe_callB call_len_seq (by rfl) m5 PySem.boot_len (pa_cons (pv 0) pa_nil)) pe_int) pa_nil)) (blkOk_by (N := ["value", "high", "item", "at"]) (sc := defScope sAsc) (by decide +kernel))
        (fun _ _ _ _ _ => pg_name (i := 3) scAsc.nd rfl (Or.inl rfl)) (fun _ _ _ _ _ => pts_nil)
        (fun _ _ _ _ _ => pe_cmpR op_lt (pe_ix (r := rIxT K) ix_tup (pv 0) (pv 3) (fun _ _ => rfl)) (pe_ix (r := rIxT K) ix_tup (pv 0) (pe_op op_add (pv 3) pe_int) (fun _ _ => rfl)) (nomark _))) pa_nil))))), ?_⟩
  refine q_when (b := !isTup d) (et_not (et_B (ev_isi (ed_var rfl hv) (kit_tup d)))) (fun hb H1 e => s_ret (v := .bl false) ev_c fun H2 e2 => ?_) fun hb H1 e1 => ?_
  · have hz : ascD d b = false := by cases d <;> first | rfl | cases hb
    rw [hz] at q
    exact q _ _ (e.trans e2) (.bl _)
  match d, hs, hb, hv, q with
  | .tuple ds, hs, hb, hv, q =>
    have hlen : ds.length ≤ 30000 := of_decide_eq_true hs
    have v1 : Dp K H1 v (.tuple ds) := dp_ex e1 _ hv
    have x1 : Dp K H1 x (.int b) := dp_ex e1 _ hx
    have c1 : Ev (tCB (rAll K) (tCons (tLc (iTup K (tVar 0)) (gName 2) tYes (tCall (spD K (f3 gBetw)) [] E0 (tCons (tVar 2) (tCons (tC (.int 0)) (tCons (tVar 1) tNil)))) [2]) tNil)) (start ["value", "high", "item", "at"] [v, x]) H1 (.bl (ds.all fun d => betw d 0 b)) := by
      refine ev_is (ed_all (K := K) (bs := ds.map fun d => betw d 0 b) (ed_is (ed_n (en_lc (ds := ds) (fun d => some (.bool (betw d 0 b))) (src_T (ed_var rfl v1)) (by omega) (fun _ => rfl) (fun d v H2 e2 hd hv => ?_) (fun d r w H2 e2 hd hw hr => ?_) (fun d r _ hr => ?_))) ?_)) ?_
      · exact fun H1 _ _ q => q H1 (Ex.refl H1)
      · cases hr
        exact ed_call (eda_cons (ed_var rfl hw) (eda_cons (ed_i ev_c) (eda_cons (ed_var rfl (dp_ex e2 _ x1)) eda_nil))) rfl
      · cases hr
        rfl
      · refine congrArg PyData.list ?_
        rw [fm_map (g := fun d => PyData.bool (betw d 0 b)) (fun _ _ => rfl), List.map_map]
        rfl
      · rw [List.all_map]
        rfl
    refine q_when (b := !(ds.all fun d => betw d 0 b)) (et_not (et_B c1)) (fun hb H2 e2 => s_ret (v := .bl false) ev_c fun H3 e3 => ?_) fun hb H2 e2 => ?_
    · have hz : ascD (.tuple ds) b = false := by
        show ((ds.all fun d => betw d 0 b) && _) = false
        have h0 : (ds.all fun d => betw d 0 b) = false := by simpa using hb
        rw [h0, Bool.false_and]
      rw [hz] at q
      exact q _ _ ((e1.trans e2).trans e3) (.bl _)
    · have hb : (ds.all fun d => betw d 0 b) = true := by simpa using hb
      obtain ⟨ns, hn, rfl⟩ := toInts_of hb
      have hz : ascD (.tuple (ns.map PyData.int)) b = asc1 ns := by
        show ((_ : Bool) && (match toInts (ns.map PyData.int) with | some ns => asc1 ns | none => false)) = _
        rw [hb, hn, Bool.true_and]
      have hl2 : ns.length ≤ 30000 := by simpa using hlen
      have v2 : Dp K H2 v (.tuple (ns.map PyData.int)) := dp_ex e2 _ v1
      have at_ : ∀ k : Nat, k < ns.length → (ns.map PyData.int)[k]? = some (.int (ns.getD k 0)) := fun k hk => by
        rw [List.getElem?_map, List.getElem?_eq_getElem hk, List.getD_eq_getElem?_getD, List.getElem?_eq_getElem hk]
        rfl
      refine s_ret (v := .bl (asc1 ns)) ?_ fun H3 e3 => ?_
      · refine ev_is (ed_all (K := K) (bs := (List.range (ns.length - 1)).map fun k => decide (ns.getD k 0 < ns.getD (k + 1) 0)) (ed_is (ed_n (en_lc (ds := rngD 0 (ns.length - 1)) (fun d => match d with | .int k => some (.bool (decide (ns.getD k.toNat 0 < ns.getD (k.toNat + 1) 0))) | _ => none)
            (SrcS.src (by
              have hR := srcS_R1 (K := K) (σ := start ["value", "high", "item", "at"] [v, x]) (H := H2) (n := (ns.length : Int) - 1) (ta := tCons (tOp (rI0 fun i j => .int (i - j)) (tCB (fun xs H Q => ∃ p ys, xs = [.ref p] ∧ (SqL K H p ys ∨ SqT K H p ys) ∧ Q (.int ys.length) H) (tCons (tVar 0) tNil)) (tC (.int 1))) tNil)
                (ea_cons (ev_op (x := .int (ns.length : Int)) (y := .int 1) (ev_is (ed_lenT (K := K) (ed_var rfl v2)) (by rw [List.length_map])) ev_c rv_I0) ea_nil) (by omega)
              rw [show ((ns.length : Int) - 1).toNat = ns.length - 1 by omega] at hR
              exact hR)) (by rw [rngD_len]; omega) (fun _ => rfl) (fun d w H3 e3 hd hw => ?_) (fun d r w H3 e3 hd hw hr => ?_) (fun d r hd hr => ?_))) ?_)) ?_
        · obtain ⟨k, hk, rfl⟩ := List.mem_map.mp hd
          exact fun H1 _ _ q => q H1 (Ex.refl H1)
        · obtain ⟨k, hk, rfl⟩ := List.mem_map.mp hd
          have hk := List.mem_range.mp hk
          rw [show (0 : Int) + (k : Int) = (k : Int) by omega] at hr hw
          cases hr
          have v3 := dp_ex e3 _ v2
          refine ed_b (ev_op (x := .int (ns.getD k 0)) (y := .int (ns.getD (k + 1) 0)) (ev_i (ed_ixT (n := k) (ed_var rfl v3) (ed_var rfl hw) rfl (at_ k (by omega)))) (ev_i (ed_ixT (n := k + 1) (ed_var rfl v3) (ed_i (ev_op (x := .int (k : Int)) (y := .int 1) (ev_i (ed_var rfl hw)) ev_c rv_I0)) (by omega) (at_ (k + 1) (by omega)))) rv_I0)
        · obtain ⟨k, hk, rfl⟩ := List.mem_map.mp hd
          cases hr
          rfl
        · refine congrArg PyData.list ?_
          rw [List.map_map]
          unfold rngD
          rw [List.filterMap_map]
          refine fm_map fun k hk => ?_
          show some _ = some _
          simp
        · rw [asc_range]
      · rw [hz] at q
        exact q _ _ ((e1.trans e2).trans e3) (.bl _)
end
end WR
set_option Elab.async false
set_option linter.all false
set_option maxRecDepth 100000
set_option maxHeartbeats 1000000
namespace WR
open PySem PySem.Spec PyProof.Rows L2 Evl
theorem walk_sE {K : PySem.W.Frag} {H0 : Hp} {a : Addr} {xs : List V} {ds : List PyData} (hd : DpAll K H0 xs ds) :
    Walk (IteT K a) ds.length (fun H => SqT K H a xs) (fun i H v H' => ∃ T x d, v = .ref T ∧ H T = none ∧ H' = upd H T (.tup [.int (i : Nat), x]) ∧ ds[i]? = some d ∧ Dp K H0 x d) := by
  have hn := dpAll_len hd
  refine ⟨fun i H hi q => ⟨xs, xs[i]'(by omega), q, by simp⟩, fun H q => ⟨xs, q, hn⟩, fun i H v H' hi q y => ?_⟩
  obtain ⟨T, x, h1, h2, h3, h4⟩ := y
  obtain ⟨d, h5, h6⟩ := dpAll_at hd (h4 xs q)
  exact ⟨T, x, d, h1, h2, h3, h5, h6⟩
theorem q_enum {K : PySem.W.Frag} {σ : L2.St} {H H0 : Hp} {D : Ends} {tu tz : TS} {tl : TE} {a b : Nat} {x : V} {ds : List PyData} (e0 : Ex H0 H) (h : Ev tl σ H x) (hx : Dp K H0 x (.tuple ds)) (Pv : Nat → L2.St → Hp → Prop)
    (h0 : ∀ H1, Ex H H1 → Pv 0 σ H1) (hG : ∀ i σ' H', Pv i σ' H' → Ex H0 H')
    (hs : ∀ i d x σ' H' H2, ds[i]? = some d → Dp K H0 x d → Pv i σ' H' → Ex H' H2 → tu { D with nx := Pv (i + 1), ct := Pv (i + 1), bk := tz D } ((σ'.set a (some (.int (i : Nat)))).set b (some x)) H2)
    (hd : ∀ σ' H', Pv ds.length σ' H' → tz D σ' H') :
    tSeq (tFor (iEnumT K (tCons tl tNil)) (gTup K 2 (gCons (gName a) (gCons (gName b) gNil))) tu) tz D σ H := by
  refine h H (Ex.refl H) _ fun H1 e1 => ?_
  obtain ⟨c, xs, rfl, hq, hall⟩ := dp_tup hx
  refine ⟨c, xs, rfl, ex_t (e0.trans e1) hq, ?_⟩
  refine for_it (walk_sE hall) (D := { D with nx := tz D }) Pv (h0 H1 e1) (fun i σ' H' _ p => ex_t (hG i σ' H' p) hq) (fun i y σ' Hc H' hi p hy => ?_) hd
  obtain ⟨T, z, d, rfl, hT, rfl, hi', hz⟩ := hy
  exact ⟨T, _, rfl, st_of upd_same, rfl, _, _, rfl, _, _, rfl, rfl, hs i d z σ' Hc _ hi' hz p (Ex.new hT)⟩

/-! ### the first fault of any value -/
def natI : PyData → Nat
  | .int i => i.toNat
  | _ => 0
def natsOf : PyData → List Nat
  | .tuple ds => ds.map natI
  | _ => []
def noItem : PyData → Bool
  | .tuple [] => true
  | _ => false
def itemBad (l : Nat) (ds : List PyData) (j : Nat) : Bool := let d := ds.getD j .none; !ascD d ((l : Int) + (j : Int) - 1) || noItem d
def errN (x : Str) : PyData := .tuple [.none, .str x]
def isPair : PyData → Bool
  | .tuple [_, _] => true
  | _ => false
def webErr2 (a b : PyData) : PyData :=
  if betw a 1 8 = true then
    match b with
    | .tuple ds => if ds.length ≤ 20 then
        (match (List.range ds.length).find? (itemBad (natI a) ds) with
        | some j => .tuple [natD (natI a + j), .str "children"]
        | none => linkErr (natI a) (ds.map natsOf))
      else errN "inner"
    | _ => errN "inner"
  else errN "leaves"
def webErr : PyData → PyData
  | .tuple [a, b] => webErr2 a b
  | _ => errN "web"
def smallIn : PyData → Bool
  | .tuple [_, .tuple ds] => ds.all small
  | _ => true

theorem asc1_lt : ∀ (x : Int) (ns : List Int), asc1 (x :: ns) = true → ∀ y ∈ ns, x < y
  | _, [], _ => fun _ h => by cases h
  | x, z :: ns, h => fun y hy => by
    have h' : (decide (x < z) && asc1 (z :: ns)) = true := h
    rw [Bool.and_eq_true, decide_eq_true_eq] at h'
    rcases List.mem_cons.mp hy with rfl | hy
    · exact h'.1
    · have := asc1_lt z ns h'.2 y hy
      omega
theorem asc1_len : ∀ (x : Int) (r : List Int) (b : Int), asc1 (x :: r) = true → (∀ y ∈ x :: r, 0 ≤ y ∧ y ≤ b) → ((x :: r).length : Int) ≤ b + 1 - x
  | x, [], b, _, h => by
    have := h x (List.mem_singleton.mpr rfl)
    show ((1 : Nat) : Int) ≤ _
    omega
  | x, y :: r, b, h, hb => by
    have h' : (decide (x < y) && asc1 (y :: r)) = true := h
    rw [Bool.and_eq_true, decide_eq_true_eq] at h'
    have ih := asc1_len y r b h'.2 (fun z hz => hb z (List.mem_cons_of_mem _ hz))
    simp only [List.length_cons] at ih ⊢
    omega
theorem asc_nats {d : PyData} {b : Int} (h : ascD d b = true) : d = kidsD (natsOf d) ∧ (∀ k ∈ natsOf d, (k : Int) ≤ b) ∧ (0 ≤ b + 1 → ((natsOf d).length : Int) ≤ b + 1) := by
  cases d with
  | tuple ds =>
    have h' : ((ds.all fun d => betw d 0 b) && (match toInts ds with | some ns => asc1 ns | none => false)) = true := h
    rw [Bool.and_eq_true] at h'
    obtain ⟨ns, hn, rfl⟩ := toInts_of h'.1
    rw [hn] at h'
    have hb : ∀ y ∈ ns, 0 ≤ y ∧ y ≤ b := fun y hy => by
      have q := List.all_eq_true.mp h'.1 (.int y) (List.mem_map.mpr ⟨y, hy, rfl⟩)
      have q : (decide (0 ≤ y) && decide (y ≤ b)) = true := q
      rw [Bool.and_eq_true, decide_eq_true_eq, decide_eq_true_eq] at q
      exact q
    refine ⟨?_, fun k hk => ?_, fun h0 => ?_⟩
    · show PyData.tuple _ = PyData.tuple _
      refine congrArg PyData.tuple ?_
      show ns.map PyData.int = ((ns.map PyData.int).map natI).map natD
      rw [List.map_map, List.map_map]
      refine List.map_congr_left fun y hy => ?_
      show PyData.int y = PyData.int ((y.toNat : Nat) : Int)
      rw [Int.toNat_of_nonneg (hb y hy).1]
    · obtain ⟨z, hz, rfl⟩ := List.mem_map.mp hk
      obtain ⟨y, hy, rfl⟩ := List.mem_map.mp hz
      have q := hb y hy
      show ((y.toNat : Nat) : Int) ≤ b
      omega
    · show (((ns.map PyData.int).map natI).length : Int) ≤ b + 1
      rw [List.length_map, List.length_map]
      cases ns with
      | nil =>
        simp
        omega
      | cons x r =>
        have q := asc1_len x r b h'.2 hb
        have q2 := hb x (List.mem_cons_self ..)
        omega
  | _ => cases h
theorem raw_of {l : Nat} {ds : List PyData} (h1 : 1 ≤ l) (h8 : l ≤ 8) (h20 : ds.length ≤ 20) (h : ∀ j, j < ds.length → itemBad l ds j = false) : Raw l (ds.map natsOf) ∧ ds = (ds.map natsOf).map kidsD := by
  have key : ∀ (j : Nat) (d : PyData), ds[j]? = some d → ascD d ((l : Int) + (j : Int) - 1) = true := fun j d hd => by
    have hj := (List.getElem?_eq_some_iff.mp hd).1
    have q := h j hj
    unfold itemBad at q
    rw [List.getD_eq_getElem?_getD, hd] at q
    have q : (!ascD d ((l : Int) + (j : Int) - 1) || noItem d) = false := q
    rw [Bool.or_eq_false_iff] at q
    simpa using q.1
  refine ⟨⟨h1, h8, by rw [List.length_map]; exact h20, fun j ks hj k hk => ?_, fun ks hks => ?_⟩, ?_⟩
  · rw [List.getElem?_map] at hj
    obtain ⟨d, hd, rfl⟩ := Option.map_eq_some_iff.mp hj
    have q := (asc_nats (key j d hd)).2.1 k hk
    omega
  · obtain ⟨d, hd, rfl⟩ := List.mem_map.mp hks
    obtain ⟨j, hj, hjd⟩ := List.mem_iff_getElem.mp hd
    have q := (asc_nats (key j d (by rw [List.getElem?_eq_getElem hj, hjd]))).2.2 (by omega)
    omega
  · rw [List.map_map]
    refine List.ext_getElem? fun j => ?_
    rw [List.getElem?_map]
    cases e : ds[j]? with
    | none => rfl
    | some d => exact congrArg some (asc_nats (key j d e)).1

abbrev nErr : List Str := ["value", "leaves", "inner", "at", "item", "kind"]
theorem scErr : FnScope nErr ["value"] (defScope sErr) := ⟨rfl, rfl, rfl, by decide +kernel, rfl, by decide +kernel, by decide +kernel⟩
def gErr (d : PyData) : Option PyData := if smallIn d = true then some (webErr d) else none
section
variable {P : Program} {w : World} {K : PySem.W.Frag} {mg : Str → Option Value} {base : Heap}
theorem ok_err {f fB fA fL : Addr} {fd fdB fdA fdL : FuncData} {t8 t20 : Tok} (F : Fun K "web_error" "web_error" sErr f fd)
    (FB : Fun K "is_between" "is_between" sBetw fB fdB) (bB : Binds K fdB ["value", "low", "high"] []) (gB : mg "is_between" = some (.ref fB))
    (FA : Fun K "is_ascending" "is_ascending" sAsc fA fdA) (bA : Binds K fdA ["value", "high"] []) (gA : mg "is_ascending" = some (.ref fA))
    (FL : Fun K "link_error" "link_error" sLink fL fdL) (bL : Binds K fdL ["web"] []) (gL : mg "link_error" = some (.ref fL))
    (m1 : mg "isinstance" = none) (m2 : mg "tuple" = none) (m5 : mg "len" = none) (m7 : mg "enumerate" = none)
    (k8 : mg "MAX_LEAVES" = some (.int 8 t8)) (k20 : mg "MAX_INNER" = some (.int 20 t20))
    (G : FnOk P w K mg base CX0 2 fB fdB ["value", "low", "high"] (spD K (f3 gBetw)))
    (GA : FnOk P w K mg base CX0 3 fA fdA ["value", "high"] (spD K (f2 gAsc)))
    (GL : FnOk P w K mg base CX0 3 fL fdL ["web"] (spW K linkErr)) :
    FnOk P w K mg base CX0 4 f fd ["value"] (spD K (f1 gErr)) := by
  refine F.ok scErr (fun vs H Q E h => spD_len f1_len h) (fun cdv A outer s H vs Q E hr h => ?_)
  obtain ⟨v, d, r, rfl, hv, hf, q⟩ := sp1 h
  have hsm : smallIn d = true ∧ r = webErr d := by
    have hf : (if smallIn d = true then some (webErr d) else none) = some r := hf
    by_cases hs : smallIn d = true
    · rw [if_pos hs] at hf
      exact ⟨hs, (Option.some.inj hf).symm⟩
    · rw [if_neg hs] at hf
      cases hf
  obtain ⟨hsm, rfl⟩ := hsm
  refine ⟨_, pss_cons (ps_if (pw_or (pt_not (pt_val (pe_callB call_isi (by rfl) m1 (by decide +kernel) (pa_cons (pv 0) (pa_cons (pe_bltn (by rfl) m2 (by decide +kernel) (v := .ty "tuple") rfl) pa_nil)))))
        (pw_or1 (pt_cmpR op_ne (pe_callB call_len_seq (by rfl) m5 PySem.boot_len (pa_cons (pv 0) pa_nil)) pe_int (nomark _)))).pt (pss_one (ps_ret (pe_tup (pa_cons pe_non (pa_cons pe_str pa_nil))))) pss_nil)
    (pss_cons (ps_asg (pv 0) (pg_tup rfl (pgs_cons (pg_name (i := 1) scErr.nd rfl (.inl rfl)) (pgs_cons (pg_name (i := 2) scErr.nd rfl (.inl rfl)) pgs_nil))))
    (pss_cons (ps_if (pt_not (pt_val (pe_call G (hr.mono (by decide)) (by rfl) gB FB.kp bB .nil pass0 (pa_cons (pv 1) (pa_cons pe_int (pa_cons (pe_glob (v := .int 8) (by rfl) k8 ⟨_, rfl⟩) pa_nil)))))) (pss_one (ps_ret (pe_tup (pa_cons pe_non (pa_cons pe_str pa_nil))))) pss_nil)
    (pss_cons (ps_if (pw_or (pt_not (pt_val (pe_callB call_isi (by rfl) m1 (by decide +kernel) (pa_cons (pv 2) (pa_cons (pe_bltn (by rfl) m2 (by decide +kernel) (v := .ty "tuple") rfl) pa_nil)))))
        (pw_or1 (pt_cmpR op_gt (pe_callB call_len_seq (by rfl) m5 PySem.boot_len (pa_cons (pv 2) pa_nil)) (pe_glob (v := .int 20) (by rfl) k20 ⟨_, rfl⟩) (nomark _)))).pt (pss_one (ps_ret (pe_tup (pa_cons pe_non (pa_cons pe_str pa_nil))))) pss_nil)
    (pss_cons (ps_for PassesOwn.never rfl (pi_enumT (by rfl) m7 (pa_cons (pv 2) pa_nil)) (pg_tup rfl (pgs_cons (pg_name (i := 3) scErr.nd rfl (.inl rfl)) (pgs_cons (pg_name (i := 4) scErr.nd rfl (.inl rfl)) pgs_nil)))
      (pss_cons (ps_set (i := 5) scErr.nd rfl (.inl rfl) (pe_op op_add (pv 1) (pv 3)))
      (pss_one (ps_if (pw_or (pt_not (pt_val (pe_call GA hr (by rfl) gA FA.kp bA .nil pass0 (pa_cons (pv 4) (pa_cons (pe_op op_sub (pv 5) pe_int) pa_nil)))))
          (pw_or1 (pt_cmpR op_eq (pe_callB call_len_seq (by rfl) m5 PySem.boot_len (pa_cons (pv 4) pa_nil)) pe_int (nomark _)))).pt
        (pss_one (ps_ret (pe_tup (pa_cons (pv 5) (pa_cons pe_str pa_nil))))) pss_nil))))
    (pss_one (ps_ret (pe_call GL hr (by rfl) gL FL.kp bL .nil pass0 (pa_cons (pv 0) pa_nil)))))))), ?_⟩
  have hret : ∀ (x : Str) (H' : Hp) (D' : Ends) (σ' : L2.St), Ex H H' → D'.rt = Q → webErr d = errN x → tRet (tTup (tCons (tC .non) (tCons (tC (.str x)) tNil))) D' σ' H' := fun x H' D' σ' e hD hl =>
    s_retD (K := K) (ed_tup (eda_cons (d := .none) (ed_ev ev_c .non) (eda_cons (ed_ev ev_c (.str x)) eda_nil)) (by simp)) fun r H3 e3 hr => by
      rw [hD]
      exact q r H3 (e.trans e3) (by rw [hl]; exact hr)
  by_cases hnt : isTup d = true
  case neg =>
    have hnt : isTup d = false := by simpa using hnt
    refine q_when (b := true) (et_is (et_or (b := true) (et_not (et_B (ev_isi (ed_var rfl hv) (kit_tup d)))) (fun z => absurd z (by rw [hnt]; decide))) (by rw [hnt]; rfl)) (fun _ H1 e1 => hret "web" H1 _ _ e1 rfl (by cases d <;> first | rfl | cases hnt)) (fun z => by cases z)
  obtain ⟨ds, rfl⟩ : ∃ ds, d = .tuple ds := by cases d <;> first | exact ⟨_, rfl⟩ | cases hnt
  have hlen : Ev (tOp rNe (tCB (fun xs H Q => ∃ p ys, xs = [.ref p] ∧ (SqL K H p ys ∨ SqT K H p ys) ∧ Q (.int ys.length) H) (tCons (tVar 0) tNil)) (tC (.int 2))) (start nErr [v]) H (.bl (!decide ((ds.length : Int) = 2))) :=
    ev_is (ev_op (ed_lenT (ed_var rfl hv)) ev_c (rv_ne rfl)) (by rw [dec_int]; rfl)
  refine q_when (b := !decide ((ds.length : Int) = 2)) (et_is (et_or (et_not (et_B (ev_isi (ed_var rfl hv) (kit_tup _)))) (fun _ => et_test hlen)) rfl) (fun hb H1 e1 => hret "web" H1 _ _ e1 rfl ?_) fun hb H1 e1 => ?_
  · match ds, hb with
    | [], _ => rfl
    | [_], _ => rfl
    | _ :: _ :: _ :: _, _ => rfl
  obtain ⟨a, b, rfl⟩ : ∃ a b, ds = [a, b] := by
    match ds, hb with
    | [a, b], _ => exact ⟨a, b, rfl⟩
    | [], hb => cases hb
    | [_], hb => cases hb
    | x :: y :: z :: r, hb =>
      exfalso
      simp at hb
      omega
  refine q_unp2 (ed_var rfl (dp_ex e1 _ hv)) fun x y H2 e2 hx hy => ?_
  have e12 := e1.trans e2
  have v2 := dp_ex e12 _ hv
  let S (x3 x4 x5 : Option V) : L2.St := [some v, some x, some y, x3, x4, x5]
  show tSeq _ _ _ (S none none none) H2
  refine q_when (b := !betw a 1 8) (et_not (et_B (ev_b (K := K) (ed_call (eda_cons (ed_var rfl hx) (eda_cons (ed_i ev_c) (eda_cons (ed_i ev_c) eda_nil))) rfl)))) (fun hb H3 e3 => hret "leaves" H3 _ _ (e12.trans e3) rfl ?_) fun hb H3 e3 => ?_
  · have hb : betw a 1 8 = false := by simpa using hb
    show webErr2 a b = _
    unfold webErr2
    rw [hb]
    rfl
  have hb1 : betw a 1 8 = true := by simpa using hb
  obtain ⟨l, rfl, hl1, hl8⟩ : ∃ l : Nat, a = natD l ∧ 1 ≤ l ∧ l ≤ 8 := by
    cases a with
    | int i =>
      have hb1 : (decide (1 ≤ i) && decide (i ≤ 8)) = true := hb1
      rw [Bool.and_eq_true, decide_eq_true_eq, decide_eq_true_eq] at hb1
      exact ⟨i.toNat, by unfold natD; rw [Int.toNat_of_nonneg (by omega)], by omega, by omega⟩
    | _ => cases hb1
  cases dp_int hx
  have e13 := e12.trans e3
  have w2 : ∀ z, webErr2 (natD l) b = z → webErr (.tuple [natD l, b]) = z := fun z h => h
  by_cases hti : isTup b = true
  case neg =>
    have hti : isTup b = false := by simpa using hti
    refine q_when (b := true) (et_is (et_or (b := true) (et_not (et_B (ev_isi (ed_var rfl (dp_ex e3 _ hy)) (kit_tup b)))) (fun z => absurd z (by rw [hti]; decide))) (by rw [hti]; rfl)) (fun _ H4 e4 => hret "inner" H4 _ _ (e13.trans e4) rfl (w2 _ ?_)) (fun z => by cases z)
    unfold webErr2
    rw [hb1]
    cases b <;> first | rfl | cases hti
  obtain ⟨ds, rfl⟩ : ∃ ds, b = .tuple ds := by cases b <;> first | exact ⟨_, rfl⟩ | cases hti
  refine q_when (b := decide (20 < (ds.length : Int))) (et_is (et_or (et_not (et_B (ev_isi (ed_var rfl (dp_ex e3 _ hy)) (kit_tup _)))) (fun _ => et_test (ev_op (ed_lenT (ed_var rfl (dp_ex e3 _ hy))) ev_c rv_I0))) rfl) (fun hb H4 e4 => hret "inner" H4 _ _ (e13.trans e4) rfl (w2 _ ?_)) fun hb H4 e4 => ?_
  · have hb := of_decide_eq_true hb
    unfold webErr2
    rw [hb1]
    show (if ds.length ≤ 20 then _ else errN "inner") = _
    rw [if_neg (by omega)]
  have h20 : ds.length ≤ 20 := by
    have hb := of_decide_eq_false hb
    omega
  have wE : webErr (.tuple [natD l, .tuple ds]) = (match (List.range ds.length).find? (itemBad l ds) with
        | some j => .tuple [natD (l + j), .str "children"]
        | none => linkErr l (ds.map natsOf)) := by
    refine w2 _ ?_
    unfold webErr2
    rw [hb1]
    show (if ds.length ≤ 20 then _ else errN "inner") = _
    rw [if_pos h20]
    rfl
  have e34 := e3.trans e4
  refine q_enum (H0 := H2) e34 (ev_var rfl) hy (fun i σ' H' => Ex H2 H' ∧ (∀ j, j < i → itemBad l ds j = false) ∧ ∃ x3 x4 x5, σ' = S x3 x4 x5) (fun H5 e5 => ⟨e34.trans e5, fun j hj => by omega, _, _, _, rfl⟩) (fun i σ' H' p => p.1) (fun i d z σ' H' H5 hi hz p e5 => ?_) fun σ' H' p => ?_
  · obtain ⟨e4', hbad, x3, x4, x5, rfl⟩ := p
    have e5 := e4'.trans e5
    show tSeq _ _ _ (S (some (.int (i : Int))) (some z) x5) H5
    refine q_asg (v := .int ((l + i : Nat) : Int)) (ev_is (ev_op (ev_var rfl) (ev_var rfl) rv_I0) (by show V.int _ = V.int _; congr 1)) fun H6 e6 => ?_
    have e6 := e5.trans e6
    show tIfS _ _ _ _ (S (some (.int (i : Int))) (some z) (some (.int ((l + i : Nat) : Int)))) H6
    have hsd : small d = true := by
      have q1 : ds.all small = true := hsm
      exact List.all_eq_true.mp q1 d (List.mem_of_getElem? hi)
    have hz6 := dp_ex e6 _ hz
    have hib : itemBad l ds i = (!ascD d ((l : Int) + (i : Int) - 1) || noItem d) := by
      unfold itemBad
      rw [List.getD_eq_getElem?_getD, hi]
      rfl
    refine s_if (b := itemBad l ds i) ?_ (fun hb H7 e7 => ?_) fun hb H7 e7 => ?_
    · rw [hib]
      refine et_or (et_not (et_B (ev_b (K := K) (ed_call (eda_cons (ed_var rfl hz6) (eda_cons (d := .int ((l : Int) + (i : Int) - 1)) (ed_i (ev_is (ev_op (ev_var rfl) ev_c rv_I0) (by show V.int _ = V.int _; congr 1))) eda_nil)) (by show gAsc d (.int _) = _; exact if_pos hsd))))) fun ha => ?_
      have ha : ascD d ((l : Int) + (i : Int) - 1) = true := by simpa using ha
      obtain ⟨es, rfl⟩ : ∃ es, d = .tuple es := by cases d <;> first | exact ⟨_, rfl⟩ | cases ha
      refine et_test (ev_is (ev_op (ed_lenT (ed_var rfl hz6)) ev_c (rv_eq rfl)) ?_)
      rw [dec_int]
      cases es with
      | nil => rfl
      | cons x r =>
        show V.bl _ = V.bl false
        congr 1
    · refine s_retD (K := K) (ed_tup (eda_cons (d := natD (l + i)) (ed_var rfl (.int _)) (eda_cons (ed_ev ev_c (.str "children")) eda_nil)) (by simp)) fun r H8 e8 hr => ?_
      have hil := (List.getElem?_eq_some_iff.mp hi).1
      have ef : (List.range ds.length).find? (itemBad l ds) = some i := by
        rw [List.find?_eq_some_iff_getElem]
        refine ⟨hb, i, by rw [List.length_range]; exact hil, List.getElem_range _, fun j hj => ?_⟩
        rw [List.getElem_range, hbad j hj]
        rfl
      refine q r H8 (((e12.trans e6).trans e7).trans e8) ?_
      rw [wE, ef]
      exact hr
    · exact ⟨e6.trans e7, fun j hj => by
        rcases Nat.lt_succ_iff_lt_or_eq.mp hj with z | z
        · exact hbad j z
        · rw [z]
          exact hb, _, _, _, rfl⟩
  · obtain ⟨e5, hbad, x3, x4, x5, rfl⟩ := p
    have ef : (List.range ds.length).find? (itemBad l ds) = none := by
      rw [List.find?_eq_none]
      intro k hk
      rw [hbad k (List.mem_range.mp hk)]
      exact Bool.false_ne_true
    rw [ef] at wE
    obtain ⟨hw, hds⟩ := raw_of hl1 hl8 h20 hbad
    have hvw : Dp K H2 v (webD l (ds.map natsOf)) := by
      unfold webD
      rw [← hds]
      exact v2
    refine s_retD (K := K) (ed_callW (ed_var rfl (dp_ex e5 _ hvw)) hw) fun r H8 e8 hr => q r H8 ((e12.trans e5).trans e8) ?_
    rw [wE]
    exact hr
end
end WR
set_option Elab.async false
set_option linter.all false
set_option maxRecDepth 100000
set_option maxHeartbeats 1000000
namespace WR
open PySem PySem.Spec PyProof.Rows L2 Evl
theorem q_parN {K : PySem.W.Frag} {σ : L2.St} {H : Hp} {te tb : TE} {D : Ends} {tz : TS} {i j : Nat} {ds : List PyData} {y : V} (h : EvN K te σ H ds) (h2 : Ev tb σ H y)
    (k : ∀ p H1, H p = none → Ex H H1 → LD K H1 p ds → tz D ((σ.set i (some (.ref p))).set j (some y)) H1) : tSeq (tPar i j (tCons te (tCons tb tNil))) tz D σ H :=
  h H (Ex.refl H) _ fun p xs H1 hp e1 h1 hd1 => h2 H1 e1 _ fun H2 e2 => ⟨.ref p, y, rfl, k p H2 hp (e1.trans e2) ⟨xs, e2 _ _ h1, dpAll_ex e2 ds hd1⟩⟩
def lastF (k : Nat) : Int := if k = 0 then 1 else (k : Int) + 2
def fanT (k : Nat) : PyData := tupI (sortI [2, lastF k])
def fanI (many : Nat) : List PyData := tupI [0] :: (List.range many).map fanT
def fanD (many : Nat) : PyData := .tuple [.int 2, .tuple (fanI many)]
def gFan : PyData → Option PyData
  | .int l => if 0 ≤ l ∧ l ≤ 100 then some (fanD l.toNat) else none
  | _ => none
theorem fanI_succ (i : Nat) : fanI (i + 1) = fanI i ++ [fanT i] := by
  unfold fanI
  rw [List.range_succ, List.map_append]
  rfl
theorem nl_fanI (i : Nat) : nlAll (fanI i) = true := nlAll_mem fun d hd => by
  rcases List.mem_cons.mp hd with rfl | hd
  · exact nl_tupI _
  · obtain ⟨k, _, rfl⟩ := List.mem_map.mp hd
    exact nl_tupI _
theorem fanI_len (i : Nat) : (fanI i).length = i + 1 := by
  unfold fanI
  rw [List.length_cons, List.length_map, List.length_range]
abbrev nFan : List Str := ["_law_many", "_law_inner", "_law_last", "_law_k"]
theorem scFan : FnScope nFan ["_law_many"] (defScope sFan) := ⟨rfl, rfl, rfl, by decide +kernel, rfl, by decide +kernel, by decide +kernel⟩
section
variable {P : Program} {w : World} {K : PySem.W.Frag} {mg : Str → Option Value} {base : Heap}
theorem ok_fan {f : Addr} {fd : FuncData} (F : Fun K "_law_fan" "_law_fan" sFan f fd) (m1 : mg "range" = none) (m2 : mg "tuple" = none) (m3 : mg "sorted" = none) (m5 : mg "len" = none) :
    FnOk P w K mg base CX0 1 f fd ["_law_many"] (spD K (f1 gFan)) := by
  refine F.ok scFan (fun vs H Q E h => spD_len f1_len h) (fun cdv A outer s H vs Q E hr h => ?_)
  obtain ⟨v, d, r, rfl, hv, hf, q⟩ := sp1 h
  obtain ⟨l, rfl, hl9, rfl⟩ : ∃ l : Nat, d = natD l ∧ l ≤ 100 ∧ r = fanD l := by
    cases d with
    | int i =>
      have hf : (if 0 ≤ i ∧ i ≤ 100 then some (fanD i.toNat) else none) = some r := hf
      by_cases hi : 0 ≤ i ∧ i ≤ 100
      · rw [if_pos hi] at hf
        exact ⟨i.toNat, by unfold natD; rw [Int.toNat_of_nonneg (by omega)], by omega, (Option.some.inj hf).symm⟩
      · rw [if_neg hi] at hf
        cases hf
    | _ => cases hf
  cases dp_int hv
  refine ⟨_, pss_cons (ps_par (i := 1) (j := 2) rfl scFan.nd rfl rfl (by decide) rfl rfl (pa_cons (pe_lst (pa_cons (pe_tup (pa_cons pe_int pa_nil)) pa_nil)) (pa_cons pe_int pa_nil)) rfl)
    (pss_cons (ps_for PassesOwn.never rfl (pi_range1 (by rfl) m1 (pa_cons (pv 0) pa_nil)) (pg_name (i := 3) scFan.nd rfl (.inl rfl))
      (pss_cons (ps_expr (pe_bm PySem.F.plainAttrs_list PySem.F.slot_list_append PySem.F.type_list_append mt_append (pv 1) (pa_cons (pe_callTy call_tuple_of (by rfl) m2 (by decide +kernel) (pa_cons (pe_callB cr_sortedA (by rfl) m3 (by decide +kernel) (pa_cons (pe_lst (pa_cons pe_int (pa_cons (pv 2) pa_nil))) pa_nil)) pa_nil)) pa_nil)))
      (pss_one (ps_set (i := 2) scFan.nd rfl (.inl rfl) (pe_op op_add (pe_callB call_len_seq (by rfl) m5 PySem.boot_len (pa_cons (pv 1) pa_nil)) pe_int)))))
    (pss_one (ps_ret (pe_tup (pa_cons pe_int (pa_cons (pe_callTy call_tuple_of (by rfl) m2 (by decide +kernel) (pa_cons (pv 1) pa_nil)) pa_nil)))))), ?_⟩
  let S (x1 x2 x3 : Option V) : L2.St := [some (.int (l : Int)), x1, x2, x3]
  have h0 : EvN K (tLst (tCons (tTup (tCons (tC (.int 0)) tNil)) tNil)) (S none none none) H [tupI [0]] := ed_lst (eda_cons (ed_tup (eda_cons (ed_i ev_c) eda_nil) (by simp)) eda_nil) (by simp)
  show tSeq _ _ _ (S none none none) H
  refine q_parN (K := K) (y := .int 1) h0 ev_c fun p H1 hp e1 hL => ?_
  have hL : LD K H1 p (fanI 0) := hL
  show tSeq _ _ _ (S (some (.ref p)) (some (.int (lastF 0))) none) H1
  have hR : SrcS K (iRng1 (tCons (tVar 0) tNil)) (S (some (.ref p)) (some (.int (lastF 0))) none) H (rngD 0 l) := by
    have q1 := srcS_R1 (K := K) (σ := S (some (.ref p)) (some (.int (lastF 0))) none) (H := H) (n := (l : Int)) (ta := tCons (tVar 0) tNil) (ea_cons (ev_var rfl) ea_nil) (by omega)
    rw [Int.toNat_natCast] at q1
    exact q1
  refine q_forS (H0 := H) e1 hR (fun i σ' H' => Ex H H' ∧ LD K H' p (fanI i) ∧ ∃ y, σ' = S (some (.ref p)) (some (.int (lastF i))) y) (fun H2 e2 => ⟨e1.trans e2, hL.ex e2, _, rfl⟩) (fun i σ' H' p => p.1) (fun i d x σ' H' hi hx p' => ?_) fun σ' H' p' => ?_
  · obtain ⟨e2, hL2, y, rfl⟩ := p'
    have hin : i < l := by
      have q := (List.getElem?_eq_some_iff.mp hi).1
      rw [rngD_len] at q
      exact q
    show tSeq _ _ _ (S (some (.ref p)) (some (.int (lastF i))) (some x)) H'
    refine q_appD (d := fanT i) hL2 (ev_var rfl) (ed_tupN (en_sortedL (ns := [2, lastF i]) (ed_n (ed_lst (eda_cons (ed_i ev_c) (eda_cons (ed_var rfl (.int _)) eda_nil)) (by simp))) (by simp))) (by rw [fanI_len]; omega) (nl_fanI i) (nl_tupI _) fun H3 k3 hL3 => ?_
    rw [← fanI_succ] at hL3
    have e3 := k3 H e2 hp
    refine s_asg (v := .int (lastF (i + 1))) (ev_is (ev_op (ed_lenL (K := K) (ed_var rfl hL3.dp)) ev_c rv_I0) ?_) fun H4 e4 => ⟨e3.trans e4, hL3.ex e4, _, rfl⟩
    rw [fanI_len]
    show V.int _ = V.int (if i + 1 = 0 then 1 else ((i + 1 : Nat) : Int) + 2)
    rw [if_neg (by omega)]
    congr 1
  · obtain ⟨e2, hL2, y, rfl⟩ := p'
    rw [rngD_len] at hL2
    exact s_retD (K := K) (d := fanD l) (ed_tup (eda_cons (ed_i ev_c) (eda_cons (ed_tupL (ed_var rfl hL2.dp)) eda_nil)) (by simp)) fun r H3 e3 hr => q r H3 (e2.trans e3) hr

end
end WR
set_option Elab.async false
set_option linter.all false
set_option maxRecDepth 100000
set_option maxHeartbeats 1000000
namespace WR
open PySem PySem.Spec PyProof.Rows L2 Evl
/-! ### what stays while a list changes -/
theorem rem_tL {K : PySem.W.Frag} {H : Hp} {a l : Addr} {xs ys : List V} (hl : H l = some (.lst ys)) (h : SqT K H a xs) : SqT K (rem H l) a xs := by
  rcases h with (h | ⟨o, h⟩) | h
  · exact .inl (.inl (by rw [rem_ne (ne_of h hl (by intro z; cases z))]; exact h))
  · exact .inl (.inr ⟨o, by rw [rem_ne (ne_of h hl (by intro z; cases z))]; exact h⟩)
  · exact .inr h
mutual
theorem dp_rem {K : PySem.W.Frag} {H : Hp} {l : Addr} {ys : List V} (hl : H l = some (.lst ys)) : ∀ {v : V} (d : PyData), nl d = true → Dp K H v d → Dp K (rem H l) v d
  | _, .none, _, h => by cases h; exact .non
  | _, .bool _, _, h => by cases h; exact .bl _
  | _, .int _, _, h => by cases h; exact .int _
  | _, .str _, _, h => by cases h; exact .str _
  | _, .list ds, n, h => by cases n
  | _, .tuple ds, n, h => by
    cases h with
    | tup a b => exact .tup (rem_tL hl a) (dpAll_rem hl ds n b)
  | _, .dict _, _, h => by cases h
theorem dpAll_rem {K : PySem.W.Frag} {H : Hp} {l : Addr} {ys : List V} (hl : H l = some (.lst ys)) : ∀ {vs : List V} (ds : List PyData), nlAll ds = true → DpAll K H vs ds → DpAll K (rem H l) vs ds
  | _, [], _, h => by cases h; exact .nil
  | _, d :: ds, n, h => by
    have n' : (nl d && nlAll ds) = true := n
    rw [Bool.and_eq_true] at n'
    cases h with
    | cons a b => exact .cons (dp_rem hl d n'.1 a) (dpAll_rem hl ds n'.2 b)
end
/-- H1 is H grown, the list at l changed -/
def But (l : Addr) (H H1 : Hp) : Prop := ∀ B : Hp, Ex B H → B l = none → Ex B H1
theorem But.dp {K : PySem.W.Frag} {H H1 : Hp} {l : Addr} {ys : List V} {v : V} {d : PyData} (b : But l H H1) (hl : H l = some (.lst ys)) (h : Dp K H v d) (n : nl d = true) : Dp K H1 v d :=
  dp_ex (b _ rem_ex rem_self) d (dp_rem hl d n h)
theorem But.ld {K : PySem.W.Frag} {H H1 : Hp} {l p : Addr} {ys : List V} {ds : List PyData} (b : But l H H1) (hl : H l = some (.lst ys)) (h : LD K H p ds) (hne : p ≠ l) (n : nlAll ds = true) : LD K H1 p ds := by
  obtain ⟨xs, h1, h2⟩ := h
  have e := b _ rem_ex rem_self
  exact ⟨xs, e _ _ (by rw [rem_ne hne]; exact h1), dpAll_ex e _ (dpAll_rem hl _ n h2)⟩

/-! ### repr -/
def okR (d : PyData) : Bool := d.showable && !d.hasDict && decide (d.shown.length ≤ sizeLine) && decide (d.depth ≤ 40)
section
variable {K : PySem.W.Frag} {σ : L2.St} {H H' : Hp} {ta tb te tx : TE} {d e : PyData} {ds es : List PyData}
theorem ev_repr (h : EvD K te σ H d) (ok : okR d = true) : Ev (tCB (rReprA K) (tCons te tNil)) σ H (.str d.shown) := fun H1 e Q q =>
  h H1 e _ fun v H2 e2 hv => by
    unfold okR at ok
    simp only [Bool.and_eq_true, Bool.not_eq_true', decide_eq_true_eq] at ok
    exact ⟨v, d, rfl, hv, ok.1.1.1, ok.1.1.2, ok.1.2, ok.2, q H2 e2⟩
theorem et_reprNe (h1 : EvD K ta σ H d) (h2 : EvD K tb σ H d) (ok : okR d = true) : EvT (tTest (tOp rNe (tCB (rReprA K) (tCons ta tNil)) (tCB (rReprA K) (tCons tb tNil)))) σ H false :=
  et_test (ev_is (ev_op (ev_repr h1 ok) (ev_repr h2 ok) (rv_ne rfl)) (by rw [decide_eq_true (rfl : V.str d.shown = V.str d.shown)]; rfl))
theorem ev_reprEq (h1 : EvD K ta σ H d) (h2 : EvD K tb σ H d) (ok : okR d = true) : Ev (tOp rEq (tCB (rReprA K) (tCons ta tNil)) (tCB (rReprA K) (tCons tb tNil))) σ H (.bl true) :=
  ev_is (ev_op (ev_repr h1 ok) (ev_repr h2 ok) (rv_eq rfl)) (by rw [decide_eq_true (rfl : V.str d.shown = V.str d.shown)])
/-- the last item of a tuple -/
theorem ed_last (h : EvD K ta σ H (.tuple (ds ++ [d]))) : EvD K (tOp (rIxT K) ta (tUn (rU fun i => .int (-i)) (tC (.int 1)))) σ H d := fun H1 e Q q =>
  h H1 e _ fun v H2 e2 hv => by
    obtain ⟨a, xs, rfl, hs, hd⟩ := dp_tup hv
    have hl := dpAll_len hd
    rw [List.length_append] at hl
    have hl : xs.length = ds.length + 1 := hl
    obtain ⟨x, h1, h2⟩ := dpAll_at' (i := ds.length) (d := d) hd (by simp)
    have hx : xs = xs.take ds.length ++ [x] := by
      have q1 := List.take_append_drop ds.length xs
      have q2 : xs.drop ds.length = [x] := by
        rw [List.drop_eq_getElem_cons (by omega)]
        have q3 := (List.getElem?_eq_some_iff.mp h1).2
        rw [q3, List.drop_of_length_le (by omega)]
      rw [q2] at q1
      exact q1.symm
    refine ⟨1, rfl, a, xs, -1, x, rfl, rfl, hs, ?_, q x H2 e2 h2⟩
    rw [hx]
    exact atI_last _ _
/-- a tuple without its last item -/
theorem ed_init (h : EvD K ta σ H (.tuple (ds ++ [d]))) : EvD K (tSl (rSlA K) ta tNoPart (tPart (tUn (rU fun i => .int (-i)) (tC (.int 1))))) σ H (.tuple ds) := fun H1 e Q q =>
  h H1 e _ fun v H2 e2 hv => by
    obtain ⟨a, xs, rfl, hs, hd⟩ := dp_tup hv
    have hl := dpAll_len hd
    rw [List.length_append] at hl
    have hl : xs.length = ds.length + 1 := hl
    have hc : cutV xs none (some (-1)) = xs.take ds.length := by
      unfold cutV
      rw [HT.sIx_none, List.drop_zero]
      show xs.take (((-1 : Int) + (xs.length : Int)).toNat - 0) = _
      rw [show ((-1 : Int) + (xs.length : Int)).toNat - 0 = ds.length by omega]
    refine ⟨1, rfl, _, rfl, a, xs, rfl, hs, fun z => ?_, fun _ p hp => ?_⟩
    · have z2 : ((-1 : Int) + (xs.length : Int)).toNat = xs.length := z.2
      omega
    · refine q _ _ (e2.trans (Ex.new hp)) (.tup (st_of upd_same) ?_)
      rw [hc]
      have q1 := dpAll_take ds.length (dpAll_ex (Ex.new (o := .tup (xs.take ds.length)) hp) _ hd)
      rw [List.take_left] at q1
      exact q1
/-- list + list -/
theorem en_cat {p : Addr} (ha : Ev ta σ H (.ref p)) (hp : LD K H p ds) (hb : EvN K tb σ H es) (hl : ds.length + es.length ≤ 100000) : EvN K (tOp rCat ta tb) σ H (ds ++ es) := fun H1 e Q q =>
  ha H1 e _ fun H2 e2 => hb H2 (e.trans e2) _ fun b ys H3 hb' e3 hb3 hd3 => by
    obtain ⟨xs, h1, h2⟩ := hp.ex ((e.trans e2).trans e3)
    refine ⟨p, b, xs, ys, rfl, rfl, h1, hb3, sz_of (by rw [dpAll_len h2, dpAll_len hd3]; exact hl), fun c hc => ?_⟩
    exact q c _ _ (fresh_back (e2.trans e3) hc) ((e2.trans e3).trans (Ex.new hc)) upd_same (dpAll_app (dpAll_ex (Ex.new hc) _ h2) (dpAll_ex (Ex.new hc) _ hd3))
end
end WR
set_option Elab.async false
set_option linter.all false
set_option maxRecDepth 100000
set_option maxHeartbeats 1000000
namespace WR
open PySem PySem.Spec PyProof.Rows L2 Evl
theorem nlAll_snoc {ds : List PyData} {d : PyData} (h : nlAll ds = true) (hd : nl d = true) : nlAll (ds ++ [d]) = true := by
  induction ds with
  | nil =>
    show (nl d && true) = true
    rw [hd]
    rfl
  | cons x r ih =>
    have h' : (nl x && nlAll r) = true := h
    rw [Bool.and_eq_true] at h'
    show (nl x && nlAll (r ++ [d])) = true
    rw [h'.1, ih h'.2]
    rfl
theorem nlAll_cons {ds : List PyData} {d : PyData} (hd : nl d = true) (h : nlAll ds = true) : nlAll (d :: ds) = true := by
  show (nl d && nlAll ds) = true
  rw [hd, h]
  rfl
theorem nlAll_of {ds : List PyData} (h : nlAll ds = true) : ∀ d ∈ ds, nl d = true := by
  induction ds with
  | nil => exact fun _ h => by cases h
  | cons x r ih =>
    have h' : (nl x && nlAll r) = true := h
    rw [Bool.and_eq_true] at h'
    intro d hd
    rcases List.mem_cons.mp hd with rfl | hd
    · exact h'.1
    · exact ih h'.2 d hd
theorem q_deck {K : PySem.W.Frag} {σ : L2.St} {H : Hp} {te : TE} {D : Ends} {tz : TS} {i : Nat} {a : Addr} {ns : List Int} {E : XK} (h : Ev te σ H (.ref a)) (hS : SqL K H a (ns.map V.int)) (hl : ns.length ≤ 63)
    (k : ∀ p L H1, H p = none → H L = none → Ex H H1 → Dk H1 p L ns 0 → tz D (σ.set i (some (.ref p))) H1) : tSeq (tAsg (tCall (spDeck K) [] E (tCons te tNil)) (gName i)) tz D σ H :=
  h H (Ex.refl H) _ fun H1 e1 => ⟨a, ns, rfl, ex_l e1 hS, hl, fun p L H2 hp hL e2 hD => k p L H2 (fresh_back e1 hp) (fresh_back e1 hL) (e1.trans e2) hD⟩
theorem q_draw {σ : L2.St} {H : Hp} {te tb : TE} {D : Ends} {tz : TS} {i : Nat} {p L : Addr} {ns : List Int} {c m N : Int} {E : XK} (h : Ev te σ H (.ref p)) (hm : Ev tb σ H (.int m)) (hD : Dk H p L ns N) (hN : N ≤ 1000000000) (h1 : 1 ≤ m) (h2 : m ≤ 1000000)
    (k : ∀ r H1, 0 ≤ r → r < m → Ex (rem H p) H1 → Dk H1 p L ns (N + 1) → tz D (σ.set i (some (.int (c + r)))) H1) : tSeq (tAsg (tOp (rI0 fun i j => .int (i + j)) (tC (.int c)) (tCall spDraw [] E (tCons te (tCons tb tNil)))) (gName i)) tz D σ H :=
  h H (Ex.refl H) _ fun H1 e1 => hm H1 e1 _ fun H2 e2 => ⟨p, L, ns, m, N, rfl, hD.ex (e1.trans e2), hN, h1, h2, fun r H3 hr0 hr1 e3 hD3 => ⟨c, r, rfl, rfl, k r H3 hr0 hr1 ((rem_mono (e1.trans e2)).trans e3) hD3⟩⟩
end WR
set_option Elab.async false
set_option linter.all false
set_option maxRecDepth 100000
set_option maxHeartbeats 1000000
namespace WR
open PySem PySem.Spec PyProof.Rows L2 Evl
/-! ### the answers of web_error hold no lists -/
theorem nl_chain : ∀ (l : List (Option Nat × Str)), nl (chain .none l) = true
  | [] => rfl
  | (some _, _) :: _ => rfl
  | (none, _) :: l => nl_chain l
theorem nl_webErr (d : PyData) : nl (webErr d) = true := by
  have h2 : ∀ a b, nl (webErr2 a b) = true := fun a b => by
    unfold webErr2
    split
    · split
      · split
        · split
          · rfl
          · exact nl_chain _
        · rfl
      · rfl
    · rfl
  unfold webErr
  split
  · exact h2 _ _
  · rfl

/-! ### the values by hand, and what is due -/
def dueC (l : Nat) : PyData := if (l : Int) < 9 then .none else errN "leaves"
def dueF (k : Nat) : PyData := if (k : Int) < 20 then .none else errN "inner"
def lastI (l : Nat) : PyData := (combI l).getLast?.getD .none
def wI (l : Nat) (ds : List PyData) : PyData := .tuple [natD l, .tuple ds]
def zI (i : Int) (x : Str) : PyData := .tuple [.int i, .str x]
def valsA (l : Nat) : List PyData := [wI l [], wI l (combI l).dropLast, wI l (combI l ++ [lastI l]), wI l (combI l ++ [tupI [2 * (l : Int) - 2]]), wI l ((combI l).dropLast ++ [tupI (0 :: (match lastI l with | .tuple ds => ds.map intI | _ => []))]),
  wI l ((combI l).dropLast ++ [tupI [(l : Int) - 1]]), wI l (combI l ++ [tupI [(l : Int), 2 * (l : Int) - 2]]), .tuple [.int 2, .tuple [tupI [0], tupI [1, 2], tupI [2, 3]]]]
def valsB : List PyData := [.tuple [.int 2, .tuple [tupI [0], tupI [1], tupI [2, 3], tupI [2, 3], tupI [4, 5]]], .tuple [.int 0, .tuple []], .tuple [.bool true, .tuple []]]
def vals (l : Nat) : List PyData := (valsA l ++ valsB) ++ [wI l (combI l ++ [tupI [2 * (l : Int) - 1]])]
def dueA (l : Nat) : List PyData := [zI 0 "parents", zI ((l : Int) - 1) "parents", zI (2 * (l : Int) - 2) "parents", zI (2 * (l : Int) - 1) "single", zI 0 "leaf", zI (2 * (l : Int) - 3) "parents", zI l "mixing", .none]
def dueB (l : Nat) : List PyData := [zI 4 "bare", errN "leaves", errN "leaves", zI (2 * (l : Int) - 1) "children"]
theorem comb_ok : ∀ (l : Nat), 1 ≤ l → l ≤ 9 → webErr (combD l) = dueC l ∧ okR (dueC l) = true ∧ smallIn (combD l) = true
  | 1, _, _ | 2, _, _ | 3, _, _ | 4, _, _ | 5, _, _ | 6, _, _ | 7, _, _ | 8, _, _ | 9, _, _ => ⟨by kernel_rfl, by decide +kernel, by decide +kernel⟩
  | n + 10, _, h => by omega
theorem fan_ok : ∀ (l : Nat), 17 ≤ l → l ≤ 22 → webErr (fanD l) = dueF l ∧ okR (dueF l) = true ∧ smallIn (fanD l) = true
  | 17, _, _ | 18, _, _ | 19, _, _ | 20, _, _ | 21, _, _ | 22, _, _ => ⟨by kernel_rfl, by decide +kernel, by decide +kernel⟩
  | n + 23, _, h => by omega
theorem vals_ok : ∀ (l : Nat), 3 ≤ l → l ≤ 8 → (vals l).map webErr = dueA l ++ dueB l ∧ okR (.list (dueA l ++ dueB l)) = true ∧ (vals l).all smallIn = true ∧ nlAll (vals l) = true
  | 3, _, _ | 4, _, _ | 5, _, _ | 6, _, _ | 7, _, _ | 8, _, _ => ⟨by kernel_rfl, by decide +kernel, by decide +kernel, by decide +kernel⟩
  | n + 9, _, h => by omega
end WR
set_option Elab.async false
set_option linter.all false
set_option maxRecDepth 100000
set_option maxHeartbeats 1000000
namespace WR
open PySem PySem.Spec PyProof.Rows L2 Evl
/-! ### the law -/
abbrev nLaw : List Str := ["_law_script", "_law_deck_here", "_law_leaves", "_law_due", "_law_many", "_law_inner", "_law_some", "_law_k", "_law_value"]
theorem scLaw : FnScope nLaw ["_law_script"] (defScope sLaw) := ⟨rfl, rfl, rfl, by decide +kernel, rfl, by decide +kernel, by decide +kernel⟩
theorem nl_wI {l : Nat} {ds : List PyData} (h : nlAll ds = true) : nl (wI l ds) = true := by
  show (nl (natD l) && ((nl (.tuple ds)) && true)) = true
  rw [show nl (.tuple ds) = nlAll ds from rfl, h]
  rfl
theorem nl_zI (i : Int) (x : Str) : nl (zI i x) = true := rfl
theorem combI_nl (l : Nat) : nlAll (combI l) = true := nlAll_mem fun d hd => by
  obtain ⟨ns, _, rfl⟩ := List.mem_map.mp hd
  exact nl_tupI _
theorem combI_last {l : Nat} (h : 3 ≤ l) : (combI l).dropLast ++ [lastI l] = combI l ∧ ∃ ms, lastI l = tupI ms ∧ ms.length ≤ 2 ∧ (combI l).length ≤ 100 + l := by
  have hne : combI l ≠ [] := by
    unfold combI combU
    rw [if_pos (by omega)]
    simp
  have e : (combI l).getLast? = some ((combI l).getLast hne) := List.getLast?_eq_some_getLast hne
  refine ⟨?_, ?_⟩
  · unfold lastI
    rw [e]
    exact List.dropLast_concat_getLast hne
  · obtain ⟨ns, h1, h2⟩ := List.mem_map.mp (List.getLast_mem hne)
    refine ⟨sortI ns, ?_, ?_, ?_⟩
    · unfold lastI
      rw [e]
      exact h2.symm
    · rw [(sortI_perm ns).length_eq]
      unfold combU at h1
      rcases List.mem_append.mp h1 with h1 | h1
      · split at h1
        · rw [List.mem_singleton.mp h1]
          decide
        · cases h1
      · obtain ⟨k, _, rfl⟩ := List.mem_map.mp h1
        exact Nat.le_refl 2
    · unfold combI combU
      rw [List.length_map, List.length_append, List.length_map, List.length_range]
      split <;> simp <;> omega
theorem gErr_of {d : PyData} (h : smallIn d = true) : f1 gErr [d] = some (webErr d) := if_pos h
def spLaw (K : PySem.W.Frag) : Sp := fun vs H Q _ => ∃ (a : Addr) (ns : List Int), vs = [.ref a] ∧ SqL K H a (ns.map V.int) ∧ ns.length ≤ 63 ∧ ∀ H', Q (.bl true) H'
section
variable {P : Program} {w : World} {K : PySem.W.Frag} {mg : Str → Option Value} {base : Heap}
theorem runs_law {f fD fW fC fF fE : Addr} {fd fdD fdW fdC fdF fdE : FuncData} (F : Fun K "law" "law" sLaw f fd)
    (FD : Fun K "_law_deck" "_law_deck" sDeck fD fdD) (bD : Binds K fdD ["_law_script"] []) (gD : mg "_law_deck" = some (.ref fD))
    (FW : Fun K "_law_draw" "_law_draw" sDraw fW fdW) (bW : Binds K fdW ["_law_deck_here", "_law_many"] []) (gW : mg "_law_draw" = some (.ref fW))
    (FC : Fun K "_law_comb" "_law_comb" sComb fC fdC) (bC : Binds K fdC ["_law_leaves"] []) (gC : mg "_law_comb" = some (.ref fC))
    (FF : Fun K "_law_fan" "_law_fan" sFan fF fdF) (bF : Binds K fdF ["_law_many"] []) (gF : mg "_law_fan" = some (.ref fF))
    (FE : Fun K "web_error" "web_error" sErr fE fdE) (bE : Binds K fdE ["value"] []) (gE : mg "web_error" = some (.ref fE))
    (m1 : mg "range" = none) (m2 : mg "repr" = none)
    (GD : FnOk P w K mg base CX0 1 fD fdD ["_law_script"] (spDeck K))
    (GW : FnOk P w K mg base CX0 1 fW fdW ["_law_deck_here", "_law_many"] spDraw)
    (GC : FnOk P w K mg base CX0 1 fC fdC ["_law_leaves"] (spD K (f1 gComb)))
    (GF : FnOk P w K mg base CX0 1 fF fdF ["_law_many"] (spD K (f1 gFan)))
    (GE : FnOk P w K mg base CX0 4 fE fdE ["value"] (spD K (f1 gErr))) :
    RunsG P w K mg base f fd "_law_script" (spLaw K) := by
  refine runsG_of (k := 4) F scLaw ⟨rfl, by decide, by decide⟩ fun cdv s H v Q hr h => ?_
  obtain ⟨a, ns, ev, hS, hlen, q⟩ := h
  cases ev
  have r1 := hr.mono (show 1 ≤ 4 by decide)
  apply Exists.intro
  apply And.intro
  case left =>
    refine' pss_cons (ps_set (i := 1) scLaw.nd rfl (.inl rfl) (pe_call GD r1 (by rfl) gD FD.kp bD .nil pass0 (pa_cons (pv 0) pa_nil))) ?r0
    case' r0 => skip
    refine' pss_cons (ps_for PassesOwn.never rfl (pi_range2 (by rfl) m1 (pa_cons pe_int (pa_cons pe_int pa_nil))) (pg_name (i := 2) scLaw.nd rfl (.inl rfl))
      (pss_cons (ps_set (i := 3) scLaw.nd rfl (.inl rfl) (pe_ifExp (pt_cmpR op_lt (pv 2) pe_int (nomark _)) pe_non (pe_tup (pa_cons pe_non (pa_cons pe_str pa_nil)))))
      (pss_one (ps_if (pt_cmpR op_ne (pe_callB (call_reprA rfl hr.units) (by rfl) m2 (by decide +kernel) (pa_cons (pe_call GE hr (by rfl) gE FE.kp bE .nil pass0 (pa_cons (pe_call GC r1 (by rfl) gC FC.kp bC .nil pass0 (pa_cons (pv 2) pa_nil)) pa_nil)) pa_nil))
          (pe_callB (call_reprA rfl hr.units) (by rfl) m2 (by decide +kernel) (pa_cons (pv 3) pa_nil)) (nomark _)) (pss_one (ps_ret pe_bl)) pss_nil)))) ?r1
    case' r1 => skip
    refine' pss_cons (ps_for PassesOwn.never rfl (pi_range2 (by rfl) m1 (pa_cons pe_int (pa_cons pe_int pa_nil))) (pg_name (i := 4) scLaw.nd rfl (.inl rfl))
      (pss_cons (ps_set (i := 3) scLaw.nd rfl (.inl rfl) (pe_ifExp (pt_cmpR op_lt (pv 4) pe_int (nomark _)) pe_non (pe_tup (pa_cons pe_non (pa_cons pe_str pa_nil)))))
      (pss_one (ps_if (pt_cmpR op_ne (pe_callB (call_reprA rfl hr.units) (by rfl) m2 (by decide +kernel) (pa_cons (pe_call GE hr (by rfl) gE FE.kp bE .nil pass0 (pa_cons (pe_call GF r1 (by rfl) gF FF.kp bF .nil pass0 (pa_cons (pv 4) pa_nil)) pa_nil)) pa_nil))
          (pe_callB (call_reprA rfl hr.units) (by rfl) m2 (by decide +kernel) (pa_cons (pv 3) pa_nil)) (nomark _)) (pss_one (ps_ret pe_bl)) pss_nil)))) ?r2
    case' r2 => skip
    refine' pss_cons (ps_if (pt_cmpR op_ne (pe_callB (call_reprA rfl hr.units) (by rfl) m2 (by decide +kernel) (pa_cons (pe_lc (own := [("_law_k", 7)]) (g := gName 7) (tt := tYes) rfl scLaw.nd (pi_tup (pe_tup (pa_cons pe_int (pa_cons pe_int pa_nil)))) (blkOk_by (N := nLaw) (sc := defScope sLaw) (by decide +kernel))
          (fun _ _ _ _ _ => pg_name (i := 7) scLaw.nd rfl (Or.inl rfl)) (fun _ _ _ _ _ => pts_nil)
          (fun _ _ _ _ _ => pe_call GE hr (by rfl) gE FE.kp bE .nil pass0 (pa_cons (pe_call GF r1 (by rfl) gF FF.kp bF .nil pass0 (pa_cons (pv 7) pa_nil)) pa_nil))) pa_nil))
        (pe_callB (call_reprA rfl hr.units) (by rfl) m2 (by decide +kernel) (pa_cons (pe_lst (pa_cons (pe_tup (pa_cons pe_int (pa_cons pe_str pa_nil))) (pa_cons pe_non pa_nil))) pa_nil)) (nomark _)) (pss_one (ps_ret pe_bl)) pss_nil) ?r3
    case' r3 => skip
    refine' pss_cons (ps_set (i := 2) scLaw.nd rfl (.inl rfl) (pe_op op_add pe_int (pe_call GW r1 (by rfl) gW FW.kp bW .nil pass0 (pa_cons (pv 1) (pa_cons pe_int pa_nil))))) ?r4
    case' r4 => skip
    refine' pss_cons (ps_set (i := 5) scLaw.nd rfl (.inl rfl) (pe_ix ix_tup (pe_call GC r1 (by rfl) gC FC.kp bC .nil pass0 (pa_cons (pv 2) pa_nil)) pe_int (fun _ _ => rfl))) ?r5
    case' r5 => skip
    refine' pss_cons (ps_set (i := 6) scLaw.nd rfl (.inl rfl) (pe_lst (pa_cons (pe_tup (pa_cons (pv 2) (pa_cons (pe_tup pa_nil) pa_nil)))
        (pa_cons (pe_tup (pa_cons (pv 2) (pa_cons (pe_slice sl_tupA (pv 5) po_none (po_some (pe_un un_neg pe_int))) pa_nil)))
        (pa_cons (pe_tup (pa_cons (pv 2) (pa_cons (pe_op op_catA (pv 5) (pe_tup (pa_cons (pe_ix ix_tup (pv 5) (pe_un un_neg pe_int) (fun _ _ => rfl)) pa_nil))) pa_nil))) pa_nil))))) ?r6
    case' r6 => skip
    refine' pss_cons (ps_expr (pe_bm PySem.F.plainAttrs_list PySem.F.slot_list_append PySem.F.type_list_append mt_append (pv 6) (pa_cons (pe_tup (pa_cons (pv 2) (pa_cons (pe_op op_catA (pv 5) (pe_tup (pa_cons (pe_tup (pa_cons (pe_op op_sub (pe_op op_mul pe_int (pv 2)) pe_int) pa_nil)) pa_nil))) pa_nil))) pa_nil))) ?r7
    case' r7 => skip
    refine' pss_cons (ps_set (i := 3) scLaw.nd rfl (.inl rfl) (pe_lst (pa_cons (pe_tup (pa_cons pe_int (pa_cons pe_str pa_nil)))
        (pa_cons (pe_tup (pa_cons (pe_op op_sub (pv 2) pe_int) (pa_cons pe_str pa_nil)))
        (pa_cons (pe_tup (pa_cons (pe_op op_sub (pe_op op_mul pe_int (pv 2)) pe_int) (pa_cons pe_str pa_nil)))
        (pa_cons (pe_tup (pa_cons (pe_op op_sub (pe_op op_mul pe_int (pv 2)) pe_int) (pa_cons pe_str pa_nil))) pa_nil)))))) ?r8
    case' r8 => skip
    refine' pss_cons (ps_expr (pe_bm PySem.F.plainAttrs_list PySem.F.slot_list_append PySem.F.type_list_append mt_append (pv 6) (pa_cons (pe_tup (pa_cons (pv 2) (pa_cons (pe_op op_catA (pe_slice sl_tupA (pv 5) po_none (po_some (pe_un un_neg pe_int)))
        (pe_tup (pa_cons (pe_op op_catA (pe_tup (pa_cons pe_int pa_nil)) (pe_ix ix_tup (pv 5) (pe_un un_neg pe_int) (fun _ _ => rfl))) pa_nil))) pa_nil))) pa_nil))) ?r9
    case' r9 => skip
    refine' pss_cons (ps_expr (pe_bm PySem.F.plainAttrs_list PySem.F.slot_list_append PySem.F.type_list_append mt_append (pv 3) (pa_cons (pe_tup (pa_cons pe_int (pa_cons pe_str pa_nil))) pa_nil))) ?r10
    case' r10 => skip
    refine' pss_cons (ps_expr (pe_bm PySem.F.plainAttrs_list PySem.F.slot_list_append PySem.F.type_list_append mt_append (pv 6) (pa_cons (pe_tup (pa_cons (pv 2) (pa_cons (pe_op op_catA (pe_slice sl_tupA (pv 5) po_none (po_some (pe_un un_neg pe_int)))
        (pe_tup (pa_cons (pe_tup (pa_cons (pe_op op_sub (pv 2) pe_int) pa_nil)) pa_nil))) pa_nil))) pa_nil))) ?r11
    case' r11 => skip
    refine' pss_cons (ps_expr (pe_bm PySem.F.plainAttrs_list PySem.F.slot_list_append PySem.F.type_list_append mt_append (pv 3) (pa_cons (pe_tup (pa_cons (pe_op op_sub (pe_op op_mul pe_int (pv 2)) pe_int) (pa_cons pe_str pa_nil))) pa_nil))) ?r12
    case' r12 => skip
    refine' pss_cons (ps_expr (pe_bm PySem.F.plainAttrs_list PySem.F.slot_list_append PySem.F.type_list_append mt_append (pv 6) (pa_cons (pe_tup (pa_cons (pv 2) (pa_cons (pe_op op_catA (pv 5) (pe_tup (pa_cons (pe_tup (pa_cons (pv 2) (pa_cons (pe_op op_sub (pe_op op_mul pe_int (pv 2)) pe_int) pa_nil))) pa_nil))) pa_nil))) pa_nil))) ?r13
    case' r13 => skip
    refine' pss_cons (ps_expr (pe_bm PySem.F.plainAttrs_list PySem.F.slot_list_append PySem.F.type_list_append mt_append (pv 3) (pa_cons (pe_ifExp (pt_cmpR op_gt (pv 2) pe_int (nomark _)) (pe_tup (pa_cons (pv 2) (pa_cons pe_str pa_nil))) pe_non) pa_nil))) ?r14
    case' r14 => skip
    refine' pss_cons (ps_expr (pe_bm PySem.F.plainAttrs_list PySem.F.slot_list_append PySem.F.type_list_append mt_append (pv 6) (pa_cons (pe_tup (pa_cons pe_int (pa_cons (pe_tup (pa_cons (pe_tup (pa_cons pe_int pa_nil)) (pa_cons (pe_tup (pa_cons pe_int (pa_cons pe_int pa_nil))) (pa_cons (pe_tup (pa_cons pe_int (pa_cons pe_int pa_nil))) pa_nil)))) pa_nil))) pa_nil))) ?r15
    case' r15 => skip
    refine' pss_cons (ps_expr (pe_bm PySem.F.plainAttrs_list PySem.F.slot_list_append PySem.F.type_list_append mt_append (pv 3) (pa_cons pe_non pa_nil))) ?r16
    case' r16 => skip
    refine' pss_cons (ps_set (i := 6) scLaw.nd rfl (.inl rfl) (pe_op op_cat (pv 6) (pe_lst (pa_cons (pe_tup (pa_cons pe_int (pa_cons (pe_tup (pa_cons (pe_tup (pa_cons pe_int pa_nil)) (pa_cons (pe_tup (pa_cons pe_int pa_nil)) (pa_cons (pe_tup (pa_cons pe_int (pa_cons pe_int pa_nil))) (pa_cons (pe_tup (pa_cons pe_int (pa_cons pe_int pa_nil))) (pa_cons (pe_tup (pa_cons pe_int (pa_cons pe_int pa_nil))) pa_nil)))))) pa_nil)))
        (pa_cons (pe_tup (pa_cons pe_int (pa_cons (pe_tup pa_nil) pa_nil))) (pa_cons (pe_tup (pa_cons pe_bl (pa_cons (pe_tup pa_nil) pa_nil))) pa_nil)))))) ?r17
    case' r17 => skip
    refine' pss_cons (ps_expr (pe_bm PySem.F.plainAttrs_list PySem.F.slot_list_append PySem.F.type_list_append mt_append (pv 6) (pa_cons (pe_tup (pa_cons (pv 2) (pa_cons (pe_op op_catA (pv 5) (pe_tup (pa_cons (pe_tup (pa_cons (pe_op op_sub (pe_op op_mul pe_int (pv 2)) pe_int) pa_nil)) pa_nil))) pa_nil))) pa_nil))) ?r18
    case' r18 => skip
    refine' pss_cons (ps_set (i := 3) scLaw.nd rfl (.inl rfl) (pe_op op_cat (pv 3) (pe_lst (pa_cons (pe_tup (pa_cons pe_int (pa_cons pe_str pa_nil))) (pa_cons (pe_tup (pa_cons pe_non (pa_cons pe_str pa_nil))) (pa_cons (pe_tup (pa_cons pe_non (pa_cons pe_str pa_nil)))
        (pa_cons (pe_tup (pa_cons (pe_op op_sub (pe_op op_mul pe_int (pv 2)) pe_int) (pa_cons pe_str pa_nil))) pa_nil))))))) ?r19
    case' r19 => skip
    exact pss_one (ps_ret (pe_cmpR op_eq (pe_callB (call_reprA rfl hr.units) (by rfl) m2 (by decide +kernel) (pa_cons (pe_lc (own := [("_law_value", 8)]) (g := gName 8) (tt := tYes) rfl scLaw.nd (pi_list (pv 6)) (blkOk_by (N := nLaw) (sc := defScope sLaw) (by decide +kernel))
          (fun _ _ _ _ _ => pg_name (i := 8) scLaw.nd rfl (Or.inl rfl)) (fun _ _ _ _ _ => pts_nil)
          (fun _ _ _ _ _ => pe_call GE hr (by rfl) gE FE.kp bE .nil pass0 (pa_cons (pv 8) pa_nil))) pa_nil))
        (pe_callB (call_reprA rfl hr.units) (by rfl) m2 (by decide +kernel) (pa_cons (pv 3) pa_nil)) (nomark _)))
  case right =>
    refine q_deck (K := K) (ev_var rfl) hS hlen fun dk Lk H1 hdk _ e1 hD => ?_
    let S (x2 x3 x4 x5 x6 : Option V) : L2.St := [some (.ref a), some (.ref dk), x2, x3, x4, x5, x6, none, none]
    show tSeq (tFor _ _ _) _ _ (S none none none none none) H1
    -- combs of one to nine leaves
    refine q_forS (K := K) (H0 := H1) (Ex.refl _) (ds := rngD 1 9) ?_ (fun i σ' H' => Ex H1 H' ∧ ∃ x2 x3, σ' = S x2 x3 none none none) (fun H2 e2 => ⟨e2, _, _, rfl⟩) (fun i σ' H' p => p.1) (fun i d x σ' H' hi hx p => ?_) fun σ' H' p => ?_
    · exact srcS_R2 (lo := 1) (n := 10) (ea_cons ev_c (ea_cons ev_c ea_nil)) (by decide)
    · obtain ⟨e2, x2, x3, rfl⟩ := p
      have hin : i < 9 := by
        have q := (List.getElem?_eq_some_iff.mp hi).1
        rw [rngD_len] at q
        exact q
      rw [rngD_at hin] at hi
      cases hi
      cases dp_int hx
      obtain ⟨l, hl⟩ : ∃ l : Nat, l = 1 + i := ⟨_, rfl⟩
      rw [show (1 : Int) + (i : Int) = ((l : Nat) : Int) by omega]
      obtain ⟨c1, c2, c3⟩ := comb_ok l (by omega) (by omega)
      show tSeq _ _ _ (S (some (.int (l : Int))) x3 none none none) H'
      refine q_asgD (K := K) (d := dueC l) (ed_if (b := decide ((l : Int) < 9)) (et_test (ev_op (ev_var rfl) ev_c rv_I0)) (fun hb => ?_) fun hb => ?_) fun y H2 e3 hy => ?_
      · unfold dueC
        rw [if_pos (of_decide_eq_true hb)]
        exact ed_ev ev_c .non
      · unfold dueC
        rw [if_neg (of_decide_eq_false hb)]
        exact ed_tup (eda_cons (ed_ev ev_c .non) (eda_cons (ed_ev ev_c (.str _)) eda_nil)) (by simp)
      show tIfS _ _ _ _ (S (some (.int (l : Int))) (some y) none none none) H2
      refine s_if (et_reprNe (K := K) (d := dueC l) (ed_is (ed_call (ds := [combD l]) (eda_cons (ed_call (ds := [natD l]) (eda_cons (ed_var rfl (.int _)) eda_nil) ?_) eda_nil) (gErr_of c3)) c1) (ed_var rfl hy) c2) (fun z => by cases z) fun _ H3 e4 => ⟨(e2.trans e3).trans e4, _, _, rfl⟩
      show (if 1 ≤ (l : Int) ∧ (l : Int) ≤ 9 then some (combD (l : Int).toNat) else none) = some (combD l)
      rw [if_pos (by omega), Int.toNat_natCast]
    obtain ⟨e2, x2, x3, rfl⟩ := p
    -- fans
    refine q_forS (K := K) (H0 := H1) e2 (ds := rngD 17 6) ?_ (fun i σ' H' => Ex H1 H' ∧ ∃ x3 x4, σ' = S x2 x3 x4 none none) (fun H2 e3 => ⟨e2.trans e3, _, _, rfl⟩) (fun i σ' H' p => p.1) (fun i d x σ' H' hi hx p => ?_) fun σ' H' p => ?_
    · exact srcS_R2 (lo := 17) (n := 23) (ea_cons ev_c (ea_cons ev_c ea_nil)) (by decide)
    · obtain ⟨e2, x3, x4, rfl⟩ := p
      have hin : i < 6 := by
        have q := (List.getElem?_eq_some_iff.mp hi).1
        rw [rngD_len] at q
        exact q
      rw [rngD_at hin] at hi
      cases hi
      cases dp_int hx
      obtain ⟨l, hl⟩ : ∃ l : Nat, l = 17 + i := ⟨_, rfl⟩
      rw [show (17 : Int) + (i : Int) = ((l : Nat) : Int) by omega]
      obtain ⟨c1, c2, c3⟩ := fan_ok l (by omega) (by omega)
      show tSeq _ _ _ (S x2 x3 (some (.int (l : Int))) none none) H'
      refine q_asgD (K := K) (d := dueF l) (ed_if (b := decide ((l : Int) < 20)) (et_test (ev_op (ev_var rfl) ev_c rv_I0)) (fun hb => ?_) fun hb => ?_) fun y H2 e3 hy => ?_
      · unfold dueF
        rw [if_pos (of_decide_eq_true hb)]
        exact ed_ev ev_c .non
      · unfold dueF
        rw [if_neg (of_decide_eq_false hb)]
        exact ed_tup (eda_cons (ed_ev ev_c .non) (eda_cons (ed_ev ev_c (.str _)) eda_nil)) (by simp)
      show tIfS _ _ _ _ (S x2 (some y) (some (.int (l : Int))) none none) H2
      refine s_if (et_reprNe (K := K) (d := dueF l) (ed_is (ed_call (ds := [fanD l]) (eda_cons (ed_call (ds := [natD l]) (eda_cons (ed_var rfl (.int _)) eda_nil) ?_) eda_nil) (gErr_of c3)) c1) (ed_var rfl hy) c2) (fun z => by cases z) fun _ H3 e4 => ⟨(e2.trans e3).trans e4, _, _, rfl⟩
      show (if 0 ≤ (l : Int) ∧ (l : Int) ≤ 100 then some (fanD (l : Int).toNat) else none) = some (fanD l)
      rw [if_pos (by omega), Int.toNat_natCast]
    obtain ⟨e2, x3, x4, rfl⟩ := p
    show tSeq _ _ _ (S x2 x3 x4 none none) H'
    -- a mixing with one parent, with two
    refine q_when (b := false) (et_reprNe (K := K) (d := .list [zI 2 "single", .none]) (ed_is (ed_n (en_lc (ds := [.int 1, .int 2]) (fun d => match d with | .int i => some (webErr (fanD i.toNat)) | _ => none)
        (src_T (ed_tup (eda_cons (ed_i ev_c) (eda_cons (ed_i ev_c) eda_nil)) (by simp))) (by simp) (fun _ => rfl) (fun d v H3 e3 hd hv => ?_) (fun d r w H3 e3 hd hw hr => ?_) (fun d r hd hr => ?_))) (by kernel_rfl))
        (ed_n (ed_lst (eda_cons (ed_tup (eda_cons (ed_i ev_c) (eda_cons (ed_ev ev_c (.str _)) eda_nil)) (by simp)) (eda_cons (ed_ev ev_c .non) eda_nil)) (by simp))) (by decide +kernel)) (fun z => by cases z) fun _ H3 e3 => ?_
    · have : d = .int 1 ∨ d = .int 2 := by simpa using hd
      rcases this with rfl | rfl <;> exact fun H1 _ _ q => q H1 (Ex.refl H1)
    · have : d = .int 1 ∨ d = .int 2 := by simpa using hd
      rcases this with rfl | rfl
      · cases hr
        exact ed_call (ds := [fanD 1]) (eda_cons (ed_call (ds := [.int 1]) (eda_cons (ed_var rfl hw) eda_nil) (by kernel_rfl)) eda_nil) (gErr_of (by decide +kernel))
      · cases hr
        exact ed_call (ds := [fanD 2]) (eda_cons (ed_call (ds := [.int 2]) (eda_cons (ed_var rfl hw) eda_nil) (by kernel_rfl)) eda_nil) (gErr_of (by decide +kernel))
    · have : d = .int 1 ∨ d = .int 2 := by simpa using hd
      rcases this with rfl | rfl <;> (cases hr; exact nl_webErr _)
    have hD3 := hD.ex (e2.trans e3)
    -- the draw
    refine q_draw (ev_var rfl) ev_c hD3 (by decide) (by decide) (by decide) fun r H5 hr0 hr6 e5 hD5 => ?_
    obtain ⟨l, hl⟩ : ∃ l : Nat, l = 3 + r.toNat := ⟨_, rfl⟩
    rw [show (3 : Int) + r = ((l : Nat) : Int) by omega]
    have hl3 : 3 ≤ l := by omega
    have hl8 : l ≤ 8 := by omega
    clear hr0 hr6 hl hD3 e5 hD5 hD hS
    obtain ⟨hI, ms, hms, hml, hIl⟩ := combI_last hl3
    obtain ⟨v1, v2, v3, v4⟩ := vals_ok l hl3 hl8
    have nI := combI_nl l
    have nT : ∀ ns, nl (tupI ns) = true := nl_tupI
    have nD : nlAll (combI l).dropLast = true := nlAll_mem fun d hd => nlAll_of nI d (List.dropLast_subset _ hd)
    have hDl : (combI l).dropLast.length ≤ 200 := by
      rw [List.length_dropLast]
      omega
    show tSeq _ _ _ (S (some (.int (l : Int))) x3 x4 none none) H5
    have hcomb : f1 gComb [natD l] = some (combD l) := by
      show (if 1 ≤ (l : Int) ∧ (l : Int) ≤ 9 then some (combD (l : Int).toNat) else none) = some (combD l)
      rw [if_pos (by omega), Int.toNat_natCast]
    refine q_asgD (K := K) (d := .tuple (combI l)) (ed_ixT (n := 1) (ds := [natD l, .tuple (combI l)]) (ed_call (eda_cons (ed_var rfl (.int _)) eda_nil) hcomb) (ed_i ev_c) rfl rfl) fun xi H6 e6 hxi => ?_
    clear e6
    -- what is read off at any later time
    have rJ : ∀ {x3 x6 : Option V} {H' : Hp}, Dp K H' xi (.tuple (combI l)) → EvD K (tVar 5) (S (some (.int (l : Int))) x3 x4 (some xi) x6) H' (.tuple (combI l)) := fun h => ed_var rfl h
    have rL : ∀ {x3 x6 : Option V} {H' : Hp}, Dp K H' xi (.tuple (combI l)) → EvD K (tOp (rIxT K) (tVar 5) (tUn (rU fun i => .int (-i)) (tC (.int 1)))) (S (some (.int (l : Int))) x3 x4 (some xi) x6) H' (tupI ms) := fun h => by
      rw [← hms]
      exact ed_last (ds := (combI l).dropLast) (by rw [hI]; exact rJ h)
    have rD : ∀ {x3 x6 : Option V} {H' : Hp}, Dp K H' xi (.tuple (combI l)) → EvD K (tSl (rSlA K) (tVar 5) tNoPart (tPart (tUn (rU fun i => .int (-i)) (tC (.int 1))))) (S (some (.int (l : Int))) x3 x4 (some xi) x6) H' (.tuple (combI l).dropLast) := fun h =>
      ed_init (d := lastI l) (by rw [hI]; exact rJ h)
    have rW : ∀ {x3 x6 : Option V} {H' : Hp} {te : TE} {ds : List PyData}, EvD K te (S (some (.int (l : Int))) x3 x4 (some xi) x6) H' (.tuple ds) → EvD K (tTup (tCons (tVar 2) (tCons te tNil))) (S (some (.int (l : Int))) x3 x4 (some xi) x6) H' (wI l ds) := fun h =>
      ed_tup (eda_cons (ed_var rfl (.int _)) (eda_cons h eda_nil)) (by simp)
    have r2 : ∀ {x3 x6 : Option V} {H' : Hp} (c : Int), EvD K (tOp (rI0 fun i j => .int (i - j)) (tOp (rI CMul fun i j => .int (i * j)) (tC (.int 2)) (tVar 2)) (tC (.int c))) (S (some (.int (l : Int))) x3 x4 (some xi) x6) H' (.int (2 * (l : Int) - c)) := fun c =>
      ed_i (ev_op (ev_op ev_c (ev_var rfl) (rv_I (.inl ⟨by decide, by decide⟩))) ev_c rv_I0)
    have r1' : ∀ {x3 x6 : Option V} {H' : Hp}, EvD K (tOp (rI0 fun i j => .int (i - j)) (tVar 2) (tC (.int 1))) (S (some (.int (l : Int))) x3 x4 (some xi) x6) H' (.int ((l : Int) - 1)) :=
      ed_i (ev_op (ev_var rfl) ev_c rv_I0)
    have rZ : ∀ {x3 x6 : Option V} {H' : Hp} {te : TE} {i : Int} (x : Str), EvD K te (S (some (.int (l : Int))) x3 x4 (some xi) x6) H' (.int i) → EvD K (tTup (tCons te (tCons (tC (.str x)) tNil))) (S (some (.int (l : Int))) x3 x4 (some xi) x6) H' (zI i x) := fun x h =>
      ed_tup (eda_cons h (eda_cons (ed_ev ev_c (.str _)) eda_nil)) (by simp)
    have r1t : ∀ {x3 x6 : Option V} {H' : Hp} {te : TE} {i : Int}, EvD K te (S (some (.int (l : Int))) x3 x4 (some xi) x6) H' (.int i) → EvD K (tTup (tCons (tTup (tCons te tNil)) tNil)) (S (some (.int (l : Int))) x3 x4 (some xi) x6) H' (.tuple [tupI [i]]) := fun h =>
      ed_tup (eda_cons (ed_tup (eda_cons h eda_nil) (by simp)) eda_nil) (by simp)
    have nW : ∀ {ds : List PyData} {ns : List Int}, nlAll ds = true → nl (wI l (ds ++ [tupI ns])) = true := fun h => nl_wI (nlAll_snoc h (nT _))
    show tSeq _ _ _ (S (some (.int (l : Int))) x3 x4 (some xi) none) H6
    refine q_asgLD (K := K) (ds := [wI l [], wI l (combI l).dropLast, wI l (combI l ++ [tupI ms])]) (ed_lst (eda_cons (rW (ed_tup eda_nil (by simp))) (eda_cons (rW (rD hxi)) (eda_cons (rW (ed_cat (rJ hxi) (ed_tup (eda_cons (rL hxi) eda_nil) (by simp)) (by simp; omega))) eda_nil))) (by simp)) fun ps H7 hps e7 hP => ?_
    have n3 : nlAll [wI l [], wI l (combI l).dropLast, wI l (combI l ++ [tupI ms])] = true := nlAll_cons (nl_wI rfl) (nlAll_cons (nl_wI nD) (nlAll_cons (nW nI) rfl))
    replace hxi := dp_ex e7 _ hxi
    show tSeq _ _ _ (S (some (.int (l : Int))) x3 x4 (some xi) (some (.ref ps))) H7
    obtain ⟨_, hPa, _⟩ := id hP
    refine q_appD (d := wI l (combI l ++ [tupI [2 * (l : Int) - 2]])) hP (ev_var rfl) (rW (ed_cat (rJ hxi) (r1t (r2 2)) (by simp; omega))) (by simp) n3 (nW nI) fun H8 b8 hP8 => ?_
    have n4 := nlAll_snoc n3 (nW (ns := [2 * (l : Int) - 2]) nI)
    replace hxi := But.dp b8 hPa hxi nI
    clear hPa hP
    refine q_asgLD (K := K) (ds := [zI 0 "parents", zI ((l : Int) - 1) "parents", zI (2 * (l : Int) - 2) "parents", zI (2 * (l : Int) - 1) "single"]) (ed_lst (eda_cons (rZ _ (ed_i ev_c)) (eda_cons (rZ _ r1') (eda_cons (rZ _ (r2 2)) (eda_cons (rZ _ (r2 1)) eda_nil)))) (by simp)) fun pd H9 hpd e9 hE => ?_
    have hne : ps ≠ pd := by
      obtain ⟨_, z, _⟩ := hP8
      exact ne_of_none z hpd
    have m4 : nlAll [zI 0 "parents", zI ((l : Int) - 1) "parents", zI (2 * (l : Int) - 2) "parents", zI (2 * (l : Int) - 1) "single"] = true := rfl
    replace hxi := dp_ex e9 _ hxi
    have hP9 := hP8.ex e9
    clear hP8
    show tSeq _ _ _ (S (some (.int (l : Int))) (some (.ref pd)) x4 (some xi) (some (.ref ps))) H9
    -- by turns
    obtain ⟨_, hPa, _⟩ := id hP9
    refine q_appD (d := wI l ((combI l).dropLast ++ [tupI (0 :: ms)])) hP9 (ev_var rfl) (rW (ed_cat (rD hxi) (ed_tup (eda_cons (ed_is (ed_cat (ds := [.int 0]) (ed_tup (eda_cons (ed_i ev_c) eda_nil) (by simp)) (rL hxi) (by simp; omega)) rfl) eda_nil) (by simp)) (by simp; omega))) (by simp) n4 (nW nD) fun H10 b10 hP10 => ?_
    have n5 := nlAll_snoc n4 (nW (ns := 0 :: ms) nD)
    replace hxi := But.dp b10 hPa hxi nI
    have hE10 := But.ld b10 hPa hE hne.symm m4
    clear hPa hP9 hE
    obtain ⟨_, hEa, _⟩ := id hE10
    refine q_appD (d := zI 0 "leaf") hE10 (ev_var rfl) (rZ _ (ed_i ev_c)) (by simp) m4 rfl fun H11 b11 hE11 => ?_
    have m5 := nlAll_snoc (d := zI 0 "leaf") m4 rfl
    replace hxi := But.dp b11 hEa hxi nI
    have hP11 := But.ld b11 hEa hP10 hne n5
    clear hEa hE10 hP10
    obtain ⟨_, hPa, _⟩ := id hP11
    refine q_appD (d := wI l ((combI l).dropLast ++ [tupI [(l : Int) - 1]])) hP11 (ev_var rfl) (rW (ed_cat (rD hxi) (r1t r1') (by simp; omega))) (by simp) n5 (nW nD) fun H12 b12 hP12 => ?_
    have n6 := nlAll_snoc n5 (nW (ns := [(l : Int) - 1]) nD)
    replace hxi := But.dp b12 hPa hxi nI
    have hE12 := But.ld b12 hPa hE11 hne.symm m5
    clear hPa hP11 hE11
    obtain ⟨_, hEa, _⟩ := id hE12
    refine q_appD (d := zI (2 * (l : Int) - 3) "parents") hE12 (ev_var rfl) (rZ _ (r2 3)) (by simp) m5 rfl fun H13 b13 hE13 => ?_
    have m6 := nlAll_snoc (d := zI (2 * (l : Int) - 3) "parents") m5 rfl
    replace hxi := But.dp b13 hEa hxi nI
    have hP13 := But.ld b13 hEa hP12 hne n6
    clear hEa hE12 hP12
    obtain ⟨_, hPa, _⟩ := id hP13
    refine q_appD (d := wI l (combI l ++ [tupI [(l : Int), 2 * (l : Int) - 2]])) hP13 (ev_var rfl) (rW (ed_cat (rJ hxi) (ed_tup (eda_cons (d := tupI [(l : Int), 2 * (l : Int) - 2]) (ed_is (ed_tup (eda_cons (ed_var rfl (.int _)) (eda_cons (r2 2) eda_nil)) (by simp)) rfl) eda_nil) (by simp)) (by simp; omega))) (by simp) n6 (nW nI) fun H14 b14 hP14 => ?_
    have n7 := nlAll_snoc n6 (nW (ns := [(l : Int), 2 * (l : Int) - 2]) nI)
    replace hxi := But.dp b14 hPa hxi nI
    have hE14 := But.ld b14 hPa hE13 hne.symm m6
    clear hPa hP13 hE13
    obtain ⟨_, hEa, _⟩ := id hE14
    refine q_appD (d := zI l "mixing") hE14 (ev_var rfl) (ed_if (b := decide ((2 : Int) < (l : Int))) (et_test (ev_op (ev_var rfl) ev_c rv_I0)) (fun _ => rZ _ (ed_var rfl (.int _))) (fun z => absurd (of_decide_eq_false z) (by omega))) (by simp) m6 rfl fun H15 b15 hE15 => ?_
    have m7 := nlAll_snoc (d := zI l "mixing") m6 rfl
    replace hxi := But.dp b15 hEa hxi nI
    have hP15 := But.ld b15 hEa hP14 hne n7
    clear hEa hE14 hP14
    obtain ⟨_, hPa, _⟩ := id hP15
    have w8 : EvD K (tTup (tCons (tC (.int 2)) (tCons (tTup (tCons (tTup (tCons (tC (.int 0)) tNil)) (tCons (tTup (tCons (tC (.int 1)) (tCons (tC (.int 2)) tNil))) (tCons (tTup (tCons (tC (.int 2)) (tCons (tC (.int 3)) tNil))) tNil)))) tNil))) (S (some (.int (l : Int))) (some (.ref pd)) x4 (some xi) (some (.ref ps))) H15 (.tuple [.int 2, .tuple [tupI [0], tupI [1, 2], tupI [2, 3]]]) :=
      ed_tup (eda_cons (ed_i ev_c) (eda_cons (ed_tup (eda_cons (ed_tup (eda_cons (ed_i ev_c) eda_nil) (by simp)) (eda_cons (ed_tup (eda_cons (ed_i ev_c) (eda_cons (ed_i ev_c) eda_nil)) (by simp)) (eda_cons (ed_tup (eda_cons (ed_i ev_c) (eda_cons (ed_i ev_c) eda_nil)) (by simp)) eda_nil))) (by simp)) eda_nil)) (by simp)
    refine q_appD hP15 (ev_var rfl) w8 (by simp) n7 rfl fun H16 b16 hP16 => ?_
    have n8 := nlAll_snoc (d := .tuple [.int 2, .tuple [tupI [0], tupI [1, 2], tupI [2, 3]]]) n7 rfl
    replace hxi := But.dp b16 hPa hxi nI
    have hE16 := But.ld b16 hPa hE15 hne.symm m7
    clear hPa hP15 hE15 w8
    obtain ⟨_, hEa, _⟩ := id hE16
    refine q_appD (d := .none) hE16 (ev_var rfl) (ed_ev ev_c .non) (by simp) m7 rfl fun H17 b17 hE17 => ?_
    replace hxi := But.dp b17 hEa hxi nI
    have hP17 := But.ld b17 hEa hP16 hne n8
    clear hEa hE16 hP16
    have eP : [wI l [], wI l (combI l).dropLast, wI l (combI l ++ [tupI ms])] ++ [wI l (combI l ++ [tupI [2 * (l : Int) - 2]])] ++ [wI l ((combI l).dropLast ++ [tupI (0 :: ms)])] ++ [wI l ((combI l).dropLast ++ [tupI [(l : Int) - 1]])] ++ [wI l (combI l ++ [tupI [(l : Int), 2 * (l : Int) - 2]])] ++ [.tuple [.int 2, .tuple [tupI [0], tupI [1, 2], tupI [2, 3]]]] = valsA l := by
      unfold valsA
      rw [hms]
      show _ = [_, _, _, _, wI l ((combI l).dropLast ++ [tupI (0 :: (ms.map PyData.int).map intI)]), _, _, _]
      rw [map_intI]
      rfl
    rw [eP] at hP17
    have hE17 : LD K H17 pd (dueA l) := hE17
    have t2 : ∀ {H' : Hp} {σ' : L2.St} (i j : Int), EvD K (tTup (tCons (tC (.int i)) (tCons (tC (.int j)) tNil))) σ' H' (tupI [i, j]) := fun i j => ed_tup (eda_cons (ed_i ev_c) (eda_cons (ed_i ev_c) eda_nil)) (by simp)
    have t1 : ∀ {H' : Hp} {σ' : L2.St} (i : Int), EvD K (tTup (tCons (tC (.int i)) tNil)) σ' H' (tupI [i]) := fun i => ed_tup (eda_cons (ed_i ev_c) eda_nil) (by simp)
    have t0 : ∀ {H' : Hp} {σ' : L2.St}, EvD K (tTup tNil) σ' H' (.tuple []) := ed_tup eda_nil (by simp)
    refine q_asgLD (K := K) (ds := valsA l ++ valsB) (en_cat (ev_var rfl) hP17 (es := valsB) (ed_lst (eda_cons (ed_tup (eda_cons (ed_i ev_c) (eda_cons (ed_tup (eda_cons (t1 0) (eda_cons (t1 1) (eda_cons (t2 2 3) (eda_cons (t2 2 3) (eda_cons (t2 4 5) eda_nil))))) (by simp)) eda_nil)) (by simp))
      (eda_cons (ed_tup (eda_cons (ed_i ev_c) (eda_cons t0 eda_nil)) (by simp)) (eda_cons (ed_tup (eda_cons (ed_b ev_c) (eda_cons t0 eda_nil)) (by simp)) eda_nil))) (by simp [valsB])) (by simp [valsA, valsB])) fun pq H18 hpq e18 hV => ?_
    replace hxi := dp_ex e18 _ hxi
    have hE18 := hE17.ex e18
    have hne2 : pd ≠ pq := by
      obtain ⟨_, z, _⟩ := hE17
      exact ne_of_none z hpq
    clear hE17 hP17 eP
    show tSeq _ _ _ (S (some (.int (l : Int))) (some (.ref pd)) x4 (some xi) (some (.ref pq))) H18
    have nV : nlAll (valsA l ++ valsB) = true := nlAll_mem fun d hd => nlAll_of v4 d (List.mem_append_left _ hd)
    obtain ⟨_, hPa, _⟩ := id hV
    refine q_appD (d := wI l (combI l ++ [tupI [2 * (l : Int) - 1]])) hV (ev_var rfl) (rW (ed_cat (rJ hxi) (r1t (r2 1)) (by simp; omega))) (by simp [valsA, valsB]) nV (nW nI) fun H19 b19 hV19 => ?_
    have hV19 : LD K H19 pq (vals l) := hV19
    have hE19 := But.ld b19 hPa hE18 hne2 (by rfl)
    clear hPa hV hE18 hxi
    refine q_asgLD (K := K) (ds := dueA l ++ dueB l) (en_cat (ev_var rfl) hE19 (es := dueB l) (ed_lst (eda_cons (rZ _ (ed_i ev_c)) (eda_cons (ed_tup (eda_cons (ed_ev ev_c .non) (eda_cons (ed_ev ev_c (.str _)) eda_nil)) (by simp)) (eda_cons (ed_tup (eda_cons (ed_ev ev_c .non) (eda_cons (ed_ev ev_c (.str _)) eda_nil)) (by simp)) (eda_cons (rZ _ (r2 1)) eda_nil)))) (by simp [dueB])) (by simp [dueA, dueB])) fun pe H20 hpe e20 hE20 => ?_
    have hV20 := hV19.ex e20
    show tRet _ _ (S (some (.int (l : Int))) (some (.ref pe)) x4 (some xi) (some (.ref pq))) H20
    refine s_ret (ev_reprEq (K := K) (d := .list (dueA l ++ dueB l)) (ed_is (ed_n (en_lc (ds := vals l) (fun d => some (webErr d)) (src_L (ed_var rfl hV20.dp)) (by simp [vals, valsA, valsB]) (fun _ => rfl) (fun d v H3 e3 hd hv => ?_) (fun d r w H3 e3 hd hw hr => ?_) (fun d r hd hr => ?_))) ?_) (ed_var rfl hE20.dp) v2) fun H21 _ => q H21
    · exact fun H1 _ _ q => q H1 (Ex.refl H1)
    · cases hr
      exact ed_call (ds := [d]) (eda_cons (ed_var rfl hw) eda_nil) (gErr_of (List.all_eq_true.mp v3 d hd))
    · cases hr
      exact nl_webErr _
    · rw [← v1]
      exact congrArg PyData.list (fm_map fun _ _ => rfl)
end
end WR
set_option Elab.async false
set_option linter.all false
set_option maxRecDepth 100000
set_option maxHeartbeats 4000000
namespace WR
open PySem PySem.Spec PyProof.Rows L2 Evl
/-! ### what the top has written -/
theorem all_mk {l : PySem.W.OpenLaw} {w : World} {K : PySem.W.Frag} {h : Heap} {mg : Str → Option Value} {fa : Addr} (X : K.In h) (G : h.Ns mainGlobals mg) (hfa : mg "law" = some (.ref fa))
    {f1 : Addr} {od1 an1 : Option Addr} {sl1 : Array (Option Value)} {oc1 kV1 dc1 pm1 cd1 ct1 : Value}
    (a1 : PySem.W.nsIn K mainGlobals "is_integer" = some (some (.ref f1)))
    (l1 : K.lookup f1 = some ⟨oc1, od1, .func (PySem.W.fnOf "is_integer" "is_integer" (defArgs sIsInt) (defBody sIsInt) (defScope sIsInt) .none kV1 dc1 pm1 an1 cd1 ct1), sl1⟩)
    (c1 : PySem.W.codeIn K cd1 "is_integer" = true) (k1 : PySem.W.keepIn K (.ref f1) = true)
    {f2 : Addr} {od2 an2 : Option Addr} {sl2 : Array (Option Value)} {oc2 kV2 dc2 pm2 cd2 ct2 : Value}
    (a2 : PySem.W.nsIn K mainGlobals "is_between" = some (some (.ref f2)))
    (l2 : K.lookup f2 = some ⟨oc2, od2, .func (PySem.W.fnOf "is_between" "is_between" (defArgs sBetw) (defBody sBetw) (defScope sBetw) .none kV2 dc2 pm2 an2 cd2 ct2), sl2⟩)
    (c2 : PySem.W.codeIn K cd2 "is_between" = true) (k2 : PySem.W.keepIn K (.ref f2) = true)
    {f3 : Addr} {od3 an3 : Option Addr} {sl3 : Array (Option Value)} {oc3 kV3 dc3 pm3 cd3 ct3 : Value}
    (a3 : PySem.W.nsIn K mainGlobals "is_ascending" = some (some (.ref f3)))
    (l3 : K.lookup f3 = some ⟨oc3, od3, .func (PySem.W.fnOf "is_ascending" "is_ascending" (defArgs sAsc) (defBody sAsc) (defScope sAsc) .none kV3 dc3 pm3 an3 cd3 ct3), sl3⟩)
    (c3 : PySem.W.codeIn K cd3 "is_ascending" = true) (k3 : PySem.W.keepIn K (.ref f3) = true)
    {f4 : Addr} {od4 an4 : Option Addr} {sl4 : Array (Option Value)} {oc4 kV4 dc4 pm4 cd4 ct4 : Value}
    (a4 : PySem.W.nsIn K mainGlobals "web_error" = some (some (.ref f4)))
    (l4 : K.lookup f4 = some ⟨oc4, od4, .func (PySem.W.fnOf "web_error" "web_error" (defArgs sErr) (defBody sErr) (defScope sErr) .none kV4 dc4 pm4 an4 cd4 ct4), sl4⟩)
    (c4 : PySem.W.codeIn K cd4 "web_error" = true) (k4 : PySem.W.keepIn K (.ref f4) = true)
    {f5 : Addr} {od5 an5 : Option Addr} {sl5 : Array (Option Value)} {oc5 kV5 dc5 pm5 cd5 ct5 : Value}
    (a5 : PySem.W.nsIn K mainGlobals "link_error" = some (some (.ref f5)))
    (l5 : K.lookup f5 = some ⟨oc5, od5, .func (PySem.W.fnOf "link_error" "link_error" (defArgs sLink) (defBody sLink) (defScope sLink) .none kV5 dc5 pm5 an5 cd5 ct5), sl5⟩)
    (c5 : PySem.W.codeIn K cd5 "link_error" = true) (k5 : PySem.W.keepIn K (.ref f5) = true)
    {f6 : Addr} {od6 an6 : Option Addr} {sl6 : Array (Option Value)} {oc6 kV6 dc6 pm6 cd6 ct6 : Value}
    (a6 : PySem.W.nsIn K mainGlobals "parent_counts" = some (some (.ref f6)))
    (l6 : K.lookup f6 = some ⟨oc6, od6, .func (PySem.W.fnOf "parent_counts" "parent_counts" (defArgs sCnt) (defBody sCnt) (defScope sCnt) .none kV6 dc6 pm6 an6 cd6 ct6), sl6⟩)
    (c6 : PySem.W.codeIn K cd6 "parent_counts" = true) (k6 : PySem.W.keepIn K (.ref f6) = true)
    {f7 : Addr} {od7 an7 : Option Addr} {sl7 : Array (Option Value)} {oc7 kV7 dc7 pm7 cd7 ct7 : Value}
    (a7 : PySem.W.nsIn K mainGlobals "root" = some (some (.ref f7)))
    (l7 : K.lookup f7 = some ⟨oc7, od7, .func (PySem.W.fnOf "root" "root" (defArgs sRoot) (defBody sRoot) (defScope sRoot) .none kV7 dc7 pm7 an7 cd7 ct7), sl7⟩)
    (c7 : PySem.W.codeIn K cd7 "root" = true) (k7 : PySem.W.keepIn K (.ref f7) = true)
    {f8 : Addr} {od8 an8 : Option Addr} {sl8 : Array (Option Value)} {oc8 kV8 dc8 pm8 cd8 ct8 : Value}
    (a8 : PySem.W.nsIn K mainGlobals "children" = some (some (.ref f8)))
    (l8 : K.lookup f8 = some ⟨oc8, od8, .func (PySem.W.fnOf "children" "children" (defArgs sKids) (defBody sKids) (defScope sKids) .none kV8 dc8 pm8 an8 cd8 ct8), sl8⟩)
    (c8 : PySem.W.codeIn K cd8 "children" = true) (k8 : PySem.W.keepIn K (.ref f8) = true)
    {f9 : Addr} {od9 an9 : Option Addr} {sl9 : Array (Option Value)} {oc9 kV9 dc9 pm9 cd9 ct9 : Value}
    (a9 : PySem.W.nsIn K mainGlobals "_law_deck" = some (some (.ref f9)))
    (l9 : K.lookup f9 = some ⟨oc9, od9, .func (PySem.W.fnOf "_law_deck" "_law_deck" (defArgs sDeck) (defBody sDeck) (defScope sDeck) .none kV9 dc9 pm9 an9 cd9 ct9), sl9⟩)
    (c9 : PySem.W.codeIn K cd9 "_law_deck" = true) (k9 : PySem.W.keepIn K (.ref f9) = true)
    {f10 : Addr} {od10 an10 : Option Addr} {sl10 : Array (Option Value)} {oc10 kV10 dc10 pm10 cd10 ct10 : Value}
    (a10 : PySem.W.nsIn K mainGlobals "_law_draw" = some (some (.ref f10)))
    (l10 : K.lookup f10 = some ⟨oc10, od10, .func (PySem.W.fnOf "_law_draw" "_law_draw" (defArgs sDraw) (defBody sDraw) (defScope sDraw) .none kV10 dc10 pm10 an10 cd10 ct10), sl10⟩)
    (c10 : PySem.W.codeIn K cd10 "_law_draw" = true) (k10 : PySem.W.keepIn K (.ref f10) = true)
    {f11 : Addr} {od11 an11 : Option Addr} {sl11 : Array (Option Value)} {oc11 kV11 dc11 pm11 cd11 ct11 : Value}
    (a11 : PySem.W.nsIn K mainGlobals "_law_comb" = some (some (.ref f11)))
    (l11 : K.lookup f11 = some ⟨oc11, od11, .func (PySem.W.fnOf "_law_comb" "_law_comb" (defArgs sComb) (defBody sComb) (defScope sComb) .none kV11 dc11 pm11 an11 cd11 ct11), sl11⟩)
    (c11 : PySem.W.codeIn K cd11 "_law_comb" = true) (k11 : PySem.W.keepIn K (.ref f11) = true)
    {f12 : Addr} {od12 an12 : Option Addr} {sl12 : Array (Option Value)} {oc12 kV12 dc12 pm12 cd12 ct12 : Value}
    (a12 : PySem.W.nsIn K mainGlobals "_law_fan" = some (some (.ref f12)))
    (l12 : K.lookup f12 = some ⟨oc12, od12, .func (PySem.W.fnOf "_law_fan" "_law_fan" (defArgs sFan) (defBody sFan) (defScope sFan) .none kV12 dc12 pm12 an12 cd12 ct12), sl12⟩)
    (c12 : PySem.W.codeIn K cd12 "_law_fan" = true) (k12 : PySem.W.keepIn K (.ref f12) = true)
    {f13 : Addr} {od13 an13 : Option Addr} {sl13 : Array (Option Value)} {oc13 kV13 dc13 pm13 cd13 ct13 : Value}
    (a13 : PySem.W.nsIn K mainGlobals "law" = some (some (.ref f13)))
    (l13 : K.lookup f13 = some ⟨oc13, od13, .func (PySem.W.fnOf "law" "law" (defArgs sLaw) (defBody sLaw) (defScope sLaw) .none kV13 dc13 pm13 an13 cd13 ct13), sl13⟩)
    (c13 : PySem.W.codeIn K cd13 "law" = true) (k13 : PySem.W.keepIn K (.ref f13) = true)
    (z1 : PySem.W.nsIn K mainGlobals "list" = some none)
    (z2 : PySem.W.nsIn K mainGlobals "int" = some none)
    (z3 : PySem.W.nsIn K mainGlobals "abs" = some none)
    (z4 : PySem.W.nsIn K mainGlobals "len" = some none)
    (z5 : PySem.W.nsIn K mainGlobals "range" = some none)
    (z6 : PySem.W.nsIn K mainGlobals "tuple" = some none)
    (z7 : PySem.W.nsIn K mainGlobals "sorted" = some none)
    (z8 : PySem.W.nsIn K mainGlobals "isinstance" = some none)
    (z9 : PySem.W.nsIn K mainGlobals "bool" = some none)
    (z10 : PySem.W.nsIn K mainGlobals "all" = some none)
    (z11 : PySem.W.nsIn K mainGlobals "enumerate" = some none)
    (z12 : PySem.W.nsIn K mainGlobals "repr" = some none)
    {t1 : Tok} (v1 : PySem.W.nsIn K mainGlobals "MAX_LEAVES" = some (some (.int 8 t1)))
    {t2 : Tok} (v2 : PySem.W.nsIn K mainGlobals "MAX_INNER" = some (some (.int 20 t2)))
    : ∃ fd : FuncData, (∀ (s : Shared) (u : Value), BindsTo s fd ⟨[u], []⟩ [("_law_script", u)]) ∧ ∀ base : Heap, K.In base → base.Ns mainGlobals mg → RunsG l.prog w K mg base fa fd "_law_script" (spLaw K) := by
  have e := hfa.symm.trans (PySem.W.mg_of X G a13)
  cases e
  have F1 := fun_mk (st := sIsInt) l1 c1 k1
  have b1 := F1.binds (ps := ["value"]) fun _ _ _ _ _ _ us hl => match us, hl with | [_], _ => rfl
  have g1 := PySem.W.mg_of X G a1
  have F2 := fun_mk (st := sBetw) l2 c2 k2
  have b2 := F2.binds (ps := ["value", "low", "high"]) fun _ _ _ _ _ _ us hl => match us, hl with | [_, _, _], _ => rfl
  have g2 := PySem.W.mg_of X G a2
  have F3 := fun_mk (st := sAsc) l3 c3 k3
  have b3 := F3.binds (ps := ["value", "high"]) fun _ _ _ _ _ _ us hl => match us, hl with | [_, _], _ => rfl
  have g3 := PySem.W.mg_of X G a3
  have F4 := fun_mk (st := sErr) l4 c4 k4
  have b4 := F4.binds (ps := ["value"]) fun _ _ _ _ _ _ us hl => match us, hl with | [_], _ => rfl
  have g4 := PySem.W.mg_of X G a4
  have F5 := fun_mk (st := sLink) l5 c5 k5
  have b5 := F5.binds (ps := ["web"]) fun _ _ _ _ _ _ us hl => match us, hl with | [_], _ => rfl
  have g5 := PySem.W.mg_of X G a5
  have F6 := fun_mk (st := sCnt) l6 c6 k6
  have b6 := F6.binds (ps := ["web"]) fun _ _ _ _ _ _ us hl => match us, hl with | [_], _ => rfl
  have g6 := PySem.W.mg_of X G a6
  have F7 := fun_mk (st := sRoot) l7 c7 k7
  have b7 := F7.binds (ps := ["web"]) fun _ _ _ _ _ _ us hl => match us, hl with | [_], _ => rfl
  have g7 := PySem.W.mg_of X G a7
  have F8 := fun_mk (st := sKids) l8 c8 k8
  have b8 := F8.binds (ps := ["web", "kind"]) fun _ _ _ _ _ _ us hl => match us, hl with | [_, _], _ => rfl
  have g8 := PySem.W.mg_of X G a8
  have F9 := fun_mk (st := sDeck) l9 c9 k9
  have b9 := F9.binds (ps := ["_law_script"]) fun _ _ _ _ _ _ us hl => match us, hl with | [_], _ => rfl
  have g9 := PySem.W.mg_of X G a9
  have F10 := fun_mk (st := sDraw) l10 c10 k10
  have b10 := F10.binds (ps := ["_law_deck_here", "_law_many"]) fun _ _ _ _ _ _ us hl => match us, hl with | [_, _], _ => rfl
  have g10 := PySem.W.mg_of X G a10
  have F11 := fun_mk (st := sComb) l11 c11 k11
  have b11 := F11.binds (ps := ["_law_leaves"]) fun _ _ _ _ _ _ us hl => match us, hl with | [_], _ => rfl
  have g11 := PySem.W.mg_of X G a11
  have F12 := fun_mk (st := sFan) l12 c12 k12
  have b12 := F12.binds (ps := ["_law_many"]) fun _ _ _ _ _ _ us hl => match us, hl with | [_], _ => rfl
  have g12 := PySem.W.mg_of X G a12
  have F13 := fun_mk (st := sLaw) l13 c13 k13
  have q_list := PySem.W.mg_none_of X G z1
  have q_int := PySem.W.mg_none_of X G z2
  have q_abs := PySem.W.mg_none_of X G z3
  have q_len := PySem.W.mg_none_of X G z4
  have q_range := PySem.W.mg_none_of X G z5
  have q_tuple := PySem.W.mg_none_of X G z6
  have q_sorted := PySem.W.mg_none_of X G z7
  have q_isinstance := PySem.W.mg_none_of X G z8
  have q_bool := PySem.W.mg_none_of X G z9
  have q_all := PySem.W.mg_none_of X G z10
  have q_enumerate := PySem.W.mg_none_of X G z11
  have q_repr := PySem.W.mg_none_of X G z12
  have q_MAX_LEAVES := PySem.W.mg_of X G v1
  have q_MAX_INNER := PySem.W.mg_of X G v2
  refine ⟨PySem.W.fnOf "law" "law" (defArgs sLaw) (defBody sLaw) (defScope sLaw) .none kV13 dc13 pm13 an13 cd13 ct13, fun s v => .of_eq rfl, fun base _ _ => ?_⟩
  have G9 := ok_deck (P := l.prog) (w := w) (mg := mg) (base := base) F9 q_list
  have G10 := ok_draw (P := l.prog) (w := w) (mg := mg) (base := base) F10 q_int q_abs q_len
  have G11 := ok_comb (P := l.prog) (w := w) (mg := mg) (base := base) F11 q_range q_tuple q_sorted
  have G12 := ok_fan (P := l.prog) (w := w) (mg := mg) (base := base) F12 q_range q_tuple q_sorted q_len
  have G1 := ok_isInt (P := l.prog) (w := w) (mg := mg) (base := base) F1 q_isinstance q_int q_bool
  have G2 := ok_betw (P := l.prog) (w := w) (mg := mg) (base := base) F2 F1 b1 g1 G1
  have G3 := ok_asc (P := l.prog) (w := w) (mg := mg) (base := base) F3 F2 b2 g2 q_isinstance q_tuple q_all q_range q_len G2
  have G7 := ok_root (P := l.prog) (w := w) (mg := mg) (base := base) F7 q_len
  have G6 := ok_cnt (P := l.prog) (w := w) (mg := mg) (base := base) F6 F7 b7 g7 q_range G7
  have G8 := ok_kids (P := l.prog) (w := w) (mg := mg) (base := base) F8
  have G5 := ok_link (P := l.prog) (w := w) (mg := mg) (base := base) F5 F7 b7 g7 F6 b6 g6 F8 b8 g8 q_range q_len q_all G7 G6 G8
  have G4 := ok_err (P := l.prog) (w := w) (mg := mg) (base := base) F4 F2 b2 g2 F3 b3 g3 F5 b5 g5 q_isinstance q_tuple q_len q_enumerate q_MAX_LEAVES q_MAX_INNER G2 G3 G5
  exact runs_law F13 F9 b9 g9 F10 b10 g10 F11 b11 g11 F12 b12 g12 F4 b4 g4 q_range q_repr G9 G10 G11 G12 G4
end WR
open PySem PySem.W PyProof.Rows
set_option maxHeartbeats 0 in
theorem PySem.Challenge.cw_wayrows_k03_bounds_of_webs_holds : PySem.Challenge.rw_wayrows_k03_bounds_of_webs.Holds := by
  w_on; o_law; k_head; (case hw => w_witness2)
  k_fill
  refine WR.walk_ofG (l := PySem.Challenge.rw_wayrows_k03_bounds_of_webs) (n := 63) (x := "_law_script") (sp := WR.spLaw) rfl (by decide) rfl (fun w h Y => PySem.W.kIn_of Y) ?F (fun _ _ a ns hl _ hS => ⟨a, ns, rfl, hS, hl, fun _ => rfl⟩)
  case F =>
    intro w mg fa h KX G hmg
    refine' WR.all_mk KX G hmg ?a1 ?l1 ?c1 ?k1 ?a2 ?l2 ?c2 ?k2 ?a3 ?l3 ?c3 ?k3 ?a4 ?l4 ?c4 ?k4 ?a5 ?l5 ?c5 ?k5 ?a6 ?l6 ?c6 ?k6 ?a7 ?l7 ?c7 ?k7 ?a8 ?l8 ?c8 ?k8 ?a9 ?l9 ?c9 ?k9 ?a10 ?l10 ?c10 ?k10 ?a11 ?l11 ?c11 ?k11 ?a12 ?l12 ?c12 ?k12 ?a13 ?l13 ?c13 ?k13 ?z1 ?z2 ?z3 ?z4 ?z5 ?z6 ?z7 ?z8 ?z9 ?z10 ?z11 ?z12 ?v1 ?v2
    (case a1 => k_is)
    (case l1 => k_is)
    (case c1 => k_is)
    (case k1 => k_is)
    (case a2 => k_is)
    (case l2 => k_is)
    (case c2 => k_is)
    (case k2 => k_is)
    (case a3 => k_is)
    (case l3 => k_is)
    (case c3 => k_is)
    (case k3 => k_is)
    (case a4 => k_is)
    (case l4 => k_is)
    (case c4 => k_is)
    (case k4 => k_is)
    (case a5 => k_is)
    (case l5 => k_is)
    (case c5 => k_is)
    (case k5 => k_is)
    (case a6 => k_is)
    (case l6 => k_is)
    (case c6 => k_is)
    (case k6 => k_is)
    (case a7 => k_is)
    (case l7 => k_is)
    (case c7 => k_is)
    (case k7 => k_is)
    (case a8 => k_is)
    (case l8 => k_is)
    (case c8 => k_is)
    (case k8 => k_is)
    (case a9 => k_is)
    (case l9 => k_is)
    (case c9 => k_is)
    (case k9 => k_is)
    (case a10 => k_is)
    (case l10 => k_is)
    (case c10 => k_is)
    (case k10 => k_is)
    (case a11 => k_is)
    (case l11 => k_is)
    (case c11 => k_is)
    (case k11 => k_is)
    (case a12 => k_is)
    (case l12 => k_is)
    (case c12 => k_is)
    (case k12 => k_is)
    (case a13 => k_is)
    (case l13 => k_is)
    (case c13 => k_is)
    (case k13 => k_is)
    (case z1 => k_is)
    (case z2 => k_is)
    (case z3 => k_is)
    (case z4 => k_is)
    (case z5 => k_is)
    (case z6 => k_is)
    (case z7 => k_is)
    (case z8 => k_is)
    (case z9 => k_is)
    (case z10 => k_is)
    (case z11 => k_is)
    (case z12 => k_is)
    (case v1 => k_is)
    (case v2 => k_is)
