import PyProof.Rows.All
import Wide.All
import OpenK.AllK
import Wide.FinOn
import HandS.ForMost
import HandS.ForExc
import HandS.Star
import HandS.Lambda
import HandS.IsInst
import HandS.ClsMeth
import HandS.Property
import HandS.TryMany
import HandS.RaiseMore
import HandS.Small
import HandS.FStr
import HandS.EndTab
import HandS.OwnEq
import HandS.Wide
import PyProof.ReprRoads
import PySem.Challenge.RW_rodturns_k01_rules_are_made_of_rods
set_option Elab.async false
set_option linter.all false
set_option maxRecDepth 100000
/-! Data with dicts: what repr makes of it; promises of defs that are entered while no repr runs. -/
namespace R7
open PySem PySem.Spec PyProof.Rows L2
def keyD : Key → PyData
  | .inl i => .int i
  | .inr x => .str x
mutual
/-- x is the datum d in the heap H -/
inductive Dat (H : Hp) : V → PyData → Prop
  | non : Dat H .non .none
  | bl (b : Bool) : Dat H (.bl b) (.bool b)
  | int (i : Int) : Dat H (.int i) (.int i)
  | str (x : Str) : Dat H (.str x) (.str x)
  | lst {a : Addr} {xs : List V} {ds : List PyData} : H a = some (.lst xs) → Dats H xs ds → Dat H (.ref a) (.list ds)
  | tup {a : Addr} {xs : List V} {ds : List PyData} : H a = some (.tup xs) → Dats H xs ds → Dat H (.ref a) (.tuple ds)
  | dct {a : Addr} {kvs : List (Key × V)} {ds : List PyData} : H a = some (.dK kvs) → Dats H (kvs.map (·.2)) ds → Dat H (.ref a) (.dict ((kvs.map fun p => keyD p.1).zip ds))
inductive Dats (H : Hp) : List V → List PyData → Prop
  | nil : Dats H [] []
  | cons {v : V} {vs : List V} {d : PyData} {ds : List PyData} : Dat H v d → Dats H vs ds → Dats H (v :: vs) (d :: ds)
end
theorem Dats.len {H : Hp} : ∀ {vs : List V} {ds : List PyData}, Dats H vs ds → vs.length = ds.length
  | _, _, .nil => rfl
  | _, _, .cons _ t => by rw [List.length_cons, List.length_cons, t.len]
/-- the table of loaded modules stands ahead of the call -/
def SysB (base : Heap) : Prop := ∃ o, base.get? sysModules = some o
theorem keys_read {h : Heap} {P : Program} {w : World} : ∀ {es : List DictEntry} {kvs : List (Key × V)} {vs : List (Key × Value)}, Pairs (mixKind P w) es vs → KV kvs vs →
    ReadsAll h (es.map (·.key)) (kvs.map fun p => keyD p.1) [] ∧ es.map (·.val) = vs.map (·.2)
  | _, _, _, .nil, .nil => ⟨.nil, rfl⟩
  | e :: es, p :: kvs, q :: vs, .cons hk hv t, .cons pq t' => by
    obtain ⟨e1, _⟩ := pq
    obtain ⟨r, e⟩ := keys_read (h := h) t t'
    refine ⟨?_, by rw [List.map_cons, List.map_cons, hv, e]⟩
    rcases keyIs_shape hk with ⟨i, tk, e2, e3⟩ | ⟨x, tk, e2, e3⟩
    · have : keyD p.1 = .int i := by rw [e1, e2]; rfl
      rw [List.map_cons, List.map_cons, e3, this]
      exact ReadsAll.cons (as := []) (.int i tk) r
    · have : keyD p.1 = .str x := by rw [e1, e2]; rfl
      rw [List.map_cons, List.map_cons, e3, this]
      exact ReadsAll.cons (as := []) (.str x tk) r
theorem kv_vals : ∀ {kvs : List (Key × V)} {vs : List (Key × Value)}, KV kvs vs → Vals (kvs.map (·.2)) (vs.map (·.2))
  | _, _, .nil => .nil
  | _, _, .cons ⟨_, r⟩ t => .cons r (kv_vals t)
section
variable {X : Cx} {pins : List (Addr × Obj)} {σ : L2.St} {H : Hp} {s : Shared}
mutual
theorem Dat.reads (I : Inv X pins σ H s) (Z : SysB X.base) : ∀ {d : PyData} {v : V} {u : Value}, Dat H v d → RelV v u → ∃ as, Reads s.heap u d as ∧ sysModules ∉ as
  | _, _, _, .non, r => by
    cases r
    exact ⟨_, .none, by simp⟩
  | _, _, _, .bl b, r => by
    cases r
    exact ⟨_, .bool b, by simp⟩
  | _, _, _, .int i, r => by
    obtain ⟨t, rfl⟩ := r
    exact ⟨_, .int i t, by simp⟩
  | _, _, _, .str x, r => by
    obtain ⟨t, rfl⟩ := r
    exact ⟨_, .str x t, by simp⟩
  | _, _, _, .lst (a := a) e hs, r => by
    cases r
    obtain ⟨z, its, n, rv, ho⟩ := I.hok a _ e
    obtain ⟨as, hr, na⟩ := Dats.reads I Z hs rv
    refine ⟨_, .list ho rfl rfl hr, fun m => ?_⟩
    rcases List.mem_cons.mp m with q | q
    · obtain ⟨o, ho⟩ := Z
      have := (I.bs _ _ ho).2
      rw [q, e] at this
      cases this
    · exact na q
  | _, _, _, .tup (a := a) e hs, r => by
    cases r
    obtain ⟨z, its, rv, o, ho, hc, n, hd⟩ := I.hok a _ e
    obtain ⟨as, hr, na⟩ := Dats.reads I Z hs rv
    exact ⟨_, .tuple ho hc hd hr, na⟩
  | _, _, _, .dct (a := a) (kvs := kvs) (ds := ds) e hs, r => by
    cases r
    obtain ⟨z, ns, vs, kv, o, es, ep, ho, ex, hd, _, hp, _⟩ := I.hok a _ e
    obtain ⟨r1, e1⟩ := keys_read (h := s.heap) hp kv
    obtain ⟨bs, r2, na⟩ := Dats.reads I Z hs (kv_vals kv)
    have hl : (kvs.map fun p => keyD p.1).length = ds.length := by
      rw [List.length_map, ← hs.len, List.length_map]
    refine ⟨_, .dict (as := []) (bs := bs) ho ex.1 hd (by rw [List.map_fst_zip (Nat.le_of_eq hl)]; exact r1) (by rw [List.map_snd_zip (Nat.le_of_eq hl.symm), e1]; exact r2), fun m => ?_⟩
    rcases List.mem_cons.mp m with q | q
    · exact beq_eq_false_iff_ne.mp ns q.symm
    · exact na (by simpa using q)
theorem Dats.reads (I : Inv X pins σ H s) (Z : SysB X.base) : ∀ {ds : List PyData} {vs : List V} {us : List Value}, Dats H vs ds → Vals vs us → ∃ as, ReadsAll s.heap us ds as ∧ sysModules ∉ as
  | _, _, _, .nil, .nil => ⟨_, .nil, by simp⟩
  | _, _, _, .cons h1 h2, .cons r1 r2 => by
    obtain ⟨as, q1, n1⟩ := Dat.reads I Z h1 r1
    obtain ⟨bs, q2, n2⟩ := Dats.reads I Z h2 r2
    exact ⟨_, .cons q1 q2, fun m => (List.mem_append.mp m).elim n1 n2⟩
end
/-- repr(x) of data, while no repr runs -/
def rRep : List V → Hp → VK → Prop := fun xs H Q => ∃ x d, xs = [x] ∧ Dat H x d ∧ d.showable = true ∧ d.shown.length ≤ sizeLine ∧ d.depth ≤ 20 ∧ Q (.str d.shown) H
theorem call_rep (Z : SysB X.base) (hg : X.A.guards = some []) (hu : X.A.units + 64 < cLine) : CallR X (.builtin "repr") rRep := by
  intro pins s σ H xs us Q I r h
  obtain ⟨x, d, rfl, hd, hs, hz, hdp, q⟩ := h
  obtain ⟨u, rfl, rx⟩ := vals1 r
  have fin : ∀ (h' : Heap) (t : Tok) (tk : Nat), (∀ b o, s.heap.get? b = some o → h'.get? b = some o) → EP X pins σ Q (.str d.shown t) { s with heap := h', toks := tk } := fun h' t tk hk => ⟨.str d.shown, H, I.kept hk, ⟨t, rfl⟩, q⟩
  have rd := hd.reads I Z rx
  have big : ∀ a, u = .ref a → wpAny (model X.prog X.w) X.A (call (.builtin "repr") [u]) (EP X pins σ Q) X.xe s := fun a e => by
    subst e
    obtain ⟨as, rd, na⟩ := rd
    exact repr_of_reads' rd hs (fun _ => na) hg (by omega) (fun _ _ e => e) (fun h' t tk hk => fin h' t tk hk) hz
  cases hd with
  | non =>
    cases rx
    simp only [PyData.shown] at fin ⊢
    exact PySem.P.repr_of_none (fin s.heap _ _ fun _ _ e => e)
  | bl b =>
    cases rx
    simp only [PyData.shown] at fin ⊢
    exact PySem.P.repr_of_bool (fin s.heap _ _ fun _ _ e => e)
  | int i =>
    obtain ⟨t, rfl⟩ := rx
    simp only [PyData.shown] at fin ⊢
    exact PySem.P.repr_of_int (by simpa [PyData.showable] using hs) (fin s.heap _ _ fun _ _ e => e)
  | str x =>
    obtain ⟨t, rfl⟩ := rx
    simp only [PyData.shown] at fin hz ⊢
    exact PySem.P.repr_of_str (fin s.heap _ _ fun _ _ e => e) hz
  | lst _ _ => exact big _ rx
  | tup _ _ => exact big _ rx
  | dct _ _ => exact big _ rx
end
/-! ### defs that are entered while no repr runs -/
structure FnG (P : Program) (w : World) (K : PySem.W.Frag) (mg : Str → Option Value) (base : Heap) (CX : CXT) (k : Nat) (f : Addr) (fd : FuncData) (ps : List Str) (sp : Sp) : Prop where
  len : ∀ vs H Q E, sp vs H Q E → vs.length = ps.length
  go : ∀ (A : Around) (outer : List Env) (s : Shared) (H : Hp) (args : Args) (us : List Value) (vs : List V) (Q : VK) (E : XK), A.guards = some [] → Room k A → Env0 P w K mg base A outer s H →
    BindsTo s fd args (ps.zip us) → Vals vs us → sp vs H Q E → codeAny (model P w) A (.call (.ref f) args) (CR CX outer P w H s Q E) s
section
variable {P : Program} {w : World} {K : PySem.W.Frag} {mg : Str → Option Value} {base : Heap}
theorem fun_okG {CX : CXT} {x qual : Str} {st : Stmt} {f : Addr} {fd : FuncData} {N ps : List Str} {k : Nat} {sp : Sp} (F : Fun K x qual st f fd) (S : FnScope N ps (defScope st)) (len : ∀ vs H Q E, sp vs H Q E → vs.length = ps.length)
    (hb : ∀ (cdv : Value) (A : Around) (outer : List Env) (s : Shared) (H : Hp) (vs : List V) (Q : VK) (E : XK), A.guards = some [] → PySem.W.codeIn K cdv qual = true → Room k (A.deeper (envOfC qual (defScope st) s.heap.objs.size f cdv)) → sp vs H Q E →
      ∃ t, PSs (cxOf CX P w K mg base N qual (defScope st) f cdv A outer s H E) (defBody st) t ∧ t { nx := fun _ H' => Q .non H', rt := Q } (start N vs) H) : FnG P w K mg base CX (k + 1) f fd ps sp := by
  obtain ⟨oc, od, kV, doc, pm, an, cdv, ct, osl, rfl, lk, hcd⟩ := F.ex
  refine ⟨len, fun A outer s H args us vs Q E hg hr e0 hbd r h => ?_⟩
  exact LamX.run_ofS lk hcd S hr e0 hbd r (len _ _ _ _ h) fun hr' => hb cdv A outer s H vs Q E hg hcd hr' h
end
/-- f(e, ..) -/
def tCallG (sp : Sp) (E : XK) (t : TA) : TE := fun σ H Q => t σ H fun vs H1 => sp vs H1 Q E
section
variable {X : Cx} {CX : CXT} {k : Nat} {f : Addr} {fd : FuncData} {ps : List Str} {sp : Sp} {dvs : List V} {ds : List Value} {E : XK} {x : Str} {p pos : Pos} {e : Expr} {es : List Expr} {t : TA}
/-- f(e, ..), f a def of that kind -/
theorem pe_callG (F : FnG X.prog X.w X.K X.mg X.base CX k f fd ps sp) (hgd : X.A.guards = some []) (hr : Room k X.A) (hg : Gl X x) (hm : X.mg x = some (.ref f)) (hk : PySem.W.keepIn X.K (.ref f) = true) (hb : Binds X.K fd ps [])
    (hx : Passes CX X E) (ha : PA X (e :: es) t) (hdb : (x == ("__debug__" : Str)) = false := by decide) (he : starEach (e :: es) X.env = (false, eval e X.env) :: starEach es X.env := by rfl)
    (hpl : (backTo pos (starEach es X.env)).any (·.1) = false := by rfl) : PE X (.Call (.Name x p) (e :: es) [] pos) (tCallG sp E t) := by
  constructor
  intro pins s σ H Q I h
  apply wpAny_Call_Name_kw
  refine ld_glob I hg hm ?_ hdb
  refine PySem.W.callWith_K (h₀ := X.base) I.ok.mod.kin hk ?_ he hpl
  refine thn (ha.run pos pins s σ H _ I h) fun us s1 z => ?_
  obtain ⟨vs, H1, J, r, q⟩ := z
  have hl : (us ++ []).length = ps.length := by rw [List.append_nil, ← r.length]; exact F.len _ _ _ _ q
  refine ⟨J.kIn, wpAny_call (codeAny_mono (F.go X.A X.stack s1 H1 ⟨us, []⟩ us vs Q E hgd hr J.env0 ?_ r q) fun res s2 hq => ?_)⟩
  · have := hb s1 us J.kIn hl
    rwa [List.append_nil] at this
  · cases res with
    | error e => exact hx pins σ H1 s1 e s2 J hq
    | ok fl =>
      cases fl with
      | ret u => exact J.after hq
      | next => exact hq.elim
      | brk => exact hq.elim
      | cont => exact hq.elim
end
end R7
namespace R7
open PySem PySem.Spec PyProof.Rows L2
def top (i : Nat) : Stmt := PySem.Challenge.pw_rodturns_k01_rules_are_made_of_rods.main.body.getD i (.Pass ⟨0, 0, 0, 0⟩)
abbrev sCell : Stmt := top 15
abbrev sSource : Stmt := top 16
abbrev sDraw : Stmt := top 17
abbrev sChoose : Stmt := top 18
abbrev sEqual : Stmt := top 19
/-- what stands anywhere but at p stands as before -/
def But (p : Addr) (H H' : Hp) : Prop := ∀ q, q ≠ p → H' q = H q
/-- the source of the draws at p -/
def Src (H : Hp) (p : Addr) : Prop := ∃ a b c : Int, H p = some (.lst [.int a, .int b, .int c])
structure TxtH (K : PySem.W.Frag) (mg : Str → Option Value) : Prop where
  len : mg "len" = none
  max : mg "max" = none
def spCell (K : PySem.W.Frag) : Sp := fun vs H Q _ => ∃ (a : Addr) (ns : List Int) (j : Int), vs = [.ref a, .int j] ∧ SqL K H a (ns.map V.int) ∧ 0 ≤ j ∧ ∀ z : Int, Q (.int z) H
def spSource : Sp := fun vs H Q _ => ∃ n : Int, vs = [.int n] ∧ ∀ (p : Addr) (H' : Hp), H p = none → But p H H' → Src H' p → Q (.ref p) H'
def spDraw : Sp := fun vs H Q _ => ∃ (p : Addr) (m : Int), vs = [.ref p, .int m] ∧ Src H p ∧ 0 < m ∧ m < 1073741824 ∧ ∀ (r : Int) (H' : Hp), 0 ≤ r → r < m → But p H H' → Src H' p → Q (.int r) H'
def spChoose : Sp := fun vs H Q _ => ∃ (p l : Addr) (xs : List V), vs = [.ref p, .ref l] ∧ Src H p ∧ l ≠ p ∧ H l = some (.lst xs) ∧ 0 < xs.length ∧ xs.length < 1000000 ∧ ∀ (x : V) (H' : Hp), x ∈ xs → But p H H' → Src H' p → Q x H'
section
variable {P : Program} {w : World} {K : PySem.W.Frag} {mg : Str → Option Value} {base : Heap}
theorem scCell : FnScope ["_law_script", "_law_index"] ["_law_script", "_law_index"] (defScope sCell) := ⟨rfl, rfl, rfl, by decide +kernel, rfl, by decide +kernel, by decide +kernel⟩
theorem iteB {c : Bool} {A B : Prop} (h1 : c = true → A) (h2 : c = false → B) : if c = true then A else B := by
  cases c with
  | true => exact iteT (h1 rfl)
  | false => exact iteF (h2 rfl)
theorem iteD {c A B : Prop} [Decidable c] (h1 : c → A) (h2 : ¬ c → B) : if decide c = true then A else B := by
  by_cases h : c
  · rw [decide_eq_true h]
    exact iteT (h1 h)
  · rw [decide_eq_false h]
    exact iteF (h2 h)
theorem ints_at {ns : List Int} {j : Int} (h0 : 0 ≤ j) (h1 : j < ((ns.map V.int).length : Int)) : ∃ z : Int, atI (ns.map V.int) j = some (.int z) := by
  rw [List.length_map] at h1
  obtain ⟨i, rfl⟩ : ∃ i : Nat, j = (i : Int) := ⟨j.toNat, by omega⟩
  have hj : i < ns.length := by omega
  exact ⟨ns[i], atI_nat (by rw [List.getElem?_map, List.getElem?_eq_getElem hj]; rfl)⟩
theorem ok_cell {f : Addr} {fd : FuncData} (F : Fun K "_law_cell" "_law_cell" sCell f fd) (T : TxtH K mg) : FnOk P w K mg base CX0 1 f fd ["_law_script", "_law_index"] (spCell K) := by
  refine F.ok scCell (fun vs H Q E h => ?_) (fun cdv A outer s H vs Q E hr h => ?_)
  · obtain ⟨a, ns, j, rfl, _⟩ := h
    rfl
  · obtain ⟨a, ns, j, rfl, hs, hj, q⟩ := h
    refine ⟨_, pss_cons (ps_if (pt_cmpR op_lt (pv 1) (pe_callB call_len_seq (by rfl) T.len PySem.boot_len (pa_cons (pv 0) pa_nil)) (nomark _)) (pss_one (ps_ret (pe_ix ix_list (pv 0) (pv 1) (fun _ _ => rfl)))) pss_nil) (pss_one (ps_ret pe_int)), ?_⟩
    refine ⟨_, rfl, _, rfl, a, _, rfl, .inl hs, _, _, rfl, rfl, _, rfl, ?_⟩
    refine iteD (fun hl => ?_) fun _ => q 0
    obtain ⟨z, hz⟩ := ints_at hj hl
    exact ⟨_, rfl, _, rfl, a, _, j, _, rfl, rfl, hs, hz, q z⟩
theorem scSource : FnScope ["_law_cell_here"] ["_law_cell_here"] (defScope sSource) := ⟨rfl, rfl, rfl, by decide +kernel, rfl, by decide +kernel, by decide +kernel⟩
theorem ok_source {f : Addr} {fd : FuncData} (F : Fun K "_law_source" "_law_source" sSource f fd) (T : TxtH K mg) : FnOk P w K mg base CX0 1 f fd ["_law_cell_here"] spSource := by
  refine F.ok scSource (fun vs H Q E h => ?_) (fun cdv A outer s H vs Q E hr h => ?_)
  · obtain ⟨n, rfl, _⟩ := h
    rfl
  · obtain ⟨n, rfl, q⟩ := h
    refine ⟨_, pss_one (ps_ret (pe_lst (pa_cons (pe_callB (call_max2 rfl) (by rfl) T.max (by decide +kernel) (pa_cons pe_int (pa_cons (pe_op op_sub (pv 0) (pe_op op_pow pe_int pe_int)) pa_nil))) (pa_cons (pe_op op_add (pe_op op_mod (pv 0) pe_int) pe_int) (pa_cons pe_int pa_nil))))), ?_⟩
    refine ⟨_, rfl, _, _, rfl, rfl, ⟨by decide, by decide, by decide +kernel⟩, _, _, rfl, rfl, _, _, rfl, ?_⟩
    refine ⟨_, rfl, _, _, rfl, rfl, (by show (0 : Int) < 2147483629; decide), _, _, rfl, rfl, (by show 3 ≤ sizeLine; decide), fun p hp => ?_⟩
    exact q p _ hp (fun b hb => upd_ne hb) ⟨_, _, _, upd_same⟩
theorem scDraw : FnScope ["_law_source_here", "_law_many", "_law_found", "_law_mixed"] ["_law_source_here", "_law_many"] (defScope sDraw) := ⟨rfl, rfl, rfl, by decide +kernel, rfl, by decide +kernel, by decide +kernel⟩
theorem ok_draw {f : Addr} {fd : FuncData} (F : Fun K "_law_draw" "_law_draw" sDraw f fd) : FnOk P w K mg base CX0 1 f fd ["_law_source_here", "_law_many"] spDraw := by
  refine F.ok scDraw (fun vs H Q E h => ?_) (fun cdv A outer s H vs Q E hr h => ?_)
  · obtain ⟨p, m, rfl, _⟩ := h
    rfl
  · obtain ⟨p, m, rfl, ⟨a, b, c, hp⟩, m0, m1, q⟩ := h
    refine ⟨_, pss_cons (ps_if (pt_cmpR op_gt (pe_ix ix_list (pv 0) pe_int (fun _ _ => rfl)) pe_int (nomark _))
        (pss_cons (ps_set (i := 2) scDraw.nd rfl (.inl rfl) (pe_op op_mod (pe_ix ix_list (pv 0) pe_int (fun _ _ => rfl)) (pv 1)))
        (pss_cons (ps_asg (pe_op op_fdiv (pe_ix ix_list (pv 0) pe_int (fun _ _ => rfl)) (pv 1)) (pg_sub (pv 0) pe_int set_list))
        (pss_one (ps_ret (pv 2))))) pss_nil)
      (pss_cons (ps_asg (pe_op op_add (pe_ix ix_list (pv 0) pe_int (fun _ _ => rfl)) pe_int) (pg_sub (pv 0) pe_int set_list))
      (pss_cons (ps_asg (pe_op op_mod (pe_op op_add (pe_op op_add (pe_op op_mul (pe_ix ix_list (pv 0) pe_int (fun _ _ => rfl)) pe_int) (pe_op op_mul pe_int (pe_ix ix_list (pv 0) pe_int (fun _ _ => rfl)))) pe_int) pe_int) (pg_sub (pv 0) pe_int set_list))
      (pss_cons (ps_set (i := 3) scDraw.nd rfl (.inl rfl) (pe_op op_mod (pe_op op_add (pe_op op_add (pe_op op_mul (pe_ix ix_list (pv 0) pe_int (fun _ _ => rfl)) (pe_ix ix_list (pv 0) pe_int (fun _ _ => rfl))) (pe_op op_mul pe_int (pe_ix ix_list (pv 0) pe_int (fun _ _ => rfl)))) pe_int) pe_int))
      (pss_cons (ps_set (i := 3) scDraw.nd rfl (.inl rfl) (pe_op op_mod (pe_op op_add (pe_op op_mul (pv 3) (pv 3)) (pe_op op_mul pe_int (pv 3))) pe_int))
      (pss_one (ps_ret (pe_op op_mod (pe_op op_fdiv (pv 3) pe_int) (pv 1)))))))), ?_⟩
    refine ⟨_, rfl, p, _, _, _, rfl, rfl, .inl (.inl hp), rfl, _, _, rfl, rfl, _, rfl, ?_⟩
    refine iteD (fun ha => ?_) fun ha => ?_
    · refine ⟨_, rfl, p, _, _, _, rfl, rfl, .inl (.inl hp), rfl, _, rfl, _, _, rfl, rfl, m0, ?_⟩
      refine ⟨_, rfl, p, _, _, _, rfl, rfl, .inl (.inl hp), rfl, _, rfl, _, _, rfl, rfl, ⟨m0, m1⟩, _, rfl, p, _, _, _, rfl, rfl, hp, rfl, ?_⟩
      exact ⟨_, rfl, q _ _ (Int.emod_nonneg _ (by omega)) (Int.emod_lt_of_pos _ m0) (fun d hd => upd_ne hd) ⟨_, _, _, upd_same⟩⟩
    · refine ⟨_, rfl, p, _, _, _, rfl, rfl, .inl (.inl hp), rfl, _, _, rfl, rfl, _, rfl, p, _, _, _, rfl, rfl, hp, rfl, ?_⟩
      have h1 : upd H p (.lst [.int a, .int b, .int (c + 1)]) p = some (.lst [.int a, .int b, .int (c + 1)]) := upd_same
      refine ⟨_, rfl, p, _, _, _, rfl, rfl, .inl (.inl h1), rfl, _, _, rfl, rfl, .inr ⟨by decide, by decide⟩, _, rfl, p, _, _, _, rfl, rfl, .inl (.inl h1), rfl, _, _, rfl, rfl, .inl ⟨by decide, by decide⟩, _, _, rfl, rfl, _, _, rfl, rfl, _, _, rfl, rfl, (by show (0 : Int) < 2147483647; decide), _, rfl, p, _, _, _, rfl, rfl, h1, rfl, ?_⟩
      have v0 := Int.emod_nonneg (b * 48271 + 1009 * (c + 1) + 7) (show (2147483647 : Int) ≠ 0 by decide)
      have v1 := Int.emod_lt_of_pos (b * 48271 + 1009 * (c + 1) + 7) (show (0 : Int) < 2147483647 by decide)
      show (tSeq _ _) _ _ (upd _ p (.lst [.int a, .int ((b * 48271 + 1009 * (c + 1) + 7) % 2147483647), .int (c + 1)]))
      generalize (b * 48271 + 1009 * (c + 1) + 7) % 2147483647 = v at v0 v1 ⊢
      have o2 : ∀ X Y, But p H (upd (upd H p X) p Y) := fun X Y d hd => (upd_ne hd).trans (upd_ne hd)
      refine ⟨_, rfl, p, _, _, _, rfl, rfl, .inl (.inl upd_same), rfl, _, rfl, p, _, _, _, rfl, rfl, .inl (.inl upd_same), rfl, _, _, rfl, rfl, .inl ⟨by omega, by omega⟩, _, rfl, p, _, _, _, rfl, rfl, .inl (.inl upd_same), rfl, _, _, rfl, rfl, .inl ⟨by decide, by decide⟩, _, _, rfl, rfl, _, _, rfl, rfl, _, _, rfl, rfl, (by show (0 : Int) < 2147483629; decide), ?_⟩
      have u0 := Int.emod_nonneg (v * v + 69621 * v + 11) (show (2147483629 : Int) ≠ 0 by decide)
      have u1 := Int.emod_lt_of_pos (v * v + 69621 * v + 11) (show (0 : Int) < 2147483629 by decide)
      refine ⟨_, rfl, _, rfl, _, _, rfl, rfl, .inl ⟨by show -(2 ^ 64) < (v * v + 69621 * v + 11) % 2147483629; omega, by show (v * v + 69621 * v + 11) % 2147483629 < 2 ^ 64; omega⟩, _, rfl, _, _, rfl, rfl, .inl ⟨by decide, by decide⟩, _, _, rfl, rfl, _, _, rfl, rfl, (by show (0 : Int) < 2147483587; decide), ?_⟩
      refine ⟨_, rfl, _, _, rfl, rfl, ⟨by decide, by decide⟩, _, rfl, _, _, rfl, rfl, m0, ?_⟩
      exact q _ _ (Int.emod_nonneg _ (by omega)) (Int.emod_lt_of_pos _ m0) (o2 _ _) ⟨_, _, _, upd_same⟩
theorem scChoose : FnScope ["_law_source_here", "_law_values"] ["_law_source_here", "_law_values"] (defScope sChoose) := ⟨rfl, rfl, rfl, by decide +kernel, rfl, by decide +kernel, by decide +kernel⟩
theorem ok_choose {f fD : Addr} {fd fdD : FuncData} (F : Fun K "_law_choose" "_law_choose" sChoose f fd) (T : TxtH K mg) (FD : FnOk P w K mg base CX0 1 fD fdD ["_law_source_here", "_law_many"] spDraw) (bD : Binds K fdD ["_law_source_here", "_law_many"] [])
    (mD : mg "_law_draw" = some (.ref fD)) (kD : PySem.W.keepIn K (.ref fD) = true) : FnOk P w K mg base CX0 2 f fd ["_law_source_here", "_law_values"] spChoose := by
  refine F.ok scChoose (fun vs H Q E h => ?_) (fun cdv A outer s H vs Q E hr h => ?_)
  · obtain ⟨p, l, xs, rfl, _⟩ := h
    rfl
  · obtain ⟨p, l, xs, rfl, hs, hne, hl, l0, l1, q⟩ := h
    refine ⟨_, pss_one (ps_ret (pe_ix ix_list (pv 1) (pe_call FD hr (by rfl) mD kD bD .nil pass0 (pa_cons (pv 0) (pa_cons (pe_callB call_len_seq (by rfl) T.len PySem.boot_len (pa_cons (pv 1) pa_nil)) pa_nil))) (fun _ _ => rfl))), ?_⟩
    refine ⟨_, rfl, _, rfl, _, rfl, l, xs, rfl, .inl (.inl (.inl hl)), ?_⟩
    refine ⟨p, (xs.length : Int), rfl, hs, by omega, by omega, fun r H' r0 r1 ho hs' => ?_⟩
    obtain ⟨i, rfl⟩ : ∃ i : Nat, r = (i : Int) := ⟨r.toNat, by omega⟩
    have hi : i < xs.length := by omega
    exact ⟨l, xs, (i : Int), _, rfl, rfl, .inl (.inl ((ho l hne).trans hl)), atI_nat (List.getElem?_eq_getElem hi), q _ _ (List.getElem_mem hi) ho hs'⟩
end
end R7
namespace R7
open PySem PySem.Spec PyProof.Rows L2
abbrev sIsInt : Stmt := top 6
abbrev sRule : Stmt := top 8
abbrev sInit : Stmt := inClass sRule 2
abbrev sRods : Stmt := inClass sRule 3
abbrev sTotal : Stmt := inClass sRule 4
abbrev sOpts : Stmt := inClass sRule 6
abbrev sIsRod : Stmt := inClass sRule 7
/-! ### kinds of values -/
def isI : V → Bool
  | .int _ => true
  | _ => false
def isB : V → Bool
  | .bl _ => true
  | _ => false
/-- a length of a rod -/
def isLen : V → Bool
  | .int i => decide (1 ≤ i) && decide (i ≤ 40)
  | _ => false
/-- what a value may be: none of the program's objects -/
inductive Flat (H : Hp) : V → Prop
  | non : Flat H .non
  | bl (b : Bool) : Flat H (.bl b)
  | int (i : Int) : Flat H (.int i)
  | str (x : Str) : Flat H (.str x)
  | lst {a : Addr} {xs : List V} : H a = some (.lst xs) → Flat H (.ref a)
  | tup {a : Addr} {xs : List V} : H a = some (.tup xs) → Flat H (.ref a)
  | dct {a : Addr} {kvs : List (Key × V)} : H a = some (.dK kvs) → Flat H (.ref a)
theorem Flat.of_dat {H : Hp} {x : V} {d : PyData} (h : Dat H x d) : Flat H x := by
  cases h with
  | non => exact .non
  | bl b => exact .bl b
  | int i => exact .int i
  | str x => exact .str x
  | lst e _ => exact .lst e
  | tup e _ => exact .tup e
  | dct e _ => exact .dct e
theorem Flat.ty {K : PySem.W.Frag} {H : Hp} {x : V} (h : Flat H x) : ∃ t, TyX K H x t ∧ PySem.W.kitOne K t (.type "int") = some (isI x || isB x) ∧ PySem.W.kitOne K t (.type "bool") = some (isB x) := by
  cases h with
  | non => exact ⟨_, .base .non, kit_ty (r := false) (by decide +kernel), kit_ty (r := false) (by decide +kernel)⟩
  | bl b => exact ⟨_, .base (.bl b), kit_ty (r := true) (by decide +kernel), kit_ty (r := true) (by decide +kernel)⟩
  | int i => exact ⟨_, .base (.int i), kit_ty (r := true) (by decide +kernel), kit_ty (r := false) (by decide +kernel)⟩
  | str x => exact ⟨_, .base (.str x), kit_ty (r := false) (by decide +kernel), kit_ty (r := false) (by decide +kernel)⟩
  | lst e => exact ⟨_, .base (.lst e), kit_ty (r := false) (by decide +kernel), kit_ty (r := false) (by decide +kernel)⟩
  | tup e => exact ⟨_, .base (.tup e), kit_ty (r := false) (by decide +kernel), kit_ty (r := false) (by decide +kernel)⟩
  | dct e => exact ⟨_, .base (.dK e), kit_ty (r := false) (by decide +kernel), kit_ty (r := false) (by decide +kernel)⟩
theorem Flat.keep {H H' : Hp} {x : V} (h : Flat H x) (k : ∀ b o, H b = some o → H' b = some o) : Flat H' x := by
  cases h with
  | non => exact .non
  | bl b => exact .bl b
  | int i => exact .int i
  | str x => exact .str x
  | lst e => exact .lst (k _ _ e)
  | tup e => exact .tup (k _ _ e)
  | dct e => exact .dct (k _ _ e)
theorem of_isI {x : V} (h : isI x = true) : ∃ i, x = .int i := by
  cases x <;> first | exact ⟨_, rfl⟩ | cases h
theorem of_isLen {x : V} (h : isLen x = true) : ∃ i : Int, x = .int i ∧ 1 ≤ i ∧ i ≤ 40 := by
  cases x with
  | int i => simp [isLen] at h; exact ⟨i, rfl, h⟩
  | _ => cases h
/-! ### a static method called off its class -/
structure SMet (K : PySem.W.Frag) (C : Addr) (mc : Value) (m : Str) (p g : Addr) : Prop where
  at_ : PySem.W.findCls K (.ref C) mc m = some (.get (.builtin "staticmethod.__get__") (.ref p) .none (.ref C))
  rc : ∃ rest, PySem.W.recIn K p "staticmethod" = some (.ref g :: rest)
  kp : PySem.W.keepIn K (.ref g) = true
/-- C.m(e, ..) -/
def tSMeth (C : Addr) (sp : Sp) (E : XK) (ta : TE) (t : TA) : TE := fun σ H Q => ta σ H fun x H1 => x = .ref C ∧ t σ H1 fun vs H2 => sp vs H2 Q E
section
variable {X : Cx} {CX : CXT} {k : Nat} {C p g : Addr} {mc : Value} {fd : FuncData} {ps : List Str} {sp : Sp} {E : XK} {o e : Expr} {es : List Expr} {m : Str} {pos apos : Pos} {ta : TE} {t : TA} {pl : Sem Bool}
theorem pe_smeth (he : PE X o ta) (r : ClX.CRead X.K C mc) (c : SMet X.K C mc m p g) (F : FnOk X.prog X.w X.K X.mg X.base CX k g fd ps sp) (hr : Room k X.A) (hb : Binds X.K fd ps []) (hx : Passes CX X E) (ha : PA X (e :: es) t)
    (hst : starEach (e :: es) X.env = (false, eval e X.env) :: starEach es X.env := by rfl) (hpl : (backTo pos (starEach es X.env)).any (·.1) = false := by rfl)
    (ht : eval (.Call (.Attribute o m apos) (e :: es) [] pos) X.env = (do
      let ov ← eval o X.env
      standAt apos.atName
      let (f, first) ← holding [ov] (getMethod ov m pl)
      callWith pos f first (backTo pos (starEach (e :: es) X.env)) (backToKw pos (keywordEach [] X.env))) := by rfl) :
    PE X (.Call (.Attribute o m apos) (e :: es) [] pos) (tSMeth C sp E ta t) := by
  constructor
  intro pins s σ H Q I h
  refine PySem.W.methodCall_KW (pl := pl) (thn (he.run pins s σ H _ I h) fun u s1 z => ?_) ht
  obtain ⟨x, H1, J, rx, ex, q⟩ := z
  subst ex
  obtain rfl : u = Value.ref C := rx
  obtain ⟨rest, hp⟩ := c.rc
  refine PySem.W.method_cls J.kIn r.ga ?_
  refine PySem.W.cls_bind J.kIn r.rd c.at_ (wpAny_call ?_)
  refine PySem.W.sm_get (s := { s1 with toks := s1.toks + 1 }) J.kIn hp (PySem.W.handed_on rfl ?_)
  have J2 : Inv X pins σ H1 { s1 with toks := s1.toks + 1 } := J.tok _
  refine PySem.W.callWith_K (first := []) (h₀ := X.base) I.ok.mod.kin c.kp ?_ hst hpl
  refine thn (ha.run pos pins _ σ H1 _ J2 q) fun us s3 z => ?_
  obtain ⟨vs, H3, J3, r3, q3⟩ := z
  exact ⟨J3.kIn, run_fn F hr hb .nil hx J3 r3 (by rw [List.append_nil]; exact q3)⟩
end
/-! ### the program -/
structure TxtP (K : PySem.W.Frag) (mg : Str → Option Value) (CR CE pR aR aI : Addr) (mc : Value) : Prop where
  len : mg "len" = none
  isi : mg "isinstance" = none
  int : mg "int" = none
  bool : mg "bool" = none
  all : mg "all" = none
  list : mg "list" = none
  sum : mg "sum" = none
  gR : mg "Rule" = some (.ref CR)
  gE : mg "RodsError" = some (.ref CE)
  gI : mg "is_integer" = some (.ref aI)
  kI : PySem.W.keepIn K (.ref aI) = true
  rd : ClX.CRead K CR mc
  cR : ∃ u, ClX.CVal K CR mc "MOST_RODS" (.int 12) u
  cL : ∃ u, ClX.CVal K CR mc "MOST_LENGTH" (.int 40) u
  sm : SMet K CR mc "is_rod" pR aR
  cl : Cls K CR
  nF : NoAttr K CR "_rods"
  xE : PySem.W.excIn K CE [.type "ValueError", .type "Exception", .type "BaseException", .type "object"] "ValueError.__new__" = true
  kE : PySem.W.keepIn K (.ref CE) = true
  bE : PySem.W.subIn K (.ref CE) (.type "BaseException") = some true
  tE : PySem.W.typeIn K (.ref CE) = some (.type "type")
def spIsInt : Sp := fun vs H Q _ => ∃ x, vs = [x] ∧ Flat H x ∧ Q (.bl (isI x)) H
def spIsRod : Sp := fun vs H Q _ => ∃ x, vs = [x] ∧ Flat H x ∧ Q (.bl (isLen x)) H
section
variable {P : Program} {w : World} {K : PySem.W.Frag} {mg : Str → Option Value} {base : Heap} {CR CE pR aR aI : Addr} {mc : Value}
theorem scIsInt : FnScope ["thing"] ["thing"] (defScope sIsInt) := ⟨rfl, rfl, rfl, by decide +kernel, rfl, by decide +kernel, by decide +kernel⟩
theorem ok_isInt {f : Addr} {fd : FuncData} (F : Fun K "is_integer" "is_integer" sIsInt f fd) (T : TxtP K mg CR CE pR aR aI mc) : FnOk P w K mg base CX0 1 f fd ["thing"] spIsInt := by
  refine F.ok scIsInt (fun vs H Q E h => ?_) (fun cdv A outer s H vs Q E hr h => ?_)
  · obtain ⟨x, rfl, _⟩ := h
    rfl
  · obtain ⟨x, rfl, hf, q⟩ := h
    refine ⟨_, pss_one (ps_ret (pe_and (pe_callB call_isi (by rfl) T.isi (by decide +kernel) (pa_cons (pv 0) (pa_cons (pe_bltn (v := .ty "int") (by rfl) T.int (by decide +kernel) rfl) pa_nil)))
      (pe_one (pe_not (pe_callB call_isi (by rfl) T.isi (by decide +kernel) (pa_cons (pv 0) (pa_cons (pe_bltn (v := .ty "bool") (by rfl) T.bool (by decide +kernel) rfl) pa_nil))))))), ?_⟩
    obtain ⟨t, ht, k1, k2⟩ := hf.ty (K := K)
    refine ⟨_, rfl, x, _, t, _, _, rfl, .ty "int", ht, k1, _, rfl, ?_⟩
    refine iteB (fun e => ?_) fun e => ?_
    · refine ⟨_, rfl, x, _, t, _, _, rfl, .ty "bool", ht, k2, _, rfl, ?_⟩
      have : (!isB x) = isI x := by cases x <;> simp_all [isI, isB]
      rw [this]
      exact q
    · have : isI x = false := by cases x <;> simp_all [isI, isB]
      rw [this] at q
      exact q
theorem scIsRod : FnScope ["thing"] ["thing"] (defScope sIsRod) := ⟨rfl, rfl, rfl, by decide +kernel, rfl, by decide +kernel, by decide +kernel⟩
theorem ok_isRod {f : Addr} {fd fdI : FuncData} (F : Fun K "is_rod" "Rule.is_rod" sIsRod f fd) (T : TxtP K mg CR CE pR aR aI mc) (FI : FnOk P w K mg base CX0 1 aI fdI ["thing"] spIsInt) (bI : Binds K fdI ["thing"] []) : FnOk P w K mg base CX0 2 f fd ["thing"] spIsRod := by
  refine F.ok scIsRod (fun vs H Q E h => ?_) (fun cdv A outer s H vs Q E hr h => ?_)
  · obtain ⟨x, rfl, _⟩ := h
    rfl
  · obtain ⟨x, rfl, hf, q⟩ := h
    refine ⟨_, pss_one (ps_ret (pe_and (pe_call FI hr (by rfl) T.gI T.kI bI .nil pass0 (pa_cons (pv 0) pa_nil)) (pe_one (pe_chain op_le op_le pe_int (pv 0) (ClX.pe_cval (pe_glob (v := .ref CR) rfl T.gR rfl)))))), ?_⟩
    refine ⟨_, rfl, x, rfl, hf, _, rfl, ?_⟩
    refine iteB (fun e => ?_) fun e => ?_
    · obtain ⟨i, rfl⟩ := of_isI e
      refine ⟨_, rfl, _, _, rfl, rfl, _, rfl, ?_⟩
      obtain ⟨u, hu⟩ := T.cL
      have e0 : isLen (.int i) = (decide (1 ≤ i) && decide (i ≤ 40)) := rfl
      rw [e0] at q
      refine iteD (fun h1 => ?_) fun h1 => ?_
      · refine ⟨CR, mc, _, u, rfl, T.rd, hu, _, _, rfl, rfl, ?_⟩
        rw [decide_eq_true h1, Bool.true_and] at q
        exact q
      · rw [decide_eq_false h1, Bool.false_and] at q
        exact q
    · have : isLen x = false := by cases x <;> simp_all [isI, isLen]
      rw [this] at q
      exact q
end
end R7
namespace R7
open PySem PySem.Spec PyProof.Rows L2
/-! ### sum of a tuple of ints -/
section
variable {prog : Program} {w : World} {A : Around} {E : Value → Shared → Prop} {s : Shared}
theorem sum_tup {l : Addr} {xs : Array (Int × Tok)} {Q : Value → Shared → Prop} (hh : A.handled = none) (hl : s.heap.IsTuple l (intItems xs))
    (h : ∀ h' tk t', (∀ b o, s.heap.get? b = some o → h'.get? b = some o) → Q (.int (preSum (numAt xs) xs.size) t') { s with heap := h', toks := tk }) : wpAny (model prog w) A (call (.builtin "sum") [.ref l]) Q E s := by
  have lt : l < s.heap.objs.size := by
    obtain ⟨_, e, _⟩ := hl
    exact Heap.lt_size e
  apply call_sum_walkG
  apply wpAny_pyIter_tuple hl
  refine ⟨_, _, _, _, _, _, numAt xs, rfl, Walks.tuple (A := A.in1) hh _ l (Nat.ne_of_lt lt) (intItems xs), ⟨⟨_, Heap.get?_push_size _ rfl, rfl, rfl⟩, hl.push _⟩, fun b hb => ?_, fun _ _ => intItems_at, fun h' tk t' hk => ?_⟩
  · show b < (s.heap.push _).objs.size
    rw [Heap.size_push]
    rcases List.mem_cons.mp hb with e | hb
    · rw [e]
      exact Nat.lt_succ_self _
    · rw [List.mem_singleton.mp hb]
      exact Nat.lt_succ_of_lt lt
  · have z := h h' tk t' fun b o e => hk b o (fun m => by
      rw [List.mem_singleton.mp m] at e
      exact absurd (Heap.lt_size e) (Nat.lt_irrefl _)) (Heap.get?_push_of_some _ e)
    simpa [intItems] using z
end
section
variable {X : Cx}
/-- sum(t), t a tuple of ints -/
def rSumT : List V → Hp → VK → Prop := fun vs H Q => ∃ (a : Addr) (ns : List Int), vs = [V.ref a] ∧ H a = some (.tup (ns.map V.int)) ∧ Q (.int ns.sum) H
theorem cr_sumT (hc : X.calm = true) : CallR X (.builtin "sum") rSumT := by
  intro pins s σ H vs us Q I r h
  obtain ⟨a, ns, rfl, ha, q⟩ := h
  obtain ⟨z, its, rv, o, ho, hk, n, hd⟩ := I.hok a _ ha
  rw [Vals.ref1 r]
  have hi := rv.ints
  obtain ⟨xs, e⟩ := hi.allInts.items
  have hn : numsOf (intItems xs).toList = ns := by rw [← e]; exact hi.numsOf
  rw [nums_intItems] at hn
  refine sum_tup (xs := xs) (I.ok.hd hc) ⟨o, ho, hk, n, by rw [← e]; exact hd⟩ fun h' tk t' hk => ?_
  rw [preSum_eq, List.take_of_length_le (by simp), hn]
  exact ⟨.int _, H, I.kept hk, ⟨_, rfl⟩, q⟩
end
theorem iteN {c A B : Prop} [Decidable c] (h1 : ¬ c → A) (h2 : c → B) : if (!decide c) = true then A else B := by
  by_cases h : c
  · rw [decide_eq_true h]
    exact iteF (h2 h)
  · rw [decide_eq_false h]
    exact iteT (h1 h)
/-! ### Rule -/
/-- the lengths of a rule -/
def Good (xs : List V) : Prop := 1 ≤ xs.length ∧ xs.length ≤ 12 ∧ ∀ x ∈ xs, isLen x = true
theorem good_ints : ∀ {xs : List V}, (∀ x ∈ xs, isLen x = true) → ∃ ns : List Int, xs = ns.map V.int ∧ ∀ n ∈ ns, 1 ≤ n ∧ n ≤ 40
  | [], _ => ⟨[], rfl, by simp⟩
  | x :: xs, h => by
    obtain ⟨i, rfl, h1⟩ := of_isLen (h x List.mem_cons_self)
    obtain ⟨ns, rfl, h2⟩ := good_ints (xs := xs) fun y hy => h y (List.mem_cons_of_mem _ hy)
    exact ⟨i :: ns, rfl, fun n hn => (List.mem_cons.mp hn).elim (fun e => e ▸ h1) (h2 n)⟩
/-- a rule at a: its lengths are the tuple at t -/
def RuleAt (CR : Addr) (H : Hp) (a t : Addr) (xs : List V) : Prop := ∃ dx, H a = some (.ins CR dx [("_rods", .ref t)]) ∧ H t = some (.tup xs)
/-- __init__ behind the binding: x the new instance, p the tuple of what was handed in -/
def spInit0 (CR CE : Addr) : Sp := fun vs H Q E => ∃ (x dx p : Addr) (xs : List V), vs = [.ref x, .ref p] ∧ H x = some (.ins CR dx []) ∧ H p = some (.tup xs) ∧ xs.length ≤ 1000 ∧ (∀ y ∈ xs, Flat H y) ∧
  (Good xs → ∀ H', RuleAt CR H' x p xs → (∀ b o, H b = some o → b ≠ x → H' b = some o) → Q .non H') ∧ (¬ Good xs → ∀ H', Same H H' → E (.ref CE) none H')
def spInit (CR CE : Addr) : Sp := fun vs H Q E => ∃ ws rest, vs = ws ++ rest ∧ ws.length = ["self"].length ∧ rest.length ≤ sizeLine ∧ ∀ p, H p = none → spInit0 CR CE (ws ++ [V.ref p]) (upd H p (.tup rest)) Q E
section
variable {P : Program} {w : World} {K : PySem.W.Frag} {mg : Str → Option Value} {base : Heap} {CR CE pR aR aI : Addr} {mc : Value}
theorem scInit : FnScope ["self", "rods", "rod"] ["self", "rods"] (defScope sInit) := ⟨rfl, rfl, rfl, by decide +kernel, rfl, by decide +kernel, by decide +kernel⟩
theorem ok_init {f : Addr} {fd fdR : FuncData} (F : Fun K "__init__" "Rule.__init__" sInit f fd) (T : TxtP K mg CR CE pR aR aI mc) (FR : FnOk P w K mg base CX0 2 aR fdR ["thing"] spIsRod) (bR : Binds K fdR ["thing"] []) : FnR P w K mg base (L2.CX P w) 3 f (spInit CR CE) := by
  obtain ⟨oc, od, kV, doc, pm, an, cdv, ct, osl, rfl, lk, hcd⟩ := F.ex
  refine StX.fn_star (ps := ["self"]) (pv := "rods") lk hcd scInit StX.cxUp (fun us rest hl => StX.bind_star1 (B := fun us => bindArgs (PySem.W.fnOf "__init__" "Rule.__init__" (defArgs sInit) (defBody sInit) (defScope sInit) .none kV doc pm an cdv ct) ⟨us, []⟩) (p1 := "self") (pv := "rods") (fun _ => rfl) (fun _ _ _ => rfl) us rest hl) fun A outer s H vs Q E hr h => ?_
  obtain ⟨x, dx, p, xs, rfl, hx, hp, hl, hf, hg, hb⟩ := h
  refine ⟨_, pss_cons (ps_if (pt_not (pt_chain op_le op_le pe_int (pe_callB call_len_seq (by rfl) T.len PySem.boot_len (pa_cons (pv 1) pa_nil)) (ClX.pe_cval (pe_glob (v := .ref CR) (by rfl) T.gR rfl))))
        (pss_one (ps_raise rfl (takes_of rfl rfl rfl rfl) (SkE.pmk_own1 PySem.F.excBase_ValueError T.xE T.gE T.kE (raises_own T.bE T.tE) rfl (pe_joined (.cons pe_str (.cons (pe_fmt (ClX.pe_cval (pe_glob (v := .ref CR) (by rfl) T.gR rfl))) (.cons pe_str .nil))))))) pss_nil)
      (pss_cons (ps_if (pt_not (pt_val (pe_callB (cr_all rfl) (by rfl) T.all (by decide +kernel) (pa_cons
          (pe_lc (own := [("rod", 2)]) (g := gName 2) (tt := tYes) rfl scInit.nd (pi_tup (pv 1)) (blkOk_by (own := [("rod", 2)]) (N := ["self", "rods", "rod"]) (sc := defScope sInit) (by decide +kernel)) (fun _ _ _ _ _ => pg_name (i := 2) scInit.nd rfl (Or.inl rfl)) (fun _ _ _ _ _ => pts_nil)
            (fun _ _ _ _ _ => pe_smeth (pe_glob (v := .ref CR) (by rfl) T.gR rfl) T.rd T.sm FR hr bR pass0 (pa_cons (pv 2) pa_nil))) pa_nil))))
        (pss_one (ps_raise rfl (takes_of rfl rfl rfl rfl) (SkE.pmk_own1 PySem.F.excBase_ValueError T.xE T.gE T.kE (raises_own T.bE T.tE) rfl (pe_joined (.cons pe_str (.cons (pe_fmt (ClX.pe_cval (pe_glob (v := .ref CR) (by rfl) T.gR rfl))) .nil)))))) pss_nil)
      (pss_one (ps_fld (pv 0) (pv 1) rfl))), ?_⟩
  obtain ⟨uR, hR⟩ := T.cR
  obtain ⟨uL, hL⟩ := T.cL
  refine ⟨_, rfl, p, xs, rfl, .inr (.inl (.inl hp)), _, _, rfl, rfl, _, rfl, ?_⟩
  refine iteD (fun h1 => ?_) fun h1 => ?_
  · refine ⟨CR, mc, _, uR, rfl, T.rd, hR, _, _, rfl, rfl, _, rfl, ?_⟩
    refine iteN (fun h2 => ?_) fun h2 => ?_
    · exact ⟨_, rfl, by decide +kernel, CR, mc, _, uR, rfl, T.rd, hR, .inr ⟨_, rfl, by decide, _, rfl, by decide +kernel, _, rfl, by decide +kernel, hb (fun g => h2 (by have := g.2.1; omega)) H (Same.refl H)⟩⟩
    · have hpD : ∀ D, H D = none → p ≠ D := fun D hD => ne_of_none hp hD
      refine ⟨_, rfl, p, rfl, ⟨xs, .inl (.inl hp)⟩, fun D hD => lc_tup (K := K) (a := p) (xs := xs) (fun i H' => H' D = some (.lst (((xs.take i).map isLen).map V.bl)) ∧ ∀ b o, H b = some o → H' b = some o) ?_ ?_ ?_ ?_⟩
      · exact ⟨upd_same, fun b o e => by rw [upd_ne (ne_of_none e hD)]; exact e⟩
      · exact fun i H' _ h => .inl (.inl (h.2 _ _ hp))
      · rintro i y H' hy ⟨hD', kp⟩
        have hm : y ∈ xs := List.mem_of_getElem? hy
        have hi : i < xs.length := (List.getElem?_eq_some_iff.mp hy).1
        refine ⟨rfl, ?_⟩
        unfold tYes
        refine iteT ?_
        refine ⟨rfl, _, rfl, y, rfl, (hf y hm).keep kp, _, hD', ?_, ?_, fun b o e => ?_⟩
        · simp only [List.length_map, List.length_take]
          exact small1000 (by omega)
        · rw [upd_same, List.take_add_one, hy]
          simp
        · rw [upd_ne (ne_of_none e hD)]
          exact kp b o e
      · rintro H' ⟨hD', kp⟩
        rw [List.take_length] at hD'
        refine ⟨D, xs.map isLen, rfl, .inl (.inl hD'), _, rfl, ?_⟩
        have ev : (xs.map isLen).all id = true ↔ ∀ y ∈ xs, isLen y = true := by simp [List.all_eq_true]
        cases ea : (xs.map isLen).all id with
        | false =>
          refine iteT ?_
          exact ⟨_, rfl, by decide +kernel, CR, mc, _, uL, rfl, T.rd, hL, .inr ⟨_, rfl, by decide, _, rfl, by decide +kernel, hb (fun g => by rw [ev.mpr g.2.2] at ea; cases ea) H' kp⟩⟩
        | true =>
          refine iteF ?_
          refine ⟨_, rfl, _, rfl, x, CR, dx, _, rfl, kp _ _ hx, T.cl, T.nF, (by show 0 < 1000; decide), ?_⟩
          exact hg ⟨by omega, by omega, ev.mp ea⟩ _ ⟨dx, upd_same, by rw [upd_ne (ne_of hp hx (by intro z; cases z))]; exact kp _ _ hp⟩ fun b o e hb => by rw [upd_ne hb]; exact kp b o e
  · refine ⟨_, rfl, ?_⟩
    refine iteT ?_
    exact ⟨_, rfl, by decide +kernel, CR, mc, _, uR, rfl, T.rd, hR, .inr ⟨_, rfl, by decide, _, rfl, by decide +kernel, _, rfl, by decide +kernel, hb (fun g => h1 (by have := g.1; omega)) H (Same.refl H)⟩⟩
end
end R7
namespace R7
open PySem PySem.Spec PyProof.Rows L2
abbrev sRodsL : Stmt := top 20
abbrev sOdd : Stmt := top 22
abbrev sLength : Stmt := top 23
def spGetRods (CR : Addr) : Sp := fun vs H Q _ => ∃ a t xs, vs = [.ref a] ∧ RuleAt CR H a t xs ∧ ∀ l, H l = none → Q (.ref l) (upd H l (.lst xs))
def spTotal (CR : Addr) : Sp := fun vs H Q _ => ∃ (a t : Addr) (ns : List Int), vs = [.ref a] ∧ RuleAt CR H a t (ns.map V.int) ∧ Q (.int ns.sum) H
def spOpts : Sp := fun vs H Q _ => ∃ x, vs = [x] ∧ ∀ d, H d = none → Q (.ref d) (upd H d (.dK []))
/-- what repr can show -/
structure Fit (d : PyData) : Prop where
  sh : d.showable = true
  sz : d.shown.length ≤ sizeLine
  dp : d.depth ≤ 20
def spEqual : Sp := fun vs H Q _ => ∃ x y d e, vs = [x, y] ∧ Dat H x d ∧ Dat H y e ∧ Fit d ∧ Fit e ∧ Q (.bl (decide (V.str d.shown = V.str e.shown))) H
section
variable {P : Program} {w : World} {K : PySem.W.Frag} {mg : Str → Option Value} {base : Heap} {CR CE pR aR aI : Addr} {mc : Value}
theorem scRods : FnScope ["self"] ["self"] (defScope sRods) := ⟨rfl, rfl, rfl, by decide +kernel, rfl, by decide +kernel, by decide +kernel⟩
theorem scTotal : FnScope ["self"] ["self"] (defScope sTotal) := ⟨rfl, rfl, rfl, by decide +kernel, rfl, by decide +kernel, by decide +kernel⟩
theorem scOpts : FnScope ["self"] ["self"] (defScope sOpts) := ⟨rfl, rfl, rfl, by decide +kernel, rfl, by decide +kernel, by decide +kernel⟩
theorem scLength : FnScope ["_law_value"] ["_law_value"] (defScope sLength) := ⟨rfl, rfl, rfl, by decide +kernel, rfl, by decide +kernel, by decide +kernel⟩
theorem scEqual : FnScope ["_law_actual", "_law_expected"] ["_law_actual", "_law_expected"] (defScope sEqual) := ⟨rfl, rfl, rfl, by decide +kernel, rfl, by decide +kernel, by decide +kernel⟩
theorem ok_rods {f : Addr} {fd : FuncData} (F : Fun K "rods" "Rule.rods" sRods f fd) (T : TxtP K mg CR CE pR aR aI mc) : FnOk P w K mg base CX0 1 f fd ["self"] (spGetRods CR) := by
  refine F.ok scRods (fun vs H Q E h => ?_) (fun cdv A outer s H vs Q E hr h => ?_)
  · obtain ⟨a, t, xs, rfl, _⟩ := h
    rfl
  · obtain ⟨a, t, xs, rfl, ⟨dx, ha, ht⟩, q⟩ := h
    refine ⟨_, pss_one (ps_ret (pe_callTy call_list_of (by rfl) T.list (by decide +kernel) (pa_cons (pe_fld (pv 0) rfl) pa_nil))), ?_⟩
    exact ⟨_, rfl, a, CR, dx, _, _, rfl, ha, T.cl, T.nF, rfl, t, xs, rfl, .inr (.inl (.inl ht)), q⟩
theorem ok_total {f : Addr} {fd : FuncData} (F : Fun K "total" "Rule.total" sTotal f fd) (T : TxtP K mg CR CE pR aR aI mc) : FnOk P w K mg base CX0 1 f fd ["self"] (spTotal CR) := by
  refine F.ok scTotal (fun vs H Q E h => ?_) (fun cdv A outer s H vs Q E hr h => ?_)
  · obtain ⟨a, t, xs, rfl, _⟩ := h
    rfl
  · obtain ⟨a, t, xs, rfl, ⟨dx, ha, ht⟩, q⟩ := h
    refine ⟨_, pss_one (ps_ret (pe_callB (cr_sumT rfl) (by rfl) T.sum (by decide +kernel) (pa_cons (pe_fld (pv 0) rfl) pa_nil))), ?_⟩
    exact ⟨_, rfl, a, CR, dx, _, _, rfl, ha, T.cl, T.nF, rfl, t, xs, rfl, ht, q⟩
theorem ok_opts {f : Addr} {fd : FuncData} (F : Fun K "options" "Rule.options" sOpts f fd) : FnOk P w K mg base CX0 1 f fd ["self"] spOpts := by
  refine F.ok scOpts (fun vs H Q E h => ?_) (fun cdv A outer s H vs Q E hr h => ?_)
  · obtain ⟨x, rfl, _⟩ := h
    rfl
  · obtain ⟨x, rfl, q⟩ := h
    refine ⟨_, pss_one (ps_ret pe_dnewK), ?_⟩
    exact q
theorem ok_length {f : Addr} {fd : FuncData} (F : Fun K "_law_is_length" "_law_is_length" sLength f fd) (T : TxtP K mg CR CE pR aR aI mc) : FnOk P w K mg base CX0 1 f fd ["_law_value"] spIsRod := by
  refine F.ok scLength (fun vs H Q E h => ?_) (fun cdv A outer s H vs Q E hr h => ?_)
  · obtain ⟨x, rfl, _⟩ := h
    rfl
  · obtain ⟨x, rfl, hf, q⟩ := h
    refine ⟨_, pss_one (ps_ret (pe_and (pe_callB call_isi (by rfl) T.isi (by decide +kernel) (pa_cons (pv 0) (pa_cons (pe_bltn (v := .ty "int") (by rfl) T.int (by decide +kernel) rfl) pa_nil)))
      (pe_and (pe_not (pe_callB call_isi (by rfl) T.isi (by decide +kernel) (pa_cons (pv 0) (pa_cons (pe_bltn (v := .ty "bool") (by rfl) T.bool (by decide +kernel) rfl) pa_nil))))
      (pe_one (pe_chain op_lt op_lt pe_int (pv 0) pe_int))))), ?_⟩
    obtain ⟨t, ht, k1, k2⟩ := hf.ty (K := K)
    refine ⟨_, rfl, x, _, t, _, _, rfl, .ty "int", ht, k1, _, rfl, ?_⟩
    refine iteB (fun e => ?_) fun e => ?_
    · refine ⟨_, rfl, x, _, t, _, _, rfl, .ty "bool", ht, k2, _, rfl, _, rfl, ?_⟩
      refine iteB (fun e2 => ?_) fun e2 => ?_
      · have : isI x = true := by cases x <;> simp_all [isI, isB]
        obtain ⟨i, rfl⟩ := of_isI this
        have e0 : isLen (.int i) = (decide (1 ≤ i) && decide (i ≤ 40)) := rfl
        rw [e0] at q
        refine ⟨_, rfl, _, _, rfl, rfl, _, rfl, ?_⟩
        refine iteD (fun h1 => ?_) fun h1 => ?_
        · refine ⟨_, _, rfl, rfl, ?_⟩
          rw [decide_eq_true (show 1 ≤ i by omega), Bool.true_and] at q
          show Q (.bl (decide (i < 41))) H
          rw [show decide (i < 41) = decide (i ≤ 40) from decide_eq_decide.mpr (by omega)]
          exact q
        · rw [decide_eq_false (show ¬ 1 ≤ i by omega), Bool.false_and] at q
          exact q
      · have : isLen x = false := by cases x <;> simp_all [isI, isB, isLen]
        rw [this] at q
        exact q
    · have : isLen x = false := by cases x <;> simp_all [isI, isB, isLen]
      rw [this] at q
      exact q
theorem ok_equal {f : Addr} {fd : FuncData} (F : Fun K "_law_is_equal" "_law_is_equal" sEqual f fd) (Z : SysB base) (mR : mg "repr" = none) : FnG P w K mg base CX0 1 f fd ["_law_actual", "_law_expected"] spEqual := by
  refine fun_okG F scEqual (fun vs H Q E h => ?_) (fun cdv A outer s H vs Q E hg _ hr h => ?_)
  · obtain ⟨x, y, d, e, rfl, _⟩ := h
    rfl
  · obtain ⟨x, y, d, e, rfl, hx, hy, fd, fe, q⟩ := h
    refine ⟨_, pss_one (ps_ret (pe_cmpR op_eq (pe_callB (call_rep Z hg hr.units) (by rfl) mR (by decide +kernel) (pa_cons (pv 0) pa_nil)) (pe_callB (call_rep Z hg hr.units) (by rfl) mR (by decide +kernel) (pa_cons (pv 1) pa_nil)) (nomark _))), ?_⟩
    exact ⟨_, rfl, x, d, rfl, hx, fd.sh, fd.sz, fd.dp, _, rfl, y, e, rfl, hy, fe.sh, fe.sz, fe.dp, rfl, q⟩
end
end R7
namespace R7
open PySem PySem.Spec PyProof.Rows L2
/-- what stands anywhere but at p stands as before; new things may stand -/
def Kp (p : Addr) (H H' : Hp) : Prop := ∀ b o, H b = some o → b ≠ p → H' b = some o
theorem But.kp {p : Addr} {H H' : Hp} (h : But p H H') : Kp p H H' := fun b o e hb => (h b hb).trans e
theorem Kp.trans {p : Addr} {H H1 H2 : Hp} (h : Kp p H H1) (h' : Kp p H1 H2) : Kp p H H2 := fun b o e hb => h' b o (h b o e hb) hb
theorem Same.kp {p : Addr} {H H' : Hp} (h : Same H H') : Kp p H H' := fun b o e _ => h b o e
theorem Src.keep {p : Addr} {H H' : Hp} (h : Src H p) (k : ∀ b o, H b = some o → H' b = some o) : Src H' p := by
  obtain ⟨a, b, c, e⟩ := h
  exact ⟨a, b, c, k _ _ e⟩
theorem Src.ne {p q : Addr} {H : Hp} (h : Src H p) (e : H q = none) : q ≠ p := by
  obtain ⟨a, b, c, z⟩ := h
  exact (ne_of_none z e).symm
def spRods : Sp := fun vs H Q _ => ∃ (p : Addr) (m : Int), vs = [.ref p, .int m] ∧ Src H p ∧ 1 ≤ m ∧ m ≤ 12 ∧
  ∀ (l : Addr) (ns : List Int) (H' : Hp), H l = none → 1 ≤ ns.length → (ns.length : Int) ≤ m → (∀ n ∈ ns, 1 ≤ n ∧ n ≤ 40) → H' l = some (.lst (ns.map V.int)) → Kp p H H' → Src H' p → Q (.ref l) H'
section
variable {P : Program} {w : World} {K : PySem.W.Frag} {mg : Str → Option Value} {base : Heap}
theorem scRodsL : FnScope ["_law_source_here", "_law_most", "_law_many", "_law_way", "_law_one", "_law_found", "_law_at"] ["_law_source_here", "_law_most"] (defScope sRodsL) := ⟨rfl, rfl, rfl, by decide +kernel, rfl, by decide +kernel, by decide +kernel⟩
theorem ok_rodsL {f fD : Addr} {fd fdD : FuncData} (F : Fun K "_law_rods" "_law_rods" sRodsL f fd) (FD : FnOk P w K mg base CX0 1 fD fdD ["_law_source_here", "_law_many"] spDraw) (bD : Binds K fdD ["_law_source_here", "_law_many"] [])
    (mD : mg "_law_draw" = some (.ref fD)) (kD : PySem.W.keepIn K (.ref fD) = true) (mM : mg "max" = none) (mR : mg "range" = none) : FnOk P w K mg base CX0 2 f fd ["_law_source_here", "_law_most"] spRods := by
  refine F.ok scRodsL (fun vs H Q E h => ?_) (fun cdv A outer s H vs Q E hr h => ?_)
  · obtain ⟨p, m, rfl, _⟩ := h
    rfl
  · obtain ⟨p, m, rfl, hs, m0, m1, q⟩ := h
    refine ⟨_, pss_cons (ps_par (i := 2) (j := 3) (by rfl) scRodsL.nd rfl rfl (by decide) rfl rfl (pa_cons (pe_op op_add pe_int (pe_call FD hr (by rfl) mD kD bD .nil pass0 (pa_cons (pv 0) (pa_cons (pv 1) pa_nil)))) (pa_cons (pe_call FD hr (by rfl) mD kD bD .nil pass0 (pa_cons (pv 0) (pa_cons pe_int pa_nil))) pa_nil)) (by rfl))
      (pss_cons (ps_par (i := 4) (j := 5) (by rfl) scRodsL.nd rfl rfl (by decide) rfl rfl (pa_cons (pe_op op_add pe_int (pe_call FD hr (by rfl) mD kD bD .nil pass0 (pa_cons (pv 0) (pa_cons pe_int pa_nil)))) (pa_cons (pe_lst pa_nil) pa_nil)) (by rfl))
      (pss_cons (ps_for PassesOwn.never rfl (pi_range1 (by rfl) mR (pa_cons (pv 2) pa_nil)) (pg_name (i := 6) scRodsL.nd rfl (.inl rfl)) (pss_cons (ps_if (pt_cmpR op_eq (pv 3) pe_int (nomark _)) (pss_one (ps_expr (pe_bm PySem.F.plainAttrs_list PySem.F.slot_list_append PySem.F.type_list_append mt_append (pv 5) (pa_cons (pe_op op_add pe_int (pe_call FD hr (by rfl) mD kD bD .nil pass0 (pa_cons (pv 0) (pa_cons pe_int pa_nil)))) pa_nil)))) pss_nil) (pss_cons (ps_if (pt_cmpR op_eq (pv 3) pe_int (nomark _)) (pss_one (ps_expr (pe_bm PySem.F.plainAttrs_list PySem.F.slot_list_append PySem.F.type_list_append mt_append (pv 5) (pa_cons (pv 4) pa_nil)))) pss_nil) (pss_cons (ps_if (pt_cmpR op_eq (pv 3) pe_int (nomark _)) (pss_one (ps_expr (pe_bm PySem.F.plainAttrs_list PySem.F.slot_list_append PySem.F.type_list_append mt_append (pv 5) (pa_cons (pe_callB (call_max2 rfl) (by rfl) mM (by decide +kernel) (pa_cons pe_int (pa_cons (pe_op op_sub (pv 4) (pe_op op_mod (pv 6) pe_int)) pa_nil))) pa_nil)))) pss_nil) (pss_cons (ps_if (pt_cmpR op_eq (pv 3) pe_int (nomark _)) (pss_one (ps_expr (pe_bm PySem.F.plainAttrs_list PySem.F.slot_list_append PySem.F.type_list_append mt_append (pv 5) (pa_cons (pe_op op_add pe_int (pe_call FD hr (by rfl) mD kD bD .nil pass0 (pa_cons (pv 0) (pa_cons pe_int pa_nil)))) pa_nil)))) pss_nil) (pss_one (ps_if (pt_cmpR op_eq (pv 3) pe_int (nomark _)) (pss_one (ps_expr (pe_bm PySem.F.plainAttrs_list PySem.F.slot_list_append PySem.F.type_list_append mt_append (pv 5) (pa_cons (pe_op op_add pe_int (pe_call FD hr (by rfl) mD kD bD .nil pass0 (pa_cons (pv 0) (pa_cons pe_int pa_nil)))) pa_nil)))) pss_nil)))))))
      (pss_one (ps_ret (pv 5))))), ?_⟩
    refine ⟨_, rfl, _, rfl, p, m, rfl, hs, by omega, by omega, fun r H1 r0 r1 o1 s1 => ?_⟩
    refine ⟨_, _, rfl, rfl, _, rfl, p, 5, rfl, s1, by decide, by decide, fun way H2 w0 w1 o2 s2 => ?_⟩
    refine ⟨_, _, rfl, ?_⟩
    refine ⟨_, rfl, p, 40, rfl, s2, by decide, by decide, fun r3 H3 r30 r31 o3 s3 => ?_⟩
    refine ⟨_, _, rfl, rfl, (by show 0 ≤ sizeLine; decide), fun l hl0 => ?_⟩
    refine ⟨_, _, rfl, ?_⟩
    have hlp : l ≠ p := s3.ne hl0
    have lH : H l = none := by rw [← o1 l hlp, ← o2 l hlp, ← o3 l hlp]; exact hl0
    have k3 : Kp p H H3 := (o1.kp.trans o2.kp).trans o3.kp
    refine ⟨_, rfl, _, rfl, by omega, by omega, for_range (lo := 0) (n := (1 + r).toNat) (fun i σ H' => ∃ (ns : List Int) (at_ : Option V), ns.length = i ∧ (∀ n ∈ ns, 1 ≤ n ∧ n ≤ 40) ∧
      σ = [some (.ref p), some (.int m), some (.int (1 + r)), some (.int way), some (.int (1 + r3)), some (.ref l), at_] ∧ H' l = some (.lst (ns.map V.int)) ∧ Src H' p ∧ Kp p H H') ?_ ?_ ?_⟩
    · exact ⟨[], none, rfl, by simp, rfl, upd_same, s3.keep fun b o e => by rw [upd_ne (ne_of_none e hl0)]; exact e, k3.trans fun b o e _ => by rw [upd_ne (ne_of_none e hl0)]; exact e⟩
    · rintro i σ H' hi ⟨ns, at_, hn, hb, rfl, hl, hs, kp⟩
      have next : ∀ v : Int, 1 ≤ v → v ≤ 40 → ∀ H2 : Hp, H2 l = some (.lst (ns.map V.int)) → Src H2 p → Kp p H' H2 → (fun (i : Nat) (σ : L2.St) (H' : Hp) => ∃ (ns : List Int) (at_ : Option V), ns.length = i ∧ (∀ n ∈ ns, 1 ≤ n ∧ n ≤ 40) ∧
          σ = [some (.ref p), some (.int m), some (.int (1 + r)), some (.int way), some (.int (1 + r3)), some (.ref l), at_] ∧ H' l = some (.lst (ns.map V.int)) ∧ Src H' p ∧ Kp p H H') (i + 1)
          [some (.ref p), some (.int m), some (.int (1 + r)), some (.int way), some (.int (1 + r3)), some (.ref l), some (.int (0 + (i : Int)))] (upd H2 l (.lst (ns.map V.int ++ [.int v]))) := fun v v0 v1 H2 hl2 hs2 k2 => by
        refine ⟨ns ++ [v], _, by rw [List.length_append, hn]; rfl, fun n h => ?_, rfl, by rw [upd_same, List.map_append]; rfl, ?_, fun b o e hb => by rw [upd_ne (ne_of_none e lH)]; exact k2 b o (kp b o e hb) hb⟩
        · rcases List.mem_append.mp h with z | z
          · exact hb n z
          · rw [List.mem_singleton.mp z]
            exact ⟨v0, v1⟩
        · obtain ⟨a, b, c, e⟩ := hs2
          exact ⟨a, b, c, by rw [upd_ne hlp.symm]; exact e⟩
      have hw : way = 0 ∨ way = 1 ∨ way = 2 ∨ way = 3 ∨ way = 4 := by omega
      rcases hw with rfl | rfl | rfl | rfl | rfl
      · -- way 0
        refine ⟨_, rfl, rfl, _, rfl, ?_⟩
        refine iteD (fun _ => ?_) fun z => absurd rfl z
        refine ⟨_, rfl, .inl ⟨rfl, _, .inl (.inl hl)⟩, _, rfl, p, 4, rfl, hs, by decide, by decide, fun r H2 r0 r1 ho hs2 => ?_⟩
        have hl2 : H2 l = some (.lst (ns.map V.int)) := (ho l hlp).trans hl
        refine ⟨_, _, rfl, rfl, l, _, _, rfl, rfl, hl2, small1000 (by rw [List.length_map]; omega), ?_⟩
        have fin := next (1 + r) (by omega) (by omega) H2 hl2 hs2 fun b o e hb => (ho b hb).trans e
        refine ⟨_, rfl, rfl, _, rfl, ?_⟩
        refine iteD (fun z => absurd z (by decide)) fun _ => ?_
        refine ⟨_, rfl, rfl, _, rfl, ?_⟩
        refine iteD (fun z => absurd z (by decide)) fun _ => ?_
        refine ⟨_, rfl, rfl, _, rfl, ?_⟩
        refine iteD (fun z => absurd z (by decide)) fun _ => ?_
        refine ⟨_, rfl, rfl, _, rfl, ?_⟩
        refine iteD (fun z => absurd z (by decide)) fun _ => ?_
        exact fin
      · -- way 1
        refine ⟨_, rfl, rfl, _, rfl, ?_⟩
        refine iteD (fun z => absurd z (by decide)) fun _ => ?_
        refine ⟨_, rfl, rfl, _, rfl, ?_⟩
        refine iteD (fun _ => ?_) fun z => absurd rfl z
        refine ⟨_, rfl, .inl ⟨rfl, _, .inl (.inl hl)⟩, _, rfl, l, _, _, rfl, rfl, hl, small1000 (by rw [List.length_map]; omega), ?_⟩
        have fin := next (1 + r3) (by omega) (by omega) H' hl hs fun b o e _ => e
        refine ⟨_, rfl, rfl, _, rfl, ?_⟩
        refine iteD (fun z => absurd z (by decide)) fun _ => ?_
        refine ⟨_, rfl, rfl, _, rfl, ?_⟩
        refine iteD (fun z => absurd z (by decide)) fun _ => ?_
        refine ⟨_, rfl, rfl, _, rfl, ?_⟩
        refine iteD (fun z => absurd z (by decide)) fun _ => ?_
        exact fin
      · -- way 2
        refine ⟨_, rfl, rfl, _, rfl, ?_⟩
        refine iteD (fun z => absurd z (by decide)) fun _ => ?_
        refine ⟨_, rfl, rfl, _, rfl, ?_⟩
        refine iteD (fun z => absurd z (by decide)) fun _ => ?_
        refine ⟨_, rfl, rfl, _, rfl, ?_⟩
        refine iteD (fun _ => ?_) fun z => absurd rfl z
        refine ⟨_, rfl, .inl ⟨rfl, _, .inl (.inl hl)⟩, _, rfl, _, rfl, _, _, rfl, rfl, (by show (0 : Int) < 2; decide), _, _, rfl, rfl, _, _, rfl, l, _, _, rfl, rfl, hl, small1000 (by rw [List.length_map]; omega), ?_⟩
        have fin := next (if (1 + r3) - (0 + (i : Int)) % 2 > 1 then (1 + r3) - (0 + (i : Int)) % 2 else 1) (by split <;> omega) (by split <;> omega) H' hl hs fun b o e _ => e
        refine ⟨_, rfl, rfl, _, rfl, ?_⟩
        refine iteD (fun z => absurd z (by decide)) fun _ => ?_
        refine ⟨_, rfl, rfl, _, rfl, ?_⟩
        refine iteD (fun z => absurd z (by decide)) fun _ => ?_
        exact fin
      · -- way 3
        refine ⟨_, rfl, rfl, _, rfl, ?_⟩
        refine iteD (fun z => absurd z (by decide)) fun _ => ?_
        refine ⟨_, rfl, rfl, _, rfl, ?_⟩
        refine iteD (fun z => absurd z (by decide)) fun _ => ?_
        refine ⟨_, rfl, rfl, _, rfl, ?_⟩
        refine iteD (fun z => absurd z (by decide)) fun _ => ?_
        refine ⟨_, rfl, rfl, _, rfl, ?_⟩
        refine iteD (fun _ => ?_) fun z => absurd rfl z
        refine ⟨_, rfl, .inl ⟨rfl, _, .inl (.inl hl)⟩, _, rfl, p, 11, rfl, hs, by decide, by decide, fun r H2 r0 r1 ho hs2 => ?_⟩
        have hl2 : H2 l = some (.lst (ns.map V.int)) := (ho l hlp).trans hl
        refine ⟨_, _, rfl, rfl, l, _, _, rfl, rfl, hl2, small1000 (by rw [List.length_map]; omega), ?_⟩
        have fin := next (30 + r) (by omega) (by omega) H2 hl2 hs2 fun b o e hb => (ho b hb).trans e
        refine ⟨_, rfl, rfl, _, rfl, ?_⟩
        refine iteD (fun z => absurd z (by decide)) fun _ => ?_
        exact fin
      · -- way 4
        refine ⟨_, rfl, rfl, _, rfl, ?_⟩
        refine iteD (fun z => absurd z (by decide)) fun _ => ?_
        refine ⟨_, rfl, rfl, _, rfl, ?_⟩
        refine iteD (fun z => absurd z (by decide)) fun _ => ?_
        refine ⟨_, rfl, rfl, _, rfl, ?_⟩
        refine iteD (fun z => absurd z (by decide)) fun _ => ?_
        refine ⟨_, rfl, rfl, _, rfl, ?_⟩
        refine iteD (fun z => absurd z (by decide)) fun _ => ?_
        refine ⟨_, rfl, rfl, _, rfl, ?_⟩
        refine iteD (fun _ => ?_) fun z => absurd rfl z
        refine ⟨_, rfl, .inl ⟨rfl, _, .inl (.inl hl)⟩, _, rfl, p, 40, rfl, hs, by decide, by decide, fun r H2 r0 r1 ho hs2 => ?_⟩
        have hl2 : H2 l = some (.lst (ns.map V.int)) := (ho l hlp).trans hl
        refine ⟨_, _, rfl, rfl, l, _, _, rfl, rfl, hl2, small1000 (by rw [List.length_map]; omega), ?_⟩
        have fin := next (1 + r) (by omega) (by omega) H2 hl2 hs2 fun b o e hb => (ho b hb).trans e
        exact fin
    · rintro σ H' ⟨ns, at_, hn, hb, rfl, hl, hs, kp⟩
      exact ⟨_, rfl, q l ns H' lH (by omega) (by omega) hb hl kp hs⟩
end
end R7
namespace R7
open PySem PySem.Spec PyProof.Rows L2
/-- data that repr shows in at most n signs -/
structure Sm (n k : Nat) (d : PyData) : Prop where
  sh : d.showable = true
  sz : d.shown.length ≤ n
  dp : d.depth ≤ k
theorem Sm.fit {n k : Nat} {d : PyData} (h : Sm n k d) (hn : n ≤ 100000) (hk : k ≤ 20) : Fit d := ⟨h.sh, Nat.le_trans h.sz (Nat.le_trans hn (by decide)), Nat.le_trans h.dp hk⟩
theorem Sm.mono {n k n' k' : Nat} {d : PyData} (h : Sm n k d) (hn : n ≤ n') (hk : k ≤ k') : Sm n' k' d := ⟨h.sh, Nat.le_trans h.sz hn, Nat.le_trans h.dp hk⟩
theorem sm_all : ∀ {ds : List PyData} {n k : Nat}, (∀ d ∈ ds, Sm n k d) → PyData.showableAll ds = true ∧ ((PyData.shownAll ds).map (·.length)).sum ≤ ds.length * n ∧ (PyData.shownAll ds).length = ds.length ∧ PyData.depthAll ds ≤ k
  | [], _, _, _ => by simp [PyData.showableAll, PyData.shownAll, PyData.depthAll]
  | d :: ds, n, k, h => by
    obtain ⟨a, b, c, e⟩ := sm_all (ds := ds) fun x hx => h x (List.mem_cons_of_mem _ hx)
    have hd := h d List.mem_cons_self
    refine ⟨by simp only [PyData.showableAll, hd.sh, a]; rfl, ?_, ?_, ?_⟩
    · simp only [PyData.shownAll, List.map_cons, List.sum_cons, List.length_cons, Nat.add_mul, Nat.one_mul]
      have := hd.sz
      omega
    · simp only [PyData.shownAll, List.length_cons, c]
    · simp only [PyData.depthAll]
      exact Nat.max_le.mpr ⟨hd.dp, e⟩
theorem sm_list {ds : List PyData} {n k : Nat} (h : ∀ d ∈ ds, Sm n k d) : Sm (ds.length * n + 2 * ds.length + 3) (k + 1) (.list ds) := by
  obtain ⟨a, b, c, e⟩ := sm_all h
  refine ⟨by simpa only [PyData.showable] using a, ?_, by simp only [PyData.depth]; omega⟩
  have := listText_len_le (PyData.shownAll ds)
  simp only [PyData.shown]
  omega
theorem sm_tuple {ds : List PyData} {n k : Nat} (h : ∀ d ∈ ds, Sm n k d) : Sm (ds.length * n + 2 * ds.length + 3) (k + 1) (.tuple ds) := by
  obtain ⟨a, b, c, e⟩ := sm_all h
  refine ⟨by simpa only [PyData.showable] using a, ?_, by simp only [PyData.depth]; omega⟩
  have := tupleText_len_le (PyData.shownAll ds)
  simp only [PyData.shown]
  omega
theorem sm_nat : ∀ k : Nat, k < 1000 → (PyData.int (k : Int)).showable = true ∧ (PyData.int (k : Int)).shown.length ≤ 3 := by decide +kernel
theorem sm_int {n : Int} (h0 : 0 ≤ n) (h1 : n < 1000) : Sm 3 0 (.int n) := by
  obtain ⟨k, rfl⟩ : ∃ k : Nat, n = (k : Int) := ⟨n.toNat, by omega⟩
  obtain ⟨a, b⟩ := sm_nat k (by omega)
  exact ⟨a, b, by simp only [PyData.depth]; omega⟩
theorem dats_ints {H : Hp} : ∀ (ns : List Int), Dats H (ns.map V.int) (ns.map PyData.int)
  | [] => .nil
  | n :: ns => .cons (.int n) (dats_ints ns)
theorem Dat.keep {H H' : Hp} (k : ∀ b o, H b = some o → (∀ ps, o ≠ .tbl ps) → H' b = some o) {x : V} {d : PyData} (h : Dat H x d) : Dat H' x d :=
  Dat.rec (motive_1 := fun x d _ => Dat H' x d) (motive_2 := fun xs ds _ => Dats H' xs ds) .non .bl .int .str (fun e _ ih => .lst (k _ _ e (fun _ z => by cases z)) ih) (fun e _ ih => .tup (k _ _ e (fun _ z => by cases z)) ih)
    (fun e _ ih => .dct (k _ _ e (fun _ z => by cases z)) ih) .nil (fun _ _ i1 i2 => .cons i1 i2) h
theorem Dats.keep {H H' : Hp} (k : ∀ b o, H b = some o → (∀ ps, o ≠ .tbl ps) → H' b = some o) : ∀ {xs : List V} {ds : List PyData}, Dats H xs ds → Dats H' xs ds
  | _, _, .nil => .nil
  | _, _, .cons h t => .cons (h.keep k) (t.keep k)
theorem same_upd {H : Hp} {a : Addr} {o : HO} (n : H a = none) : Same H (upd H a o) := fun b u e => by
  rw [upd_ne (ne_of_none e n)]
  exact e
/-- of H' what was not there in H -/
def fresh (H H' : Hp) : Hp := fun b => match H b with
  | none => H' b
  | some _ => none
theorem fresh_of {H H' : Hp} {a : Addr} (n : H a = none) : fresh H H' a = H' a := by
  unfold fresh
  rw [n]
theorem fresh_some {H H' : Hp} {a : Addr} {o : HO} (e : fresh H H' a = some o) : H a = none ∧ H' a = some o := by
  cases n : H a with
  | none =>
    rw [fresh_of n] at e
    exact ⟨rfl, e⟩
  | some u =>
    unfold fresh at e
    rw [n] at e
    cases e
def spOdd : Sp := fun vs H Q _ => ∃ p : Addr, vs = [.ref p] ∧ Src H p ∧ ∀ (x : V) (d : PyData) (H' : Hp), Dat (fresh H H') x d → Sm 20 2 d → Kp p H H' → Src H' p → Q x H'
section
variable {P : Program} {w : World} {K : PySem.W.Frag} {mg : Str → Option Value} {base : Heap}
theorem scOdd : FnScope ["_law_source_here", "_law_values"] ["_law_source_here"] (defScope sOdd) := ⟨rfl, rfl, rfl, by decide +kernel, rfl, by decide +kernel, by decide +kernel⟩
theorem ok_odd {f fC : Addr} {fd fdC : FuncData} (F : Fun K "_law_odd" "_law_odd" sOdd f fd) (FC : FnOk P w K mg base CX0 2 fC fdC ["_law_source_here", "_law_values"] spChoose) (bC : Binds K fdC ["_law_source_here", "_law_values"] [])
    (mC : mg "_law_choose" = some (.ref fC)) (kC : PySem.W.keepIn K (.ref fC) = true) : FnOk P w K mg base CX0 3 f fd ["_law_source_here"] spOdd := by
  refine F.ok scOdd (fun vs H Q E h => ?_) (fun cdv A outer s H vs Q E hr h => ?_)
  · obtain ⟨p, rfl, _⟩ := h
    rfl
  · obtain ⟨p, rfl, hs, q⟩ := h
    refine ⟨_, pss_cons (ps_set (i := 1) scOdd.nd rfl (.inl rfl) (pe_lst (pa_cons pe_int (pa_cons (pe_un un_neg pe_int) (pa_cons pe_int (pa_cons pe_int (pa_cons pe_int (pa_cons pe_int (pa_cons (pe_op op_pow pe_int pe_int) (pa_cons (pe_un un_neg pe_int) (pa_cons pe_bl (pa_cons pe_bl (pa_cons pe_non (pa_cons pe_str (pa_cons pe_str (pa_cons (pe_tup pa_nil) (pa_cons (pe_tup (pa_cons pe_int pa_nil)) (pa_cons (pe_lst pa_nil) (pa_cons (pe_lst (pa_cons pe_int pa_nil)) (pa_cons pe_dnewK (pa_cons (pe_disp (pps_cons pe_int pe_int pps_nil) (by rfl) (by rfl) (fun z => by cases z) (by decide)) (pa_cons pe_int pa_nil)))))))))))))))))))))) (pss_one (ps_ret (pe_call FC hr (by rfl) mC kC bC .nil pass0 (pa_cons (pv 0) (pa_cons (pv 1) pa_nil))))), ?_⟩
    refine ⟨_, rfl, _, _, rfl, rfl, ⟨by decide, by decide, by decide +kernel⟩, _, rfl, (by show 0 ≤ sizeLine; decide), fun t0 n0 => ?_⟩
    refine ⟨(by show 1 ≤ sizeLine; decide), fun t1 n1 => ?_⟩
    refine ⟨(by show 0 ≤ sizeLine; decide), fun l0 n2 => ?_⟩
    refine ⟨(by show 1 ≤ sizeLine; decide), fun l1 n3 => ?_⟩
    intro d0 n4 d1 n5
    refine ⟨upd_same, [(Sum.inl 1, .int 1)], rfl, (by decide), ?_⟩
    refine ⟨(by show 20 ≤ sizeLine; decide), fun L n6 => ?_⟩
    have s1 : Same H (upd H t0 (.tup [])) := same_upd n0
    have s2 : Same (upd H t0 (.tup [])) (upd (upd H t0 (.tup [])) t1 (.tup [.int 1])) := same_upd n1
    have s3 : Same (upd (upd H t0 (.tup [])) t1 (.tup [.int 1])) (upd (upd (upd H t0 (.tup [])) t1 (.tup [.int 1])) l0 (.lst [])) := same_upd n2
    have s4 : Same (upd (upd (upd H t0 (.tup [])) t1 (.tup [.int 1])) l0 (.lst [])) (upd (upd (upd (upd H t0 (.tup [])) t1 (.tup [.int 1])) l0 (.lst [])) l1 (.lst [.int 1])) := same_upd n3
    have s5 : Same (upd (upd (upd (upd H t0 (.tup [])) t1 (.tup [.int 1])) l0 (.lst [])) l1 (.lst [.int 1])) (upd (upd (upd (upd (upd H t0 (.tup [])) t1 (.tup [.int 1])) l0 (.lst [])) l1 (.lst [.int 1])) d0 (.dK [])) := same_upd n4
    have s6 : Same (upd (upd (upd (upd (upd H t0 (.tup [])) t1 (.tup [.int 1])) l0 (.lst [])) l1 (.lst [.int 1])) d0 (.dK [])) (upd (upd (upd (upd (upd (upd (upd H t0 (.tup [])) t1 (.tup [.int 1])) l0 (.lst [])) l1 (.lst [.int 1])) d0 (.dK [])) d1 (.dK [])) d1 (.dK [(Sum.inl 1, .int 1)])) := by
      rw [upd_upd]
      exact same_upd n5
    have s7 : Same (upd (upd (upd (upd (upd (upd (upd H t0 (.tup [])) t1 (.tup [.int 1])) l0 (.lst [])) l1 (.lst [.int 1])) d0 (.dK [])) d1 (.dK [])) d1 (.dK [(Sum.inl 1, .int 1)])) (upd (upd (upd (upd (upd (upd (upd (upd H t0 (.tup [])) t1 (.tup [.int 1])) l0 (.lst [])) l1 (.lst [.int 1])) d0 (.dK [])) d1 (.dK [])) d1 (.dK [(Sum.inl 1, .int 1)])) L (.lst [.int 0, .int (-1), .int 41, .int 40, .int 1, .int 42, .int ((10 : Int) ^ (12 : Int).toNat), .int (-40), .bl true, .bl false, .non, .str "1", .str "", .ref t0, .ref t1, .ref l0, .ref l1, .ref d0, .ref d1, .int 24])) := same_upd n6
    have sl : ∀ {H1 : Hp}, Same H H1 → Kp p H H1 := fun h => R7.Same.kp h
    have e7 : Same H _ := ((((((s1.trans s2).trans s3).trans s4).trans s5).trans s6).trans s7)
    have hL : (upd (upd (upd (upd (upd (upd (upd (upd H t0 (.tup [])) t1 (.tup [.int 1])) l0 (.lst [])) l1 (.lst [.int 1])) d0 (.dK [])) d1 (.dK [])) d1 (.dK [(Sum.inl 1, .int 1)])) L (.lst [.int 0, .int (-1), .int 41, .int 40, .int 1, .int 42, .int ((10 : Int) ^ (12 : Int).toNat), .int (-40), .bl true, .bl false, .non, .str "1", .str "", .ref t0, .ref t1, .ref l0, .ref l1, .ref d0, .ref d1, .int 24])) L = some (.lst [.int 0, .int (-1), .int 41, .int 40, .int 1, .int 42, .int ((10 : Int) ^ (12 : Int).toNat), .int (-40), .bl true, .bl false, .non, .str "1", .str "", .ref t0, .ref t1, .ref l0, .ref l1, .ref d0, .ref d1, .int 24]) := upd_same
    have h_t0 : (upd (upd (upd (upd (upd (upd (upd (upd H t0 (.tup [])) t1 (.tup [.int 1])) l0 (.lst [])) l1 (.lst [.int 1])) d0 (.dK [])) d1 (.dK [])) d1 (.dK [(Sum.inl 1, .int 1)])) L (.lst [.int 0, .int (-1), .int 41, .int 40, .int 1, .int 42, .int ((10 : Int) ^ (12 : Int).toNat), .int (-40), .bl true, .bl false, .non, .str "1", .str "", .ref t0, .ref t1, .ref l0, .ref l1, .ref d0, .ref d1, .int 24])) t0 = some (.tup []) := ((((((s2.trans s3).trans s4).trans s5).trans s6).trans s7)) _ _ upd_same
    have h_t1 : (upd (upd (upd (upd (upd (upd (upd (upd H t0 (.tup [])) t1 (.tup [.int 1])) l0 (.lst [])) l1 (.lst [.int 1])) d0 (.dK [])) d1 (.dK [])) d1 (.dK [(Sum.inl 1, .int 1)])) L (.lst [.int 0, .int (-1), .int 41, .int 40, .int 1, .int 42, .int ((10 : Int) ^ (12 : Int).toNat), .int (-40), .bl true, .bl false, .non, .str "1", .str "", .ref t0, .ref t1, .ref l0, .ref l1, .ref d0, .ref d1, .int 24])) t1 = some (.tup [.int 1]) := (((((s3.trans s4).trans s5).trans s6).trans s7)) _ _ upd_same
    have h_l0 : (upd (upd (upd (upd (upd (upd (upd (upd H t0 (.tup [])) t1 (.tup [.int 1])) l0 (.lst [])) l1 (.lst [.int 1])) d0 (.dK [])) d1 (.dK [])) d1 (.dK [(Sum.inl 1, .int 1)])) L (.lst [.int 0, .int (-1), .int 41, .int 40, .int 1, .int 42, .int ((10 : Int) ^ (12 : Int).toNat), .int (-40), .bl true, .bl false, .non, .str "1", .str "", .ref t0, .ref t1, .ref l0, .ref l1, .ref d0, .ref d1, .int 24])) l0 = some (.lst []) := ((((s4.trans s5).trans s6).trans s7)) _ _ upd_same
    have h_l1 : (upd (upd (upd (upd (upd (upd (upd (upd H t0 (.tup [])) t1 (.tup [.int 1])) l0 (.lst [])) l1 (.lst [.int 1])) d0 (.dK [])) d1 (.dK [])) d1 (.dK [(Sum.inl 1, .int 1)])) L (.lst [.int 0, .int (-1), .int 41, .int 40, .int 1, .int 42, .int ((10 : Int) ^ (12 : Int).toNat), .int (-40), .bl true, .bl false, .non, .str "1", .str "", .ref t0, .ref t1, .ref l0, .ref l1, .ref d0, .ref d1, .int 24])) l1 = some (.lst [.int 1]) := (((s5.trans s6).trans s7)) _ _ upd_same
    have h_d0 : (upd (upd (upd (upd (upd (upd (upd (upd H t0 (.tup [])) t1 (.tup [.int 1])) l0 (.lst [])) l1 (.lst [.int 1])) d0 (.dK [])) d1 (.dK [])) d1 (.dK [(Sum.inl 1, .int 1)])) L (.lst [.int 0, .int (-1), .int 41, .int 40, .int 1, .int 42, .int ((10 : Int) ^ (12 : Int).toNat), .int (-40), .bl true, .bl false, .non, .str "1", .str "", .ref t0, .ref t1, .ref l0, .ref l1, .ref d0, .ref d1, .int 24])) d0 = some (.dK []) := ((s6.trans s7)) _ _ upd_same
    have h_d1 : (upd (upd (upd (upd (upd (upd (upd (upd H t0 (.tup [])) t1 (.tup [.int 1])) l0 (.lst [])) l1 (.lst [.int 1])) d0 (.dK [])) d1 (.dK [])) d1 (.dK [(Sum.inl 1, .int 1)])) L (.lst [.int 0, .int (-1), .int 41, .int 40, .int 1, .int 42, .int ((10 : Int) ^ (12 : Int).toNat), .int (-40), .bl true, .bl false, .non, .str "1", .str "", .ref t0, .ref t1, .ref l0, .ref l1, .ref d0, .ref d1, .int 24])) d1 = some (.dK [(Sum.inl 1, .int 1)]) := s7 _ _ upd_same
    have ne : ∀ {a : Addr} {o : HO}, (upd (upd (upd (upd (upd (upd (upd (upd H t0 (.tup [])) t1 (.tup [.int 1])) l0 (.lst [])) l1 (.lst [.int 1])) d0 (.dK [])) d1 (.dK [])) d1 (.dK [(Sum.inl 1, .int 1)])) L (.lst [.int 0, .int (-1), .int 41, .int 40, .int 1, .int 42, .int ((10 : Int) ^ (12 : Int).toNat), .int (-40), .bl true, .bl false, .non, .str "1", .str "", .ref t0, .ref t1, .ref l0, .ref l1, .ref d0, .ref d1, .int 24])) a = some o → (∀ x y z : Int, o ≠ .lst [.int x, .int y, .int z]) → a ≠ p := fun e no z => by
      obtain ⟨a, b, c, hs0⟩ := hs.keep e7
      rw [z, hs0] at e
      exact no a b c (Option.some.inj e).symm
    refine ⟨_, rfl, _, rfl, p, L, _, rfl, hs.keep e7, ne hL (fun x y z h => by injection h with h1; exact absurd (congrArg List.length h1) (by simp)), hL, by simp, by simp, fun x H' hx ho hs' => ?_⟩
    have at_ : ∀ {a : Addr} {o : HO}, H a = none → (upd (upd (upd (upd (upd (upd (upd (upd H t0 (.tup [])) t1 (.tup [.int 1])) l0 (.lst [])) l1 (.lst [.int 1])) d0 (.dK [])) d1 (.dK [])) d1 (.dK [(Sum.inl 1, .int 1)])) L (.lst [.int 0, .int (-1), .int 41, .int 40, .int 1, .int 42, .int ((10 : Int) ^ (12 : Int).toNat), .int (-40), .bl true, .bl false, .non, .str "1", .str "", .ref t0, .ref t1, .ref l0, .ref l1, .ref d0, .ref d1, .int 24])) a = some o → (∀ x y z : Int, o ≠ .lst [.int x, .int y, .int z]) → fresh H H' a = some o := fun n e no => (fresh_of n).trans ((ho _ (ne e no)).trans e)
    have go : ∀ d, Dat (fresh H H') x d → Sm 20 2 d → Q x H' := fun d h1 h2 => q x d H' h1 h2 ((R7.Same.kp e7).trans ho.kp) hs'
    simp only [List.mem_cons, List.not_mem_nil, or_false] at hx
    rcases hx with rfl | rfl | rfl | rfl | rfl | rfl | rfl | rfl | rfl | rfl | rfl | rfl | rfl | rfl | rfl | rfl | rfl | rfl | rfl | rfl
    · exact go _ (.int 0) ⟨by decide +kernel, by decide +kernel, by decide +kernel⟩
    · exact go _ (.int (-1)) ⟨by decide +kernel, by decide +kernel, by decide +kernel⟩
    · exact go _ (.int 41) ⟨by decide +kernel, by decide +kernel, by decide +kernel⟩
    · exact go _ (.int 40) ⟨by decide +kernel, by decide +kernel, by decide +kernel⟩
    · exact go _ (.int 1) ⟨by decide +kernel, by decide +kernel, by decide +kernel⟩
    · exact go _ (.int 42) ⟨by decide +kernel, by decide +kernel, by decide +kernel⟩
    · exact go _ (.int _) ⟨by decide +kernel, by decide +kernel, by decide +kernel⟩
    · exact go _ (.int (-40)) ⟨by decide +kernel, by decide +kernel, by decide +kernel⟩
    · exact go _ (.bl true) ⟨by decide +kernel, by decide +kernel, by decide +kernel⟩
    · exact go _ (.bl false) ⟨by decide +kernel, by decide +kernel, by decide +kernel⟩
    · exact go _ .non ⟨by decide +kernel, by decide +kernel, by decide +kernel⟩
    · exact go _ (.str "1") ⟨by decide +kernel, by decide +kernel, by decide +kernel⟩
    · exact go _ (.str "") ⟨by decide +kernel, by decide +kernel, by decide +kernel⟩
    · exact go _ (.tup (at_ n0 h_t0 (fun x y z h => by cases h)) .nil) ⟨by decide +kernel, by decide +kernel, by decide +kernel⟩
    · exact go _ (.tup (at_ (Same.free s1 n1) h_t1 (fun x y z h => by cases h)) (.cons (.int 1) .nil)) ⟨by decide +kernel, by decide +kernel, by decide +kernel⟩
    · exact go _ (.lst (at_ (Same.free (s1.trans s2) n2) h_l0 (fun x y z h => by cases h)) .nil) ⟨by decide +kernel, by decide +kernel, by decide +kernel⟩
    · exact go _ (.lst (at_ (Same.free ((s1.trans s2).trans s3) n3) h_l1 (fun x y z h => by cases h)) (.cons (.int 1) .nil)) ⟨by decide +kernel, by decide +kernel, by decide +kernel⟩
    · exact go _ (.dct (at_ (Same.free (((s1.trans s2).trans s3).trans s4) n4) h_d0 (fun x y z h => by cases h)) .nil) ⟨by decide +kernel, by decide +kernel, by decide +kernel⟩
    · exact go _ (.dct (at_ (Same.free ((((s1.trans s2).trans s3).trans s4).trans s5) n5) h_d1 (fun x y z h => by cases h)) (.cons (.int 1) .nil)) ⟨by decide +kernel, by decide +kernel, by decide +kernel⟩
    · exact go _ (.int 24) ⟨by decide +kernel, by decide +kernel, by decide +kernel⟩
end
end R7
namespace R7
open PySem PySem.Spec PyProof.Rows L2
abbrev sOut : Stmt := top 21
abbrev sMk : Stmt := top 24
/-! ### comparisons -/
section
variable {X : Cx}
/-- xs == ys, where one of the two lists is empty -/
def rEqNil : R2 := fun x y H Q => ∃ a b xs, x = .ref a ∧ y = .ref b ∧ H a = some (.lst xs) ∧ H b = some (.lst []) ∧ Q (.bl (decide (xs = []))) H
theorem op_eqNil (hu : X.A.units + 64 < cLine) : OpR X (compareOp .Eq) rEqNil := by
  intro pins s σ H x y v u Q I rx ry h
  obtain ⟨a, b, xs, rfl, rfl, ha, hb, q⟩ := h
  cases rx
  cases ry
  obtain ⟨z, its, n, rv, ho⟩ := I.hok a _ ha
  obtain ⟨z2, its2, n2, rv2, ho2⟩ := I.hok b _ hb
  cases rv2
  cases xs with
  | nil =>
    cases rv
    exact SeqAt.eq_listAt (e := fun _ => true) ⟨_, ho, rfl, n, rfl⟩ ⟨_, ho2, rfl, n2, rfl⟩ rfl (by omega) (fun j h1 _ => absurd h1 (Nat.not_lt_zero _)) ⟨.bl true, H, I, rfl, q⟩
  | cons x xs =>
    cases rv
    exact SeqAt.eq_list_lengthsAt ⟨_, ho, rfl, n, rfl⟩ ⟨_, ho2, rfl, n2, rfl⟩ rfl (by omega) ⟨.bl false, H, I, rfl, by simpa using q⟩
/-- the class at C compares its instances as object does -/
def EqC (K : PySem.W.Frag) (C : Addr) : Prop := ∃ (nm q : Str) (N : Addr) (bs : List Value) (hd : Bool) (sn : List Str) (sub : List Value) (ab : Bool) (col : Option Bool) (dd : Option Addr) (k0 k1 k2 k3 k5 : Option Value) (nw : String),
  K.lookup C = some (excClassObj nm q C N bs [.type "object"] hd sn sub ab col dd k0 k1 k2 k3 k5 nw) ∧ PySem.W.nsOkIn K N = true ∧ PySem.W.nsIn K N "__eq__" = some none ∧ PySem.W.nsIn K N "__ne__" = some none
/-- o == o, an instance of such a class -/
def rEqSelf (C : Addr) : R2 := fun x y H Q => ∃ a dx fs, x = .ref a ∧ y = .ref a ∧ H a = some (.ins C dx fs) ∧ Q (.bl true) H
theorem op_eqSelf {C : Addr} (c : EqC X.K C) (hu : X.A.units + 64 < cLine) : OpR X (compareOp .Eq) (rEqSelf C) := by
  intro pins s σ H x y v u Q I rx ry h
  obtain ⟨a, dx, fs, rfl, rfl, ha, q⟩ := h
  cases rx
  cases ry
  obtain ⟨nm, q', N, bs, hd, sn, sub, ab, col, dd, k0, k1, k2, k3, k5, nw, hC, hN, e1, e2⟩ := c
  obtain ⟨d, z, ne, ob, mA, nn, r, qq⟩ := I.hok a _ ha
  have KI := I.kIn
  have G := Heap.Ns.of_isNs (PySem.W.isNs_of_in KI hN)
  obtain ⟨hp, g, dr, t, os⟩ := s
  exact compareOp_eq_same F.cmp_object ⟨_, nm, q', N, bs, hd, sn, sub, ab, col, dd, k0, k1, k2, k3, k5, nw, _, ob, rfl, KI _ _ hC, G, PySem.W.ns_none_of KI G e1, PySem.W.ns_none_of KI G e2⟩ (by show X.A.units < cLine; omega) ⟨.bl true, H, I, rfl, q⟩
end
/-! ### a rule made -/
section
variable {X : Cx} {CX : CXT} {k : Nat} {f C : Addr} {sp : Sp} {E : XK} {x : Str} {p pos : Pos}
/-- C() where __init__ takes a star -/
theorem pe_makeR0 (M : Mk X.K C f) (F : FnR X.prog X.w X.K X.mg X.base CX k f sp) (hr : Room (k + 1) X.A) (hg : Gl X x) (hm : X.mg x = some (.ref C)) (hx : Passes CX X E) (hdb : (x == ("__debug__" : Str)) = false := by decide) :
    PE X (.Call (.Name x p) [] [] pos) (StX.tMakeR C sp E tNil) := by
  constructor
  intro pins s σ H Q I h
  apply wpAny_Call_Name_kw
  refine ld_glob I hg hm ?_ hdb
  exact PySem.W.callWith_K0 I.kIn M.kp (StX.run_makeR (us := []) M F hr hx I .nil h)
end
theorem make_rule {CR CE : Addr} {H : Hp} {xs : List V} {Q : VK} {E : XK} (hf : ∀ y ∈ xs, Flat H y) (hl : xs.length ≤ 1000) (hg : Good xs → ∀ (r t : Addr) (H' : Hp), H r = none → RuleAt CR H' r t xs → Same H H' → Q (.ref r) H')
    (hb : ¬ Good xs → ∀ H', Same H H' → E (.ref CE) none H') : ∀ x dx, H x = none → H dx = none → dx ≠ x → spInit CR CE (.ref x :: xs) (upd (upd H dx (.own x)) x (.ins CR dx [])) (fun v H2 => v = .non ∧ Q (.ref x) H2) E := by
  intro x dx nx nd ne
  have s1 : Same H (upd (upd H dx (.own x)) x (.ins CR dx [])) := fun b o e => by
    rw [upd_ne (ne_of_none e nx), upd_ne (ne_of_none e nd)]
    exact e
  refine ⟨[.ref x], xs, rfl, rfl, Nat.le_trans hl (by decide), fun p np => ?_⟩
  have s2 := same_upd (o := .tup xs) np
  refine ⟨x, dx, p, xs, rfl, s2 _ _ upd_same, upd_same, hl, fun y hy => (hf y hy).keep (s1.trans s2), fun g H' ra kp => ⟨rfl, hg g x p H' nx ra fun b o e => kp b o (s2 _ _ (s1 _ _ e)) (ne_of_none e nx)⟩, fun g H' sm => hb g H' ((s1.trans s2).trans sm)⟩
def spMk (CR CE : Addr) : Sp := fun vs H Q E => ∃ l xs, vs = [.ref l] ∧ H l = some (.lst xs) ∧ xs.length ≤ 6 ∧ (∀ y ∈ xs, Flat H y) ∧ (Good xs → ∀ (r t : Addr) (H' : Hp), H r = none → RuleAt CR H' r t xs → Same H H' → Q (.ref r) H') ∧ (¬ Good xs → ∀ H', Same H H' → E (.ref CE) none H')
section
variable {P : Program} {w : World} {K : PySem.W.Frag} {mg : Str → Option Value} {base : Heap} {CR CE pR aR aI fi : Addr} {mc : Value}
theorem scMk : FnScope ["_law_rods_here"] ["_law_rods_here"] (defScope sMk) := ⟨rfl, rfl, rfl, by decide +kernel, rfl, by decide +kernel, by decide +kernel⟩
theorem ok_mk {f : Addr} {fd : FuncData} (F : Fun K "_law_rule" "_law_rule" sMk f fd) (T : TxtP K mg CR CE pR aR aI mc) (MR : Mk K CR fi) (FR : FnR P w K mg base (L2.CX P w) 3 fi (spInit CR CE)) : FnOk P w K mg base (L2.CX P w) 5 f fd ["_law_rods_here"] (spMk CR CE) := by
  refine F.okX scMk (fun vs H Q E h => ?_) (fun cdv A outer s H vs Q E hr h => ?_)
  · obtain ⟨l, xs, rfl, _⟩ := h
    rfl
  · obtain ⟨l, xs, rfl, hl, h6, hf, hg, hb⟩ := h
    have px : Passes (L2.CX P w) (cxOf (L2.CX P w) P w K mg base ["_law_rods_here"] "_law_rule" (defScope sMk) f cdv A outer s H E) E := passes_call (takes_of rfl rfl rfl rfl) (fun _ _ _ _ h => h)
    refine ⟨_, (pss_cons (ps_if (pt_cmpR op_eq (pe_callB call_len_seq (by rfl) T.len PySem.boot_len (pa_cons (pv 0) pa_nil)) pe_int (nomark _)) (pss_one (ps_ret (pe_makeR0 MR FR hr (by rfl) T.gR px))) pss_nil) (pss_cons (ps_if (pt_cmpR op_eq (pe_callB call_len_seq (by rfl) T.len PySem.boot_len (pa_cons (pv 0) pa_nil)) pe_int (nomark _)) (pss_one (ps_ret (StX.pe_makeR MR FR hr (by rfl) T.gR px (pa_cons (pe_ix ix_list (pv 0) pe_int (fun _ _ => rfl)) pa_nil)))) pss_nil) (pss_cons (ps_if (pt_cmpR op_eq (pe_callB call_len_seq (by rfl) T.len PySem.boot_len (pa_cons (pv 0) pa_nil)) pe_int (nomark _)) (pss_one (ps_ret (StX.pe_makeR MR FR hr (by rfl) T.gR px (pa_cons (pe_ix ix_list (pv 0) pe_int (fun _ _ => rfl)) (pa_cons (pe_ix ix_list (pv 0) pe_int (fun _ _ => rfl)) pa_nil))))) pss_nil) (pss_cons (ps_if (pt_cmpR op_eq (pe_callB call_len_seq (by rfl) T.len PySem.boot_len (pa_cons (pv 0) pa_nil)) pe_int (nomark _)) (pss_one (ps_ret (StX.pe_makeR MR FR hr (by rfl) T.gR px (pa_cons (pe_ix ix_list (pv 0) pe_int (fun _ _ => rfl)) (pa_cons (pe_ix ix_list (pv 0) pe_int (fun _ _ => rfl)) (pa_cons (pe_ix ix_list (pv 0) pe_int (fun _ _ => rfl)) pa_nil)))))) pss_nil) (pss_cons (ps_if (pt_cmpR op_eq (pe_callB call_len_seq (by rfl) T.len PySem.boot_len (pa_cons (pv 0) pa_nil)) pe_int (nomark _)) (pss_one (ps_ret (StX.pe_makeR MR FR hr (by rfl) T.gR px (pa_cons (pe_ix ix_list (pv 0) pe_int (fun _ _ => rfl)) (pa_cons (pe_ix ix_list (pv 0) pe_int (fun _ _ => rfl)) (pa_cons (pe_ix ix_list (pv 0) pe_int (fun _ _ => rfl)) (pa_cons (pe_ix ix_list (pv 0) pe_int (fun _ _ => rfl)) pa_nil))))))) pss_nil) (pss_cons (ps_if (pt_cmpR op_eq (pe_callB call_len_seq (by rfl) T.len PySem.boot_len (pa_cons (pv 0) pa_nil)) pe_int (nomark _)) (pss_one (ps_ret (StX.pe_makeR MR FR hr (by rfl) T.gR px (pa_cons (pe_ix ix_list (pv 0) pe_int (fun _ _ => rfl)) (pa_cons (pe_ix ix_list (pv 0) pe_int (fun _ _ => rfl)) (pa_cons (pe_ix ix_list (pv 0) pe_int (fun _ _ => rfl)) (pa_cons (pe_ix ix_list (pv 0) pe_int (fun _ _ => rfl)) (pa_cons (pe_ix ix_list (pv 0) pe_int (fun _ _ => rfl)) pa_nil)))))))) pss_nil) (pss_one (ps_ret (StX.pe_makeR MR FR hr (by rfl) T.gR px (pa_cons (pe_ix ix_list (pv 0) pe_int (fun _ _ => rfl)) (pa_cons (pe_ix ix_list (pv 0) pe_int (fun _ _ => rfl)) (pa_cons (pe_ix ix_list (pv 0) pe_int (fun _ _ => rfl)) (pa_cons (pe_ix ix_list (pv 0) pe_int (fun _ _ => rfl)) (pa_cons (pe_ix ix_list (pv 0) pe_int (fun _ _ => rfl)) (pa_cons (pe_ix ix_list (pv 0) pe_int (fun _ _ => rfl)) pa_nil))))))))))))))), ?_⟩
    match xs, hf, hl, hg, hb with
    | [], hf, hl, hg, hb =>
      refine ⟨_, rfl, l, _, rfl, .inl (.inl (.inl hl)), rfl, _, rfl, ?_⟩
      refine iteD (fun _ => ?_) fun z => absurd rfl z
      exact make_rule hf (by simp) hg hb
    | [x0], hf, hl, hg, hb =>
      refine ⟨_, rfl, l, _, rfl, .inl (.inl (.inl hl)), rfl, _, rfl, ?_⟩
      refine iteD (fun z => absurd z (by simp)) fun _ => ?_
      refine ⟨_, rfl, l, _, rfl, .inl (.inl (.inl hl)), rfl, _, rfl, ?_⟩
      refine iteD (fun _ => ?_) fun z => absurd rfl z
      exact ⟨_, rfl, l, _, _, _, rfl, rfl, .inl (.inl hl), rfl, make_rule hf (by simp) hg hb⟩
    | [x0, x1], hf, hl, hg, hb =>
      refine ⟨_, rfl, l, _, rfl, .inl (.inl (.inl hl)), rfl, _, rfl, ?_⟩
      refine iteD (fun z => absurd z (by simp)) fun _ => ?_
      refine ⟨_, rfl, l, _, rfl, .inl (.inl (.inl hl)), rfl, _, rfl, ?_⟩
      refine iteD (fun z => absurd z (by simp)) fun _ => ?_
      refine ⟨_, rfl, l, _, rfl, .inl (.inl (.inl hl)), rfl, _, rfl, ?_⟩
      refine iteD (fun _ => ?_) fun z => absurd rfl z
      exact ⟨_, rfl, l, _, _, _, rfl, rfl, .inl (.inl hl), rfl, _, rfl, l, _, _, _, rfl, rfl, .inl (.inl hl), rfl, make_rule hf (by simp) hg hb⟩
    | [x0, x1, x2], hf, hl, hg, hb =>
      refine ⟨_, rfl, l, _, rfl, .inl (.inl (.inl hl)), rfl, _, rfl, ?_⟩
      refine iteD (fun z => absurd z (by simp)) fun _ => ?_
      refine ⟨_, rfl, l, _, rfl, .inl (.inl (.inl hl)), rfl, _, rfl, ?_⟩
      refine iteD (fun z => absurd z (by simp)) fun _ => ?_
      refine ⟨_, rfl, l, _, rfl, .inl (.inl (.inl hl)), rfl, _, rfl, ?_⟩
      refine iteD (fun z => absurd z (by simp)) fun _ => ?_
      refine ⟨_, rfl, l, _, rfl, .inl (.inl (.inl hl)), rfl, _, rfl, ?_⟩
      refine iteD (fun _ => ?_) fun z => absurd rfl z
      exact ⟨_, rfl, l, _, _, _, rfl, rfl, .inl (.inl hl), rfl, _, rfl, l, _, _, _, rfl, rfl, .inl (.inl hl), rfl, _, rfl, l, _, _, _, rfl, rfl, .inl (.inl hl), rfl, make_rule hf (by simp) hg hb⟩
    | [x0, x1, x2, x3], hf, hl, hg, hb =>
      refine ⟨_, rfl, l, _, rfl, .inl (.inl (.inl hl)), rfl, _, rfl, ?_⟩
      refine iteD (fun z => absurd z (by simp)) fun _ => ?_
      refine ⟨_, rfl, l, _, rfl, .inl (.inl (.inl hl)), rfl, _, rfl, ?_⟩
      refine iteD (fun z => absurd z (by simp)) fun _ => ?_
      refine ⟨_, rfl, l, _, rfl, .inl (.inl (.inl hl)), rfl, _, rfl, ?_⟩
      refine iteD (fun z => absurd z (by simp)) fun _ => ?_
      refine ⟨_, rfl, l, _, rfl, .inl (.inl (.inl hl)), rfl, _, rfl, ?_⟩
      refine iteD (fun z => absurd z (by simp)) fun _ => ?_
      refine ⟨_, rfl, l, _, rfl, .inl (.inl (.inl hl)), rfl, _, rfl, ?_⟩
      refine iteD (fun _ => ?_) fun z => absurd rfl z
      exact ⟨_, rfl, l, _, _, _, rfl, rfl, .inl (.inl hl), rfl, _, rfl, l, _, _, _, rfl, rfl, .inl (.inl hl), rfl, _, rfl, l, _, _, _, rfl, rfl, .inl (.inl hl), rfl, _, rfl, l, _, _, _, rfl, rfl, .inl (.inl hl), rfl, make_rule hf (by simp) hg hb⟩
    | [x0, x1, x2, x3, x4], hf, hl, hg, hb =>
      refine ⟨_, rfl, l, _, rfl, .inl (.inl (.inl hl)), rfl, _, rfl, ?_⟩
      refine iteD (fun z => absurd z (by simp)) fun _ => ?_
      refine ⟨_, rfl, l, _, rfl, .inl (.inl (.inl hl)), rfl, _, rfl, ?_⟩
      refine iteD (fun z => absurd z (by simp)) fun _ => ?_
      refine ⟨_, rfl, l, _, rfl, .inl (.inl (.inl hl)), rfl, _, rfl, ?_⟩
      refine iteD (fun z => absurd z (by simp)) fun _ => ?_
      refine ⟨_, rfl, l, _, rfl, .inl (.inl (.inl hl)), rfl, _, rfl, ?_⟩
      refine iteD (fun z => absurd z (by simp)) fun _ => ?_
      refine ⟨_, rfl, l, _, rfl, .inl (.inl (.inl hl)), rfl, _, rfl, ?_⟩
      refine iteD (fun z => absurd z (by simp)) fun _ => ?_
      refine ⟨_, rfl, l, _, rfl, .inl (.inl (.inl hl)), rfl, _, rfl, ?_⟩
      refine iteD (fun _ => ?_) fun z => absurd rfl z
      exact ⟨_, rfl, l, _, _, _, rfl, rfl, .inl (.inl hl), rfl, _, rfl, l, _, _, _, rfl, rfl, .inl (.inl hl), rfl, _, rfl, l, _, _, _, rfl, rfl, .inl (.inl hl), rfl, _, rfl, l, _, _, _, rfl, rfl, .inl (.inl hl), rfl, _, rfl, l, _, _, _, rfl, rfl, .inl (.inl hl), rfl, make_rule hf (by simp) hg hb⟩
    | [x0, x1, x2, x3, x4, x5], hf, hl, hg, hb =>
      refine ⟨_, rfl, l, _, rfl, .inl (.inl (.inl hl)), rfl, _, rfl, ?_⟩
      refine iteD (fun z => absurd z (by simp)) fun _ => ?_
      refine ⟨_, rfl, l, _, rfl, .inl (.inl (.inl hl)), rfl, _, rfl, ?_⟩
      refine iteD (fun z => absurd z (by simp)) fun _ => ?_
      refine ⟨_, rfl, l, _, rfl, .inl (.inl (.inl hl)), rfl, _, rfl, ?_⟩
      refine iteD (fun z => absurd z (by simp)) fun _ => ?_
      refine ⟨_, rfl, l, _, rfl, .inl (.inl (.inl hl)), rfl, _, rfl, ?_⟩
      refine iteD (fun z => absurd z (by simp)) fun _ => ?_
      refine ⟨_, rfl, l, _, rfl, .inl (.inl (.inl hl)), rfl, _, rfl, ?_⟩
      refine iteD (fun z => absurd z (by simp)) fun _ => ?_
      refine ⟨_, rfl, l, _, rfl, .inl (.inl (.inl hl)), rfl, _, rfl, ?_⟩
      refine iteD (fun z => absurd z (by simp)) fun _ => ?_
      exact ⟨_, rfl, l, _, _, _, rfl, rfl, .inl (.inl hl), rfl, _, rfl, l, _, _, _, rfl, rfl, .inl (.inl hl), rfl, _, rfl, l, _, _, _, rfl, rfl, .inl (.inl hl), rfl, _, rfl, l, _, _, _, rfl, rfl, .inl (.inl hl), rfl, _, rfl, l, _, _, _, rfl, rfl, .inl (.inl hl), rfl, _, rfl, l, _, _, _, rfl, rfl, .inl (.inl hl), rfl, make_rule hf (by simp) hg hb⟩
    | _ :: _ :: _ :: _ :: _ :: _ :: _ :: _, _, _, _, _ => exact absurd h6 (by simp)
end
end R7
namespace R7
open PySem PySem.Spec PyProof.Rows L2
abbrev sRight : Stmt := top 25
/-! ### _law_outcome, given a lambda -/
/-- try: return ("value", a()) / except RodsError: return ("RodsError",) -/
def TOut (K : PySem.W.Frag) (CE : Addr) : (XK → Hp → VK → Prop) → Hp → VK → Prop := fun tl H Q =>
  tl (fun cls _ H' => ∃ b, PySem.W.exmOne K cls (.ref CE) = some b ∧ (b = true → ∀ t, H' t = none → Q (.ref t) (upd H' t (.tup [.str "RodsError"]))) ∧ (b = false → False)) H (fun v H' => 2 ≤ sizeLine ∧ ∀ t, H' t = none → Q (.ref t) (upd H' t (.tup [.str "value", v])))
theorem scOut : FnScope ["_law_action"] ["_law_action"] (defScope sOut) := ⟨rfl, rfl, rfl, by decide +kernel, rfl, by decide +kernel, by decide +kernel⟩
section
variable {X : Cx}
theorem out_gives {q : Str} {g CE : Addr} {cdg : Value} (hme : X.mg "RodsError" = some (.ref CE)) : LamX.GivesTo X ["_law_action"] "_law_outcome" (defScope sOut) g cdg (defBody sOut) "_law_action" q (TOut X.K CE) := by
  intro f c' s H Q tl act hc h
  refine ⟨_, pss_one (ps_try_only (X := (cxOf C8.CX0 X.prog X.w X.K X.mg X.base ["_law_action"] "_law_outcome" (defScope sOut) g cdg X.A X.stack s H C8.E0).nox) (c := .ref CE)
      (tb := fun W D σ H => ∃ Ech : XK, (∀ cls d σ' H', Ech cls d H' → W cls d σ' H') ∧ σ[0]? = some (some (.ref f)) ∧ H c' = some (LamX.CodeO c' q) ∧ tl Ech H (fun v H1 => 2 ≤ sizeLine ∧ ∀ t, H1 t = none → D.rt (.ref t) (upd H1 t (.tup [.str "value", v]))))
      rfl rfl ⟨by rfl, by decide, .inl hme⟩ LamX.takes0 (fun W pn xe tk _ => ?_) (fun a oe cls d pn _ _ => pss_one (ps_ret (pe_tup (pa_cons pe_str pa_nil))))), ?_⟩
  · constructor
    intro pins s' σ H' D I h'
    obtain ⟨Ech, hW, h1, h2, h3⟩ := h'
    refine PSs.run (pss_one (ps_ret (pe_tup (pa_cons pe_str (pa_cons (act W pn xe Ech _ _ tk hW) pa_nil))))) pins s' σ H' D I ?_
    exact ⟨h1, h2, h3⟩
  · exact ⟨_, fun cls d σ' H' ⟨b, e1, e2, e3⟩ => ⟨b, e1, fun hb a _ => ⟨(by show 1 ≤ sizeLine; decide), fun t nt => e2 hb t nt⟩, fun hb => e3 hb⟩, rfl, hc, h⟩
end
end R7
namespace R7
open PySem PySem.Spec PyProof.Rows L2
/-- the facts of the text that _law_is_right wants -/
structure TxtR (K : PySem.W.Frag) (mg : Str → Option Value) (CR CE CH CA qRods aRods qTotal aTotal aOpts aEq aLen aOut aMk : Addr) : Prop where
  repr : mg "repr" = none
  pRods : PropOf K CR "rods" qRods aRods
  pTotal : PropOf K CR "total" qTotal aTotal
  mO : Meth K CR "options" aOpts
  gEq : mg "_law_is_equal" = some (.ref aEq)
  kEq : PySem.W.keepIn K (.ref aEq) = true
  gL : mg "_law_is_length" = some (.ref aLen)
  kL : PySem.W.keepIn K (.ref aLen) = true
  gOut : mg "_law_outcome" = some (.ref aOut)
  kOut : PySem.W.keepIn K (.ref aOut) = true
  gMk : mg "_law_rule" = some (.ref aMk)
  kMk : PySem.W.keepIn K (.ref aMk) = true
  gH : mg "Held" = some (.ref CH)
  gA : mg "Aimed" = some (.ref CA)
  nH : PySem.W.kitOne K (.ref CR) (.ref CH) = some false
  nA : PySem.W.kitOne K (.ref CR) (.ref CA) = some false
  eqC : EqC K CR
  te : PySem.W.exmOne K (.ref CE) (.ref CE) = some true
  ha : PySem.W.findIn K (.ref CR) "__class__" = some (some (.builtin "object.__class__"))
  hn : PySem.W.specialIn K (.builtin "object.__class__") "__get__" = some (some (.builtin "getset_descriptor.__get__"))
  htk : PySem.W.takesIn K (.builtin "object.__class__") = some true
  hm : PySem.W.mroIn K CR (.type "object") = some true
theorem TxtR.ty {K : PySem.W.Frag} {mg : Str → Option Value} {CR CE CH CA qRods aRods qTotal aTotal aOpts aEq aLen aOut aMk pR aR aI : Addr} {mc : Value} (T : TxtP K mg CR CE pR aR aI mc) (TR : TxtR K mg CR CE CH CA qRods aRods qTotal aTotal aOpts aEq aLen aOut aMk) {H : Hp} {a dx : Addr} {fs : List (Str × V)} (e : H a = some (.ins CR dx fs)) :
    TyX K H (.ref a) (.ref CR) := .base (.ins e T.cl TR.ha TR.hn TR.htk TR.hm)
theorem kit_self (K : PySem.W.Frag) (c : Value) : PySem.W.kitOne K c c = some true := by
  unfold PySem.W.kitOne
  rw [if_pos (beq_self_eq_true c)]
/-- how many of the values are no lengths -/
def bads (xs : List V) : Nat := (xs.filter fun x => !isLen x).length
theorem bads_le (xs : List V) : bads xs ≤ xs.length := List.length_filter_le _ _
theorem bads_take {xs : List V} {i : Nat} {x : V} (h : xs[i]? = some x) : bads (xs.take (i + 1)) = bads (xs.take i) + if (!isLen x) = true then 1 else 0 := by
  unfold bads
  rw [List.take_add_one, h, List.filter_append, List.length_append]
  cases hx : isLen x <;> simp [hx]
theorem bads_zero {xs : List V} : bads xs = 0 ↔ ∀ x ∈ xs, isLen x = true := by
  unfold bads
  rw [List.length_eq_zero_iff, List.filter_eq_nil_iff]
  simp
theorem ones_shaped : ∀ c : Nat, c ≤ 6 → SeqAt.shaped (.list (List.replicate c (.int 1))) = true ∧ PyData.eqv (.list (List.replicate c (.int 1))) (.list []) = decide (c = 0) := by decide +kernel
theorem nil_shaped : SeqAt.shaped (.list []) = true := by decide +kernel
theorem ones_dp {K : PySem.W.Frag} {H : Hp} : ∀ c : Nat, DpAll K H (List.replicate c (V.int 1)) (List.replicate c (PyData.int 1))
  | 0 => .nil
  | c + 1 => .cons (.int 1) (ones_dp c)
theorem err_shaped : SeqAt.shaped (.tuple [.str "RodsError"]) = true ∧ PyData.eqv (.tuple [.str "RodsError"]) (.tuple [.str "RodsError"]) = true := by decide +kernel
theorem ix0 {n : Nat} (h : 0 < n) : ixN n 0 = some 0 := by
  unfold ixN
  rw [if_pos (by decide), if_pos (by omega)]
  rfl
theorem sum_le : ∀ {ns : List Int}, (∀ n ∈ ns, 1 ≤ n ∧ n ≤ 40) → 0 ≤ ns.sum ∧ ns.sum ≤ 40 * (ns.length : Int)
  | [], _ => by simp
  | n :: ns, h => by
    have := h n List.mem_cons_self
    have := sum_le (ns := ns) fun m hm => h m (List.mem_cons_of_mem _ hm)
    rw [List.sum_cons, List.length_cons]
    omega
theorem seq_fit {ns : List Int} (h6 : ns.length ≤ 6) (hb : ∀ n ∈ ns, 1 ≤ n ∧ n ≤ 40) (hs : ∀ d ∈ ns.map PyData.int, Sm 20 2 d) : Fit (.list [.list (ns.map .int), .int ns.sum, .dict [], .bool true]) ∧ Fit (.list [.list (ns.map .int), .int ns.sum]) := by
  have hl := sm_list hs
  rw [List.length_map] at hl
  have s1 : Sm 200 3 (.list (ns.map PyData.int)) := hl.mono (by omega) (by decide)
  have s2 : Sm 200 3 (.int ns.sum) := by
    have := sum_le hb
    exact (sm_int (by omega) (by omega)).mono (by decide) (by decide)
  have s3 : Sm 200 3 (.dict []) := ⟨by decide +kernel, by decide +kernel, by decide +kernel⟩
  have s4 : Sm 200 3 (.bool true) := ⟨by decide +kernel, by decide +kernel, by decide +kernel⟩
  refine ⟨(sm_list (n := 200) (k := 3) fun d hd => ?_).fit (by simp) (by decide), (sm_list (n := 200) (k := 3) fun d hd => ?_).fit (by simp) (by decide)⟩
  · simp only [List.mem_cons, List.not_mem_nil, or_false] at hd
    rcases hd with rfl | rfl | rfl | rfl <;> assumption
  · simp only [List.mem_cons, List.not_mem_nil, or_false] at hd
    rcases hd with rfl | rfl <;> assumption
def spRight (Ts : List (Addr × Str)) : Sp := fun vs H Q _ => ∃ l xs ds, vs = [.ref l] ∧ H l = some (.lst xs) ∧ xs.length ≤ 6 ∧ Dats H xs ds ∧ (∀ d ∈ ds, Sm 20 2 d) ∧ LamX.Tabs Ts H ∧ ∀ H', LamX.ExtN H H' → LamX.Tabs Ts H' → Q (.bl true) H'
theorem Dats.ints {H : Hp} : ∀ {ns : List Int} {ds : List PyData}, Dats H (ns.map V.int) ds → ds = ns.map PyData.int
  | [], _, .nil => rfl
  | n :: ns, _, .cons h t => by
    cases h
    rw [List.map_cons, ← t.ints]
theorem Dats.mem {H : Hp} : ∀ {xs : List V} {ds : List PyData}, Dats H xs ds → ∀ x ∈ xs, ∃ d ∈ ds, Dat H x d
  | _, _, .nil, _, h => by cases h
  | _, _, .cons h t, x, hx => by
    rcases List.mem_cons.mp hx with e | e
    · rw [e]
      exact ⟨_, List.mem_cons_self, h⟩
    · obtain ⟨d, hd, z⟩ := t.mem x e
      exact ⟨d, List.mem_cons_of_mem _ hd, z⟩
section
variable {P : Program} {w : World} {K : PySem.W.Frag} {mg : Str → Option Value} {base : Heap} {CR CE CH CA pR aR aI qRods aRods qTotal aTotal aOpts aEq aLen aOut aMk c P1 : Addr} {mc : Value} {fdRods fdTotal fdO fdE fdL fdOut fdM : FuncData}
theorem okG_lk {CX : CXT} {k : Nat} {f : Addr} {name qual : Str} {params : Arguments} {body : List Stmt} {scope : Scope} {dV kV doc pm cdv ct oc : Value} {an od : Option Addr} {osl : Array (Option Value)} {N ps : List Str} {sp : Sp}
    (lk : K.lookup f = some ⟨oc, od, .func (PySem.W.fnOf name qual params body scope dV kV doc pm an cdv ct), osl⟩) (hcd : PySem.W.codeIn K cdv qual = true) (S : FnScope N ps scope) (len : ∀ vs H Q E, sp vs H Q E → vs.length = ps.length)
    (hb : ∀ (A : Around) (outer : List Env) (s : Shared) (H : Hp) (vs : List V) (Q : VK) (E : XK), A.guards = some [] → Room k (A.deeper (envOfC qual scope s.heap.objs.size f cdv)) → sp vs H Q E →
      ∃ t, PSs (cxOf CX P w K mg base N qual scope f cdv A outer s H E) body t ∧ t { nx := fun _ H' => Q .non H', rt := Q } (start N vs) H) : FnG P w K mg base CX (k + 1) f (PySem.W.fnOf name qual params body scope dV kV doc pm an cdv ct) ps sp := by
  refine ⟨len, fun A outer s H args us vs Q E hg hr e0 hbd r h => ?_⟩
  exact LamX.run_ofS lk hcd S hr e0 hbd r (len _ _ _ _ h) fun hr' => hb A outer s H vs Q E hg hr' h
theorem scRight : FnScope ["_law_rods_here", "_law_kept", "_law_told", "_law_rule_here", "_law_seen", "_law_old", "_law_rod"] ["_law_rods_here"] (defScope sRight) := ⟨rfl, rfl, rfl, by decide +kernel, rfl, by decide +kernel, by decide +kernel⟩
set_option maxHeartbeats 8000000 in
theorem ok_right {f : Addr} {Ts : List (Addr × Str)} {qual : Str} {oc kV doc pm ct : Value} {od an : Option Addr} {osl : Array (Option Value)}
    (lk : K.lookup f = some ⟨oc, od, .func (PySem.W.fnOf "_law_is_right" qual (defArgs sRight) (defBody sRight) (defScope sRight) .none kV doc pm an (.ref c) ct), osl⟩) (hcd : PySem.W.codeIn K (.ref c) qual = true)
    (T : TxtP K mg CR CE pR aR aI mc) (TR : TxtR K mg CR CE CH CA qRods aRods qTotal aTotal aOpts aEq aLen aOut aMk) (Z : SysB base)
    (GRods : FnOk P w K mg base CX0 1 aRods fdRods ["self"] (spGetRods CR)) (bRods : Binds K fdRods ["self"] []) (GTotal : FnOk P w K mg base CX0 1 aTotal fdTotal ["self"] (spTotal CR)) (bTotal : Binds K fdTotal ["self"] [])
    (GO : FnOk P w K mg base CX0 1 aOpts fdO ["self"] spOpts) (bO : Binds K fdO ["self"] []) (GE : FnG P w K mg base CX0 1 aEq fdE ["_law_actual", "_law_expected"] spEqual) (bE : Binds K fdE ["_law_actual", "_law_expected"] [])
    (GL : FnOk P w K mg base CX0 1 aLen fdL ["_law_value"] spIsRod) (bL : Binds K fdL ["_law_value"] []) (GM : FnOk P w K mg base (L2.CX P w) 5 aMk fdM ["_law_rods_here"] (spMk CR CE)) (bMk : Binds K fdM ["_law_rods_here"] [])
    (FO : Fun K "_law_outcome" "_law_outcome" sOut aOut fdOut) (bO' : Binds K fdOut ["_law_action"] [])
    (TB : LamX.TabB base mg c P1) (hmT : (P1, (envOfC qual (defScope sRight) 0 0 .none).qual ++ "<lambda>") ∈ Ts) (huT : ∀ p ∈ Ts, p.1 = P1 → p.2 = (envOfC qual (defScope sRight) 0 0 .none).qual ++ "<lambda>") :
    FnG P w K mg base CX0 8 f (PySem.W.fnOf "_law_is_right" qual (defArgs sRight) (defBody sRight) (defScope sRight) .none kV doc pm an (.ref c) ct) ["_law_rods_here"] (spRight Ts) := by
  obtain ⟨ocO, odO, kVO, docO, pmO, anO, cdvO, ctO, oslO, rfl, lkO, hcO⟩ := FO.ex
  refine okG_lk lk hcd scRight (fun vs H Q E h => ?_) (fun A outer s H vs Q E hg hr h => ?_)
  · obtain ⟨l, xs, ds, rfl, _⟩ := h
    rfl
  · obtain ⟨l, xs, ds, rfl, hl, h6, hd, hsm, hT, q⟩ := h
    have hcode : (cxOf CX0 P w K mg base ["_law_rods_here", "_law_kept", "_law_told", "_law_rule_here", "_law_seen", "_law_old", "_law_rod"] qual (defScope sRight) f (.ref c) A outer s H E).env.code = .ref c := rfl
    refine ⟨_, pss_cons (ps_set (i := 1) scRight.nd rfl (.inl rfl) (pe_callB (call_rep Z hg hr.units) (by rfl) TR.repr (by decide +kernel) (pa_cons (pv 0) pa_nil)))
      (pss_cons (ps_set (i := 2) scRight.nd rfl (.inl rfl) (LamX.pe_lamcall (T := Ts) (TT := TOut K CE) (t := fun E => tCall (spMk CR CE) [] E (tCons (tVar 0) tNil)) (by rfl) TR.gOut TR.kOut lkO hcO bO' scOut rfl (.inl rfl) (out_gives T.gE) TB hcode hmT huT (hr.mono (by decide)) (LamX.lamS_by (sc := defScope sRight) (by decide +kernel)) rfl (fun _ _ _ _ _ => rfl)
          (fun A2 o2 s2 H2 E2 f2 c2 hr2 => pe_call GM hr2 (by rfl) TR.gMk TR.kMk bMk .nil (passes_call (takes_of rfl rfl rfl rfl) (fun _ _ _ _ h => h)) (pa_cons (pv 0) pa_nil))))
      (pss_cons (ps_if (PW.pt (pw_or (pt_cmpR (op_eqNil hr.units) (pv 0) (pe_lst pa_nil) (nomark _)) (pw_or1 (pt_cmpR (op_neD hr.units) (pe_lc (own := [("_law_rod", 6)]) (g := gName 6) rfl scRight.nd (pi_list (pv 0)) (blkOk_by (own := [("_law_rod", 6)]) (N := ["_law_rods_here", "_law_kept", "_law_told", "_law_rule_here", "_law_seen", "_law_old", "_law_rod"]) (sc := defScope sRight) (by decide +kernel)) (fun _ _ _ _ _ => pg_name (i := 6) scRight.nd rfl (Or.inl rfl))
            (fun _ _ _ _ _ => pts_one (pt_not (pt_val (pe_call GL (hr.mono (by decide)) (by rfl) TR.gL TR.kL bL .nil pass0 (pa_cons (pv 6) pa_nil))))) (fun _ _ _ _ _ => pe_int)) (pe_lst pa_nil) (nomark _)))))
        (pss_one (ps_ret (pe_and (pe_cmpR (op_eqD hr.units) (pv 2) (pe_tup (pa_cons pe_str pa_nil)) (nomark _)) (pe_one (pe_cmpR op_eq (pe_callB (call_rep Z hg hr.units) (by rfl) TR.repr (by decide +kernel) (pa_cons (pv 0) pa_nil)) (pv 1) (nomark _)))))) pss_nil)
      (pss_cons (ps_if (PW.pt (pw_or (pt_cmpR op_ne (pe_ix ix_tup (pv 2) pe_int (fun _ _ => rfl)) pe_str (nomark _)) (pw_or1 (pt_not (pt_val (pe_callB call_isi (by rfl) T.isi (by decide +kernel) (pa_cons (pe_ix ix_tup (pv 2) pe_int (fun _ _ => rfl)) (pa_cons (pe_glob (v := .ref CR) (by rfl) T.gR rfl) pa_nil)))))))) (pss_one (ps_ret pe_bl)) pss_nil)
      (pss_cons (ps_set (i := 3) scRight.nd rfl (.inl rfl) (pe_ix ix_tup (pv 2) pe_int (fun _ _ => rfl)))
      (pss_cons (ps_set (i := 4) scRight.nd rfl (.inl rfl) (pe_lst (pa_cons (pe_prop (pv 3) T.cl TR.pRods GRods (hr.mono (by decide)) bRods .nil pass0 rfl) (pa_cons (pe_prop (pv 3) T.cl TR.pTotal GTotal (hr.mono (by decide)) bTotal .nil pass0 rfl) (pa_cons (pe_meth0 (pv 3) T.cl TR.mO GO (hr.mono (by decide)) bO .nil pass0) (pa_cons (pe_cmpR (op_eqSelf TR.eqC hr.units) (pv 3) (pv 3) (nomark _)) pa_nil))))))
      (pss_cons (ps_if (PW.pt (pw_or (pt_not (pt_val (pe_callG GE hg (hr.mono (by decide)) (by rfl) TR.gEq TR.kEq bE pass0 (pa_cons (pv 4) (pa_cons (pe_lst (pa_cons (pv 0) (pa_cons (pe_callB (cr_sum rfl) (by rfl) T.sum (by decide +kernel) (pa_cons (pv 0) pa_nil)) (pa_cons pe_dnewK (pa_cons pe_bl pa_nil))))) pa_nil))))) (pw_or1 (pt_val (pe_callB call_isiT (by rfl) T.isi (by decide +kernel) (pa_cons (pv 3) (pa_cons (pe_tup (pa_cons (pe_glob (v := .ref CH) (by rfl) TR.gH rfl) (pa_cons (pe_glob (v := .ref CA) (by rfl) TR.gA rfl) pa_nil))) pa_nil))))))) (pss_one (ps_ret pe_bl)) pss_nil)
      (pss_cons (ps_set (i := 5) scRight.nd rfl (.inl rfl) (pe_prop (pv 3) T.cl TR.pRods GRods (hr.mono (by decide)) bRods .nil pass0 rfl))
      (pss_cons (ps_expr (pe_bm PySem.F.plainAttrs_list PySem.F.slot_list_append PySem.F.type_list_append mt_append (pv 5) (pa_cons pe_int pa_nil)))
      (pss_cons (ps_asg pe_int (pg_sub (pv 5) pe_int set_list))
      (pss_one (ps_ret (pe_and (pe_callG GE hg (hr.mono (by decide)) (by rfl) TR.gEq TR.kEq bE pass0 (pa_cons (pe_lst (pa_cons (pe_prop (pv 3) T.cl TR.pRods GRods (hr.mono (by decide)) bRods .nil pass0 rfl) (pa_cons (pe_prop (pv 3) T.cl TR.pTotal GTotal (hr.mono (by decide)) bTotal .nil pass0 rfl) pa_nil))) (pa_cons (pe_lst (pa_cons (pv 0) (pa_cons (pe_callB (cr_sum rfl) (by rfl) T.sum (by decide +kernel) (pa_cons (pv 0) pa_nil)) pa_nil))) pa_nil))) (pe_one (pe_cmpR op_eq (pe_callB (call_rep Z hg hr.units) (by rfl) TR.repr (by decide +kernel) (pa_cons (pv 0) pa_nil)) (pv 1) (nomark _))))))))))))))), ?_⟩
    have hflat : ∀ y ∈ xs, Flat H y := fun y hy => let ⟨d, _, h⟩ := hd.mem y hy; Flat.of_dat h
    have hlen := hd.len
    have fitL : Fit (.list ds) := (sm_list hsm).fit (by omega) (by decide)
    have hdat : Dat H (.ref l) (.list ds) := .lst hl hd
    refine ⟨_, rfl, _, .list ds, rfl, hdat, fitL.sh, fitL.sz, fitL.dp, ?_⟩
    refine ⟨hT, fun H1 e1 T1 => ?_⟩
    have hl1 := e1 l _ hl (fun ps z => by cases z)
    have hd1 : Dat H1 (.ref l) (.list ds) := hdat.keep e1
    have hf1 : ∀ y ∈ xs, Flat H1 y := fun y hy => let ⟨d, _, h⟩ := hd.mem y hy; Flat.of_dat (h.keep e1)
    refine ⟨_, rfl, l, xs, rfl, hl1, h6, hf1, fun g r t H2 nr ra sm => ⟨by decide, fun tp ntp => ?_⟩, fun ng H2 sm => ⟨true, TR.te, fun _ tp ntp => ?_, fun z => nomatch z⟩⟩
    · obtain ⟨ns, exs, hns⟩ := good_ints g.2.2
      obtain ⟨dx, hr2, ht2⟩ := ra
      have s3 : Same H1 (upd H2 tp (.tup [.str "value", .ref r])) := Same.trans sm (same_upd ntp)
      have htp : (upd H2 tp (.tup [.str "value", .ref r])) tp = some (.tup [.str "value", .ref r]) := upd_same
      have hr3 := same_upd (o := .tup [.str "value", .ref r]) ntp _ _ hr2
      have ht3 := same_upd (o := .tup [.str "value", .ref r]) ntp _ _ ht2
      have hf3 : ∀ y ∈ xs, Flat (upd H2 tp (.tup [.str "value", .ref r])) y := fun y hy => (hf1 y hy).keep s3
      have hl3 := s3 _ _ hl1
      refine ⟨_, rfl, (by show 0 ≤ sizeLine; decide), fun e ne => ?_⟩
      have hl4 := same_upd (o := .lst []) ne _ _ hl3
      refine ⟨l, e, xs, rfl, rfl, hl4, upd_same, _, rfl, ?_⟩
      refine iteD (fun hx => absurd (congrArg List.length hx) (by have := g.1; rw [List.length_nil]; omega)) fun hx => ?_
      refine ⟨_, rfl, l, rfl, ⟨xs, .inl (.inl hl4)⟩, fun D nD => lc_list (K := K) (a := l) (xs := xs) (fun i H' => H' D = some (.lst (List.replicate (bads (xs.take i)) (.int 1))) ∧ Same (upd (upd H2 tp (.tup [.str "value", .ref r])) e (.lst [])) H') ?_ ?_ ?_ ?_⟩
      · exact ⟨upd_same, same_upd nD⟩
      · exact fun i H' _ h => .inl (.inl (h.2 _ _ hl4))
      · rintro i y H' hy ⟨hD', kp⟩
        have hm : y ∈ xs := List.mem_of_getElem? hy
        refine ⟨rfl, _, rfl, y, rfl, (hf3 y hm).keep (Same.trans (same_upd ne) kp), _, rfl, ?_⟩
        refine iteB (fun hb => ?_) fun hb => ?_
        · refine ⟨_, hD', ?_, ?_, fun b o e => ?_⟩
          · rw [List.length_replicate]
            have b1 := bads_le (xs.take i)
            have b2 := List.length_take_le i xs
            have b3 := List.length_take_le' i xs
            exact small1000 (by omega)
          · rw [upd_same, bads_take hy, if_pos hb, List.replicate_succ']
          · rw [upd_ne (ne_of_none e nD)]
            exact kp b o e
        · refine ⟨?_, kp⟩
          rw [bads_take hy, if_neg (by rw [hb]; exact Bool.false_ne_true)]
          exact hD'
      · rintro H5 ⟨hD', kp⟩
        rw [List.take_length] at hD'
        have c6 := bads_le xs
        obtain ⟨o1, o2⟩ := ones_shaped (bads xs) (by omega)
        refine ⟨(by show 0 ≤ sizeLine; decide), fun e2 ne2 => ?_⟩
        refine ⟨_, .list [], .lst (.inl (.inl (same_upd ne2 _ _ hD'))) (ones_dp _), .lst (.inl (.inl upd_same)) .nil, o1, nil_shaped, _, rfl, ?_⟩
        have cb : bads xs = 0 := bads_zero.mpr g.2.2
        rw [o2, decide_eq_true cb]
        refine iteF ?_
        subst exs
        have eds : ds = ns.map PyData.int := Dats.ints hd
        subst eds
        have S5 : ∀ b o, (upd H2 tp (.tup [.str "value", .ref r])) b = some o → H5 b = some o := fun b o z => kp _ _ (same_upd ne _ _ z)
        have tp6 := same_upd (o := .lst []) ne2 _ _ (S5 _ _ htp)
        have r6 := same_upd (o := .lst []) ne2 _ _ (S5 _ _ hr3)
        have t6 := same_upd (o := .lst []) ne2 _ _ (S5 _ _ ht3)
        have l6 := same_upd (o := .lst []) ne2 _ _ (S5 _ _ hl3)
        have S6 : Same H1 (upd H5 e2 (.lst [])) := Same.trans (Same.trans s3 S5) (same_upd ne2)
        -- if told[0] != "value" or not isinstance(told[1], Rule)
        refine ⟨_, rfl, tp, _, _, _, rfl, rfl, .inl (.inl tp6), rfl, rfl, _, rfl, ?_⟩
        refine iteNS rfl ?_
        refine ⟨_, rfl, tp, _, _, _, rfl, rfl, .inl (.inl tp6), rfl, _, _, _, _, _, rfl, .own CR, TR.ty T r6, kit_self K _, _, rfl, ?_⟩
        refine iteF ?_
        -- rule_here = told[1]
        refine ⟨_, rfl, tp, _, _, _, rfl, rfl, .inl (.inl tp6), rfl, ?_⟩
        -- seen
        refine ⟨_, rfl, r, dx, _, rfl, r6, r, t, _, rfl, ⟨dx, r6, t6⟩, fun l1 n1 => ?_⟩
        refine ⟨_, rfl, r, dx, _, rfl, same_upd n1 _ _ r6, r, t, ns, rfl, ⟨dx, same_upd n1 _ _ r6, same_upd n1 _ _ t6⟩, ?_⟩
        refine ⟨_, rfl, r, dx, _, rfl, same_upd n1 _ _ r6, rfl, _, rfl, fun d1 nd1 => ?_⟩
        have r8 := same_upd (o := .dK []) nd1 _ _ (same_upd (o := .lst (ns.map V.int)) n1 _ _ r6)
        have t8 := same_upd (o := .dK []) nd1 _ _ (same_upd (o := .lst (ns.map V.int)) n1 _ _ t6)
        have l8 := same_upd (o := .dK []) nd1 _ _ (same_upd (o := .lst (ns.map V.int)) n1 _ _ l6)
        have l1_8 := same_upd (o := .dK []) nd1 _ _ (upd_same : upd (upd H5 e2 (.lst [])) l1 (.lst (ns.map V.int)) l1 = _)
        refine ⟨_, rfl, _, rfl, r, dx, _, rfl, rfl, r8, ?_⟩
        refine ⟨(by show 4 ≤ sizeLine; decide), fun sl nsl => ?_⟩
        have sl9 : upd (upd (upd (upd H5 e2 (.lst [])) l1 (.lst (ns.map V.int))) d1 (.dK [])) sl (.lst [.ref l1, .int ns.sum, .ref d1, .bl true]) sl = _ := upd_same
        have S9 : Same (upd (upd (upd H5 e2 (.lst [])) l1 (.lst (ns.map V.int))) d1 (.dK [])) (upd (upd (upd (upd H5 e2 (.lst [])) l1 (.lst (ns.map V.int))) d1 (.dK [])) sl (.lst [.ref l1, .int ns.sum, .ref d1, .bl true])) := same_upd nsl
        have SS9 : Same H1 _ := Same.trans (Same.trans (Same.trans S6 (same_upd n1)) (same_upd nd1)) S9
        have r9 := S9 _ _ r8
        have t9 := S9 _ _ t8
        have l9 := S9 _ _ l8
        have l1_9 := S9 _ _ l1_8
        have d1_9 := S9 _ _ (upd_same : upd (upd (upd H5 e2 (.lst [])) l1 (.lst (ns.map V.int))) d1 (.dK []) d1 = _)
        clear l1_8 l8 t8 r8
        generalize upd (upd (upd (upd H5 e2 (.lst [])) l1 (.lst (ns.map V.int))) d1 (.dK [])) sl (.lst [.ref l1, .int ns.sum, .ref d1, .bl true]) = H9 at SS9 r9 t9 l9 l1_9 d1_9 sl9 ⊢
        clear S9
        have hb : ∀ n ∈ ns, 1 ≤ n ∧ n ≤ 40 := hns
        have hn6 : ns.length ≤ 6 := by rw [List.length_map] at h6; exact h6
        obtain ⟨fit4, fit2⟩ := seq_fit hn6 hb hsm
        -- if not equal or isinstance
        refine ⟨_, rfl, _, rfl, _, rfl, l, ns, rfl, .inl (.inl l9), fun d2 nd2 => ?_⟩
        refine ⟨(by show 4 ≤ sizeLine; decide), fun ll nll => ?_⟩
        have S11 : Same H9 (upd (upd H9 d2 (.dK [])) ll (.lst [.ref l, .int ns.sum, .ref d2, .bl true])) := Same.trans (same_upd nd2) (same_upd nll)
        have d2_11 : upd (upd H9 d2 (.dK [])) ll (.lst [.ref l, .int ns.sum, .ref d2, .bl true]) d2 = some (.dK []) := same_upd nll _ _ upd_same
        refine ⟨.ref sl, .ref ll, (.list [.list (ns.map PyData.int), .int ns.sum, .dict [], .bool true]), (.list [.list (ns.map PyData.int), .int ns.sum, .dict [], .bool true]), rfl, .lst (S11 _ _ sl9) (.cons (.lst (S11 _ _ l1_9) (dats_ints ns)) (.cons (.int _) (.cons (.dct (kvs := []) (S11 _ _ d1_9) .nil) (.cons (.bl true) .nil)))),
          .lst upd_same (.cons (.lst (S11 _ _ l9) (dats_ints ns)) (.cons (.int _) (.cons (.dct (kvs := []) d2_11 .nil) (.cons (.bl true) .nil)))), fit4, fit4, _, rfl, ?_⟩
        refine iteNS rfl ?_
        refine ⟨_, rfl, (by show 2 ≤ sizeLine; decide), fun tq ntq => ?_⟩
        have S12 : Same H9 (upd (upd (upd H9 d2 (.dK [])) ll (.lst [.ref l, .int ns.sum, .ref d2, .bl true])) tq (.tup [.ref CH, .ref CA])) := Same.trans S11 (same_upd ntq)
        have r12 := S12 _ _ r9
        have t12 := S12 _ _ t9
        have l12 := S12 _ _ l9
        refine ⟨_, tq, _, .ref CR, [.ref CH, .ref CA], false, rfl, upd_same, .cons (.own CH) (.cons (.own CA) .nil), TR.ty T r12, kitAny_cons TR.nH (fun _ => kitAny_cons TR.nA (fun _ => rfl) (fun z => nomatch z)) (fun z => nomatch z), _, rfl, ?_⟩
        refine iteF ?_
        have SS12 := Same.trans SS9 S12
        clear S11 S12 d2_11 SS9
        generalize (upd (upd (upd H9 d2 (.dK [])) ll (.lst [.ref l, .int ns.sum, .ref d2, .bl true])) tq (.tup [.ref CH, .ref CA])) = H12 at SS12 r12 t12 l12 ⊢
        -- old
        refine ⟨_, rfl, r, dx, _, rfl, r12, r, t, _, rfl, ⟨dx, r12, t12⟩, fun l2 n2 => ?_⟩
        refine ⟨_, rfl, .inl ⟨rfl, _, .inl (.inl upd_same)⟩, l2, _, _, rfl, rfl, upd_same, small1000 (by rw [List.length_map]; omega), ?_⟩
        refine ⟨_, rfl, l2, _, 0, 0, rfl, rfl, upd_same, ix0 (by rw [List.length_append]; simp), ?_⟩
        have S15 : Same H12 (upd (upd (upd H12 l2 (.lst (ns.map V.int))) l2 (.lst (ns.map V.int ++ [V.int 7]))) l2 (.lst ((ns.map V.int ++ [V.int 7]).set 0 (V.int 39)))) := fun b o z => by
          have nb := ne_of_none z n2
          rw [upd_ne nb, upd_ne nb, upd_ne nb]
          exact z
        have r15 := S15 _ _ r12
        have t15 := S15 _ _ t12
        have l15 := S15 _ _ l12
        have SS15 := Same.trans SS12 S15
        -- the end
        refine ⟨_, rfl, r, dx, _, rfl, r15, r, t, _, rfl, ⟨dx, r15, t15⟩, fun l3 n3 => ?_⟩
        refine ⟨_, rfl, r, dx, _, rfl, same_upd n3 _ _ r15, r, t, ns, rfl, ⟨dx, same_upd n3 _ _ r15, same_upd n3 _ _ t15⟩, (by show 2 ≤ sizeLine; decide), fun s2 ns2 => ?_⟩
        refine ⟨_, rfl, _, rfl, l, ns, rfl, .inl (.inl (same_upd ns2 _ _ (same_upd n3 _ _ l15))), (by show 2 ≤ sizeLine; decide), fun s3' ns3 => ?_⟩
        refine ⟨.ref s2, .ref s3', .list [.list (ns.map PyData.int), .int ns.sum], .list [.list (ns.map PyData.int), .int ns.sum], rfl, .lst (same_upd ns3 _ _ upd_same) (.cons (.lst (same_upd ns3 _ _ (same_upd ns2 _ _ upd_same)) (dats_ints ns)) (.cons (.int _) .nil)),
          .lst upd_same (.cons (.lst (same_upd ns3 _ _ (same_upd ns2 _ _ (same_upd n3 _ _ l15))) (dats_ints ns)) (.cons (.int _) .nil)), fit2, fit2, _, rfl, ?_⟩
        refine iteD (fun _ => ?_) fun z => absurd rfl z
        have SE := Same.trans (Same.trans (Same.trans SS15 (same_upd (o := .lst (ns.map V.int)) n3)) (same_upd (o := .lst [.ref l3, .int ns.sum]) ns2)) (same_upd (o := .lst [.ref l, .int ns.sum]) ns3)
        refine ⟨_, rfl, _, _, rfl, hd1.keep fun b o e _ => SE b o e, fitL.sh, fitL.sz, fitL.dp, _, rfl, rfl, ?_⟩
        show Q (.bl (decide (V.str (PyData.list (ns.map PyData.int)).shown = V.str (PyData.list (ns.map PyData.int)).shown))) _
        rw [decide_eq_true rfl]
        exact q _ (e1.trans (.of SE)) (T1.ext SE)
    · have s3 : Same H1 (upd H2 tp (.tup [.str "RodsError"])) := Same.trans sm (same_upd ntp)
      have htp : (upd H2 tp (.tup [.str "RodsError"])) tp = some (.tup [.str "RodsError"]) := upd_same
      have hf3 : ∀ y ∈ xs, Flat (upd H2 tp (.tup [.str "RodsError"])) y := fun y hy => (hf1 y hy).keep s3
      have hl3 := s3 _ _ hl1
      refine ⟨_, rfl, (by show 0 ≤ sizeLine; decide), fun e ne => ?_⟩
      have hl4 := same_upd (o := .lst []) ne _ _ hl3
      refine ⟨l, e, xs, rfl, rfl, hl4, upd_same, _, rfl, ?_⟩
      refine iteD (fun hx => ?_) fun hx => ?_
      · refine iteT ?_
        refine ⟨_, rfl, (by show 1 ≤ sizeLine; decide), fun e9 ne9 => ?_⟩
        refine ⟨.tuple [.str "RodsError"], .tuple [.str "RodsError"], .tup (.inl (.inl (same_upd ne9 _ _ (same_upd ne _ _ htp)))) (.cons (.str _) .nil), .tup (.inl (.inl upd_same)) (.cons (.str _) .nil), err_shaped.1, err_shaped.1, _, rfl, ?_⟩
        refine iteB (fun _ => ?_) fun z => absurd (z.symm.trans err_shaped.2) Bool.false_ne_true
        have S9 := Same.trans (Same.trans s3 (same_upd ne)) (same_upd (o := .tup [.str "RodsError"]) ne9)
        refine ⟨_, rfl, _, .list ds, rfl, hd1.keep fun b o e _ => S9 b o e, fitL.sh, fitL.sz, fitL.dp, _, rfl, rfl, ?_⟩
        show Q (.bl (decide (V.str (PyData.list ds).shown = V.str (PyData.list ds).shown))) _
        rw [decide_eq_true rfl]
        exact q _ (e1.trans (.of S9)) (T1.ext S9)
      · refine ⟨_, rfl, l, rfl, ⟨xs, .inl (.inl hl4)⟩, fun D nD => lc_list (K := K) (a := l) (xs := xs) (fun i H' => H' D = some (.lst (List.replicate (bads (xs.take i)) (.int 1))) ∧ Same (upd (upd H2 tp (.tup [.str "RodsError"])) e (.lst [])) H') ?_ ?_ ?_ ?_⟩
        · exact ⟨upd_same, same_upd nD⟩
        · exact fun i H' _ h => .inl (.inl (h.2 _ _ hl4))
        · rintro i y H' hy ⟨hD', kp⟩
          have hm : y ∈ xs := List.mem_of_getElem? hy
          refine ⟨rfl, _, rfl, y, rfl, (hf3 y hm).keep (Same.trans (same_upd ne) kp), _, rfl, ?_⟩
          refine iteB (fun hb => ?_) fun hb => ?_
          · refine ⟨_, hD', ?_, ?_, fun b o e => ?_⟩
            · rw [List.length_replicate]
              have b1 := bads_le (xs.take i)
              have b2 := List.length_take_le i xs
              have b3 := List.length_take_le' i xs
              exact small1000 (by omega)
            · rw [upd_same, bads_take hy, if_pos hb, List.replicate_succ']
            · rw [upd_ne (ne_of_none e nD)]
              exact kp b o e
          · refine ⟨?_, kp⟩
            rw [bads_take hy, if_neg (by rw [hb]; exact Bool.false_ne_true)]
            exact hD'
        · rintro H5 ⟨hD', kp⟩
          rw [List.take_length] at hD'
          have c6 := bads_le xs
          obtain ⟨o1, o2⟩ := ones_shaped (bads xs) (by omega)
          refine ⟨(by show 0 ≤ sizeLine; decide), fun e2 ne2 => ?_⟩
          refine ⟨_, .list [], .lst (.inl (.inl (same_upd ne2 _ _ hD'))) (ones_dp _), .lst (.inl (.inl upd_same)) .nil, o1, nil_shaped, _, rfl, ?_⟩
          have nb : bads xs ≠ 0 := fun z => ng ⟨List.length_pos_iff.mpr hx, by omega, bads_zero.mp z⟩
          rw [o2, decide_eq_false nb]
          refine iteT ?_
          refine ⟨_, rfl, (by show 1 ≤ sizeLine; decide), fun e9 ne9 => ?_⟩
          refine ⟨.tuple [.str "RodsError"], .tuple [.str "RodsError"], .tup (.inl (.inl (same_upd ne9 _ _ (same_upd ne2 _ _ (kp _ _ (same_upd ne _ _ htp)))))) (.cons (.str _) .nil), .tup (.inl (.inl upd_same)) (.cons (.str _) .nil), err_shaped.1, err_shaped.1, _, rfl, ?_⟩
          refine iteB (fun _ => ?_) fun z => absurd (z.symm.trans err_shaped.2) Bool.false_ne_true
          have S9 := Same.trans (Same.trans (Same.trans (Same.trans s3 (same_upd ne)) kp) (same_upd ne2)) (same_upd (o := .tup [.str "RodsError"]) ne9)
          refine ⟨_, rfl, _, .list ds, rfl, hd1.keep fun b o e _ => S9 b o e, fitL.sh, fitL.sz, fitL.dp, _, rfl, rfl, ?_⟩
          show Q (.bl (decide (V.str (PyData.list ds).shown = V.str (PyData.list ds).shown))) _
          rw [decide_eq_true rfl]
          exact q _ (e1.trans (.of S9)) (T1.ext S9)
end
end R7
namespace R7
open PySem PySem.Spec PyProof.Rows L2
abbrev sMany : Stmt := top 26
abbrev sFull : Stmt := top 27
def spMany (CE : Addr) : Sp := fun vs H Q E => ∃ n : Int, vs = [.int n] ∧ ∀ H', Same H H' → E (.ref CE) none H'
def spFull (Ts : List (Addr × Str)) : Sp := fun vs H Q _ => ∃ n : Int, vs = [.int n] ∧ 1 ≤ n ∧ n ≤ 40 ∧ LamX.Tabs Ts H ∧ ∀ H', LamX.ExtN H H' → LamX.Tabs Ts H' → Q (.bl true) H'
section
variable {P : Program} {w : World} {K : PySem.W.Frag} {mg : Str → Option Value} {base : Heap} {CR CE CH CA pR aR aI qRods aRods qTotal aTotal aOpts aEq aLen aOut aMk aMany c P2 fi : Addr} {mc : Value} {fdRods fdTotal fdE fdOut fdM : FuncData}
theorem scMany : FnScope ["_law_one", "_law_x"] ["_law_one"] (defScope sMany) := ⟨rfl, rfl, rfl, by decide +kernel, rfl, by decide +kernel, by decide +kernel⟩
theorem scFull : FnScope ["_law_one", "_law_x", "_law_full"] ["_law_one"] (defScope sFull) := ⟨rfl, rfl, rfl, by decide +kernel, rfl, by decide +kernel, by decide +kernel⟩
theorem ok_many {f : Addr} {fd : FuncData} (F : Fun K "_law_too_many" "_law_too_many" sMany f fd) (T : TxtP K mg CR CE pR aR aI mc) (MR : Mk K CR fi) (FR : FnR P w K mg base (L2.CX P w) 3 fi (spInit CR CE)) : FnOk P w K mg base (L2.CX P w) 5 f fd ["_law_one"] (spMany CE) := by
  refine F.okX scMany (fun vs H Q E h => ?_) (fun cdv A outer s H vs Q E hr h => ?_)
  · obtain ⟨n, rfl, _⟩ := h
    rfl
  · obtain ⟨n, rfl, hb⟩ := h
    have px : Passes (L2.CX P w) (cxOf (L2.CX P w) P w K mg base ["_law_one", "_law_x"] "_law_too_many" (defScope sMany) f cdv A outer s H E) E := passes_call (takes_of rfl rfl rfl rfl) (fun _ _ _ _ h => h)
    refine ⟨_, pss_cons (ps_set (i := 1) scMany.nd rfl (.inl rfl) (pv 0)) (pss_one (ps_ret (StX.pe_makeR MR FR hr (by rfl) T.gR px (pa_cons (pv 1) (pa_cons pe_int (pa_cons (pv 1) (pa_cons pe_int (pa_cons (pv 1) (pa_cons pe_int (pa_cons (pv 1) (pa_cons pe_int (pa_cons (pv 1) (pa_cons pe_int (pa_cons (pv 1) (pa_cons pe_int (pa_cons pe_int pa_nil)))))))))))))))), ?_⟩
    refine ⟨_, rfl, ?_⟩
    refine ⟨_, rfl, _, rfl, _, rfl, _, rfl, _, rfl, _, rfl, make_rule (fun y hy => ?_) (by simp) (fun g => absurd g.2.1 (by simp)) fun _ => hb⟩
    simp only [List.mem_cons, List.not_mem_nil, or_false] at hy
    rcases hy with rfl | rfl | rfl | rfl | rfl | rfl | rfl | rfl | rfl | rfl | rfl | rfl | rfl <;> exact .int _
theorem make_rule2 {CR CE x dx : Addr} {H : Hp} {xs : List V} {Q : VK} {E : XK} (nx : H x = none) (nd : H dx = none) (hf : ∀ y ∈ xs, Flat H y) (hl : xs.length ≤ 1000) (hg : Good xs → ∀ (t : Addr) (H' : Hp), RuleAt CR H' x t xs → Same H H' → Q .non H')
    (hb : ¬ Good xs → ∀ H', Same H H' → E (.ref CE) none H') : spInit CR CE (.ref x :: xs) (upd (upd H dx (.own x)) x (.ins CR dx [])) Q E := by
  have s1 : Same H (upd (upd H dx (.own x)) x (.ins CR dx [])) := fun b o e => by
    rw [upd_ne (ne_of_none e nx), upd_ne (ne_of_none e nd)]
    exact e
  refine ⟨[.ref x], xs, rfl, rfl, Nat.le_trans hl (by decide), fun p np => ?_⟩
  have s2 := same_upd (o := .tup xs) np
  refine ⟨x, dx, p, xs, rfl, s2 _ _ upd_same, upd_same, hl, fun y hy => (hf y hy).keep (s1.trans s2), fun g H' ra kp => hg g p H' ra fun b o e => kp b o (s2 _ _ (s1 _ _ e)) (ne_of_none e nx), fun g H' sm => hb g H' ((s1.trans s2).trans sm)⟩
theorem full_good {n : Int} (h0 : 1 ≤ n) (h1 : n ≤ 40) : Good [.int n, .int 1, .int n, .int 2, .int n, .int 3, .int n, .int 4, .int n, .int 5, .int n, .int 6] := by
  refine ⟨by simp, by simp, fun y hy => ?_⟩
  have hn : isLen (.int n) = true := by simp [isLen, h0, h1]
  simp only [List.mem_cons, List.not_mem_nil, or_false] at hy
  rcases hy with rfl | rfl | rfl | rfl | rfl | rfl | rfl | rfl | rfl | rfl | rfl | rfl <;> first | exact hn | rfl
theorem full_fit {n : Int} (h0 : 1 ≤ n) (h1 : n ≤ 40) : Fit (.list [.int (6 * n + 21), .list ([n, 1, n, 2, n, 3, n, 4, n, 5, n, 6].map PyData.int)]) := by
  have s1 : ∀ d ∈ [n, 1, n, 2, n, 3, n, 4, n, 5, n, 6].map PyData.int, Sm 3 0 d := fun d hd => by
    obtain ⟨m, hm, rfl⟩ := List.mem_map.mp hd
    simp only [List.mem_cons, List.not_mem_nil, or_false] at hm
    exact sm_int (by omega) (by omega)
  have s2 := sm_list s1
  refine (sm_list (n := 300) (k := 3) fun d hd => ?_).fit (by simp) (by decide)
  simp only [List.mem_cons, List.not_mem_nil, or_false] at hd
  rcases hd with rfl | rfl
  · exact (sm_int (by omega) (by omega)).mono (by decide) (by decide)
  · exact s2.mono (by simp) (by decide)
set_option maxHeartbeats 8000000 in
theorem ok_full {f : Addr} {Ts : List (Addr × Str)} {qual : Str} {oc kV doc pm ct : Value} {od an : Option Addr} {osl : Array (Option Value)}
    (lk : K.lookup f = some ⟨oc, od, .func (PySem.W.fnOf "_law_is_full" qual (defArgs sFull) (defBody sFull) (defScope sFull) .none kV doc pm an (.ref c) ct), osl⟩) (hcd : PySem.W.codeIn K (.ref c) qual = true)
    (T : TxtP K mg CR CE pR aR aI mc) (TR : TxtR K mg CR CE CH CA qRods aRods qTotal aTotal aOpts aEq aLen aOut aMk) (MR : Mk K CR fi) (FR : FnR P w K mg base (L2.CX P w) 3 fi (spInit CR CE))
    (GRods : FnOk P w K mg base CX0 1 aRods fdRods ["self"] (spGetRods CR)) (bRods : Binds K fdRods ["self"] []) (GTotal : FnOk P w K mg base CX0 1 aTotal fdTotal ["self"] (spTotal CR)) (bTotal : Binds K fdTotal ["self"] [])
    (GE : FnG P w K mg base CX0 1 aEq fdE ["_law_actual", "_law_expected"] spEqual) (bE : Binds K fdE ["_law_actual", "_law_expected"] [])
    (GM : FnOk P w K mg base (L2.CX P w) 5 aMany fdM ["_law_one"] (spMany CE)) (bM : Binds K fdM ["_law_one"] []) (gM : mg "_law_too_many" = some (.ref aMany)) (kM : PySem.W.keepIn K (.ref aMany) = true)
    (FO : Fun K "_law_outcome" "_law_outcome" sOut aOut fdOut) (bO' : Binds K fdOut ["_law_action"] [])
    (TB : LamX.TabB base mg c P2) (hmT : (P2, (envOfC qual (defScope sFull) 0 0 .none).qual ++ "<lambda>") ∈ Ts) (huT : ∀ p ∈ Ts, p.1 = P2 → p.2 = (envOfC qual (defScope sFull) 0 0 .none).qual ++ "<lambda>") :
    FnG P w K mg base CX0 8 f (PySem.W.fnOf "_law_is_full" qual (defArgs sFull) (defBody sFull) (defScope sFull) .none kV doc pm an (.ref c) ct) ["_law_one"] (spFull Ts) := by
  obtain ⟨ocO, odO, kVO, docO, pmO, anO, cdvO, ctO, oslO, rfl, lkO, hcO⟩ := FO.ex
  refine okG_lk lk hcd scFull (fun vs H Q E h => ?_) (fun A outer s H vs Q E hg hr h => ?_)
  · obtain ⟨n, rfl, _⟩ := h
    rfl
  · obtain ⟨n, rfl, n0, n1, hT, q⟩ := h
    have hcode : (cxOf CX0 P w K mg base ["_law_one", "_law_x", "_law_full"] qual (defScope sFull) f (.ref c) A outer s H E).env.code = .ref c := rfl
    refine ⟨_, pss_cons (ps_set (i := 1) scFull.nd rfl (.inl rfl) (pv 0))
      (pss_cons (ps_set (i := 2) scFull.nd rfl (.inl rfl) (StX.pe_makeR MR FR (hr.mono (by decide)) (by rfl) T.gR passL (pa_cons (pv 1) (pa_cons pe_int (pa_cons (pv 1) (pa_cons pe_int (pa_cons (pv 1) (pa_cons pe_int (pa_cons (pv 1) (pa_cons pe_int (pa_cons (pv 1) (pa_cons pe_int (pa_cons (pv 1) (pa_cons pe_int pa_nil))))))))))))))
      (pss_cons (ps_if (pt_not (pt_val (pe_callG GE hg (hr.mono (by decide)) (by rfl) TR.gEq TR.kEq bE pass0
          (pa_cons (pe_lst (pa_cons (pe_prop (pv 2) T.cl TR.pTotal GTotal (hr.mono (by decide)) bTotal .nil pass0 rfl) (pa_cons (pe_prop (pv 2) T.cl TR.pRods GRods (hr.mono (by decide)) bRods .nil pass0 rfl) pa_nil)))
          (pa_cons (pe_lst (pa_cons (pe_op op_add (pe_op op_mul pe_int (pv 0)) pe_int) (pa_cons (pe_lst (pa_cons (pv 1) (pa_cons pe_int (pa_cons (pv 1) (pa_cons pe_int (pa_cons (pv 1) (pa_cons pe_int (pa_cons (pv 1) (pa_cons pe_int (pa_cons (pv 1) (pa_cons pe_int (pa_cons (pv 1) (pa_cons pe_int pa_nil))))))))))))) pa_nil))) pa_nil))))) (pss_one (ps_ret pe_bl)) pss_nil)
      (pss_one (ps_ret (pe_cmpR (op_eqD hr.units) (LamX.pe_lamcall (T := Ts) (TT := TOut K CE) (t := fun E => tCall (spMany CE) [] E (tCons (tVar 0) tNil)) (by rfl) TR.gOut TR.kOut lkO hcO bO' scOut rfl (.inl rfl) (out_gives T.gE) TB hcode hmT huT (hr.mono (by decide)) (LamX.lamS_by (sc := defScope sFull) (by decide +kernel)) rfl (fun _ _ _ _ _ => rfl)
          (fun A2 o2 s2 H2 E2 f2 c2 hr2 => pe_call GM hr2 (by rfl) gM kM bM .nil (passes_call (takes_of rfl rfl rfl rfl) (fun _ _ _ _ h => h)) (pa_cons (pv 0) pa_nil))) (pe_tup (pa_cons pe_str pa_nil)) (nomark _)))))), ?_⟩
    refine ⟨_, rfl, ?_⟩
    refine ⟨_, rfl, _, rfl, _, rfl, _, rfl, _, rfl, _, rfl, fun r dx0 nr nd0 ne0 => ?_⟩
    refine make_rule2 (xs := [.int n, .int 1, .int n, .int 2, .int n, .int 3, .int n, .int 4, .int n, .int 5, .int n, .int 6]) nr nd0 (fun y hy => ?_) (by simp) (fun g t H1 ra s1 => ?_) (fun ng => absurd (full_good n0 n1) ng)
    · simp only [List.mem_cons, List.not_mem_nil, or_false] at hy
      rcases hy with rfl | rfl | rfl | rfl | rfl | rfl | rfl | rfl | rfl | rfl | rfl | rfl <;> exact .int _
    · refine ⟨rfl, ?_⟩
      obtain ⟨dx, hr1, ht1⟩ := ra
      have hsum : [n, 1, n, 2, n, 3, n, 4, n, 5, n, 6].sum = 6 * n + 21 := by
        simp only [List.sum_cons, List.sum_nil]
        omega
      refine ⟨_, rfl, r, dx, _, rfl, hr1, r, t, [n, 1, n, 2, n, 3, n, 4, n, 5, n, 6], rfl, ⟨dx, hr1, ht1⟩, ?_⟩
      refine ⟨_, rfl, r, dx, _, rfl, hr1, r, t, _, rfl, ⟨dx, hr1, ht1⟩, fun l1 nl1 => ?_⟩
      refine ⟨(by show 2 ≤ sizeLine; decide), fun l2 nl2 => ?_⟩
      refine ⟨_, rfl, _, _, rfl, rfl, .inl ⟨by decide, by decide⟩, _, _, rfl, rfl, ?_⟩
      refine ⟨_, rfl, _, rfl, _, rfl, _, rfl, _, rfl, _, rfl, (by show 12 ≤ sizeLine; decide), fun l3 nl3 => ?_⟩
      refine ⟨(by show 2 ≤ sizeLine; decide), fun l4 nl4 => ?_⟩
      have fit := full_fit n0 n1
      refine ⟨.ref l2, .ref l4, .list [.int (6 * n + 21), .list ([n, 1, n, 2, n, 3, n, 4, n, 5, n, 6].map PyData.int)], .list [.int (6 * n + 21), .list ([n, 1, n, 2, n, 3, n, 4, n, 5, n, 6].map PyData.int)], rfl,
        .lst (same_upd nl4 _ _ (same_upd nl3 _ _ upd_same)) (.cons (by rw [← hsum]; exact .int _) (.cons (.lst (same_upd nl4 _ _ (same_upd nl3 _ _ (same_upd nl2 _ _ upd_same))) (dats_ints [n, 1, n, 2, n, 3, n, 4, n, 5, n, 6])) .nil)),
        .lst upd_same (.cons (.int _) (.cons (.lst (same_upd nl4 _ _ upd_same) (dats_ints [n, 1, n, 2, n, 3, n, 4, n, 5, n, 6])) .nil)), fit, fit, _, rfl, ?_⟩
      refine iteNS rfl ?_
      have S4 := Same.trans (Same.trans (Same.trans (Same.trans s1 (same_upd (o := .lst [.int n, .int 1, .int n, .int 2, .int n, .int 3, .int n, .int 4, .int n, .int 5, .int n, .int 6]) nl1)) (same_upd (o := .lst [.int [n, 1, n, 2, n, 3, n, 4, n, 5, n, 6].sum, .ref l1]) nl2)) (same_upd (o := .lst [.int n, .int 1, .int n, .int 2, .int n, .int 3, .int n, .int 4, .int n, .int 5, .int n, .int 6]) nl3)) (same_upd (o := .lst [.int (6 * n + 21), .ref l3]) nl4)
      refine ⟨hT.ext S4, fun H5 e5 T5 => ?_⟩
      refine ⟨_, rfl, n, rfl, fun H6 s6 => ⟨true, TR.te, fun _ tp ntp => ?_, fun z => nomatch z⟩⟩
      refine ⟨(by show 1 ≤ sizeLine; decide), fun tq ntq => ?_⟩
      refine ⟨.tuple [.str "RodsError"], .tuple [.str "RodsError"], .tup (.inl (.inl (same_upd ntq _ _ upd_same))) (.cons (.str _) .nil), .tup (.inl (.inl upd_same)) (.cons (.str _) .nil), err_shaped.1, err_shaped.1, ?_⟩
      rw [err_shaped.2]
      have S8 := Same.trans (Same.trans s6 (same_upd (o := .tup [.str "RodsError"]) ntp)) (same_upd (o := .tup [.str "RodsError"]) ntq)
      exact q _ ((LamX.ExtN.of S4).trans (e5.trans (.of S8))) (T5.ext S8)
end
end R7
namespace R7
open PySem PySem.Spec PyProof.Rows L2
abbrev sLaw : Stmt := top 28
structure TxtL (K : PySem.W.Frag) (mg : Str → Option Value) (CF CB CH CA aCell aSource aDraw aRo aOdd aRight aFull : Addr) (mc : Value) : Prop where
  range : mg "range" = none
  max : mg "max" = none
  min : mg "min" = none
  gF : mg "FoldError" = some (.ref CF)
  gB : mg "Bound" = some (.ref CB)
  rdH : ClX.CRead K CH mc
  rdA : ClX.CRead K CA mc
  rdB : ClX.CRead K CB mc
  cH : ∃ u, ClX.CVal K CH mc "MOST_RODS" (.int 12) u
  cA : ∃ u, ClX.CVal K CA mc "MOST_LENGTH" (.int 40) u
  cB : ∃ u, ClX.CVal K CB mc "MOST_LENGTH" (.int 40) u
  gCell : mg "_law_cell" = some (.ref aCell)
  kCell : PySem.W.keepIn K (.ref aCell) = true
  gSource : mg "_law_source" = some (.ref aSource)
  kSource : PySem.W.keepIn K (.ref aSource) = true
  gDraw : mg "_law_draw" = some (.ref aDraw)
  kDraw : PySem.W.keepIn K (.ref aDraw) = true
  gRods : mg "_law_rods" = some (.ref aRo)
  kRods : PySem.W.keepIn K (.ref aRo) = true
  gOdd : mg "_law_odd" = some (.ref aOdd)
  kOdd : PySem.W.keepIn K (.ref aOdd) = true
  gRight : mg "_law_is_right" = some (.ref aRight)
  kRight : PySem.W.keepIn K (.ref aRight) = true
  gFull : mg "_law_is_full" = some (.ref aFull)
  kFull : PySem.W.keepIn K (.ref aFull) = true
/-- the reading of a body that is read -/
@[reducible] def tsOf {X : Cx} {st : List Stmt} {t : TS} (_ : PSs X st t) : TS := t
def tryBody : List Stmt → List Stmt
  | [.Try b _ _ _ _] => b
  | _ => []
def spLaw (K : PySem.W.Frag) (Ts : List (Addr × Str)) : Sp := fun vs H Q _ => ∃ (a : Addr) (ns : List Int), vs = [.ref a] ∧ SqL K H a (ns.map V.int) ∧ ns.length ≤ 63 ∧ LamX.Tabs Ts H ∧ ∀ H', Q (.bl true) H'
/-! ### what the law keeps -/
/-- at p nothing but a table may have stood -/
def NF (H : Hp) (p : Addr) : Prop := ∀ o, H p = some o → ∃ ps, o = .tbl ps
structure J (Ts : List (Addr × Str)) (H : Hp) (p : Addr) (H' : Hp) : Prop where
  ext : LamX.ExtN H H'
  tabs : LamX.Tabs Ts H'
  src : Src H' p
theorem nf_of {H H' : Hp} {p : Addr} (e : LamX.ExtN H H') (n : H' p = none) : NF H p := fun o ho => by
  cases o with
  | tbl ps => exact ⟨ps, rfl⟩
  | _ =>
    have z := e p _ ho (fun ps z => by cases z)
    rw [n] at z
    cases z
theorem tabs_kp {Ts : List (Addr × Str)} {H H' : Hp} {p : Addr} (h : LamX.Tabs Ts H) (s : Src H p) (k : Kp p H H') : LamX.Tabs Ts H' := fun t ht => by
  obtain ⟨ps, h1, h2, h3⟩ := h t ht
  obtain ⟨a, b, c, hs⟩ := s
  refine ⟨ps, k _ _ h1 (ne_of h1 hs (by intro z; cases z)), h2, fun pos cv hc => ?_⟩
  obtain ⟨c', e1, e2⟩ := h3 pos cv hc
  exact ⟨c', e1, k _ _ e2 (ne_of e2 hs (by intro z; cases z))⟩
theorem J.kp {Ts : List (Addr × Str)} {H H' H'' : Hp} {p : Addr} (j : J Ts H p H') (nf : NF H p) (k : Kp p H' H'') (s : Src H'' p) : J Ts H p H'' := by
  refine ⟨fun b o e n => ?_, tabs_kp j.tabs j.src k, s⟩
  refine k b o (j.ext b o e n) fun z => ?_
  rw [z] at e
  obtain ⟨ps, hp⟩ := nf o e
  exact n ps hp
theorem J.go {Ts : List (Addr × Str)} {H H' H'' : Hp} {p : Addr} (j : J Ts H p H') (e : LamX.ExtN H' H'') (t : LamX.Tabs Ts H'') : J Ts H p H'' := by
  obtain ⟨a, b, c, hs⟩ := j.src
  exact ⟨j.ext.trans e, t, ⟨a, b, c, e _ _ hs (fun ps z => by cases z)⟩⟩
theorem J.same {Ts : List (Addr × Str)} {H H' H'' : Hp} {p : Addr} (j : J Ts H p H') (s : Same H' H'') : J Ts H p H'' := j.go (.of s) (j.tabs.ext s)
theorem J.upd {Ts : List (Addr × Str)} {H H' : Hp} {p b : Addr} {xs ys : List V} (j : J Ts H p H') (e : H' b = some (.lst xs)) (nf : NF H b) (ne : b ≠ p) : J Ts H p (upd H' b (.lst ys)) := by
  refine ⟨fun c o z n => ?_, fun t ht => ?_, ?_⟩
  · rw [upd_ne (fun q => by
      rw [q] at z
      obtain ⟨ps, hp⟩ := nf o z
      exact n ps hp)]
    exact j.ext c o z n
  · obtain ⟨ps, h1, h2, h3⟩ := j.tabs t ht
    refine ⟨ps, by rw [upd_ne (ne_of h1 e (by intro z; cases z))]; exact h1, h2, fun pos cv hc => ?_⟩
    obtain ⟨c', e1, e2⟩ := h3 pos cv hc
    exact ⟨c', e1, by rw [upd_ne (ne_of e2 e (by intro z; cases z))]; exact e2⟩
  · obtain ⟨u1, u2, u3, hu⟩ := j.src
    exact ⟨u1, u2, u3, by rw [upd_ne ne.symm]; exact hu⟩
theorem seqL_ext {K : PySem.W.Frag} {H H' : Hp} {a : Addr} {xs : List V} (h : SqL K H a xs) (e : LamX.ExtN H H') : SqL K H' a xs := by
  rcases h with h | h
  · rcases h with h | ⟨o, h⟩
    · exact .inl (.inl (e _ _ h (fun ps z => by cases z)))
    · exact .inl (.inr ⟨o, e _ _ h (fun ps z => by cases z)⟩)
  · exact .inr h
theorem Dats.set {H : Hp} {x : V} {d : PyData} (h : Dat H x d) : ∀ {xs : List V} {ds : List PyData} (j : Nat), Dats H xs ds → Dats H (xs.set j x) (ds.set j d)
  | _, _, _, .nil => .nil
  | _, _, 0, .cons _ t => .cons h t
  | _, _, j + 1, .cons a t => .cons a (Dats.set h j t)
theorem Dat.fresh {H0 H H' : Hp} {x : V} {d : PyData} (h : Dat (fresh H0 H) x d) (k : ∀ a o, H0 a = none → H a = some o → H' a = some o) : Dat H' x d := h.keep fun b o e _ => by
  obtain ⟨n, z⟩ := fresh_some e
  exact k b o n z
theorem lim_fit : Fit (.list [.int 12, .int 40, .int 12, .int 40, .int 40]) := ⟨by decide +kernel, by decide +kernel, by decide +kernel⟩
theorem bools_fit (b : Bool) : Fit (.list [.bool b, .bool true]) := by cases b <;> exact ⟨by decide +kernel, by decide +kernel, by decide +kernel⟩
theorem sm_rods {ns : List Int} (hb : ∀ n ∈ ns, 1 ≤ n ∧ n ≤ 40) : ∀ d ∈ ns.map PyData.int, Sm 20 2 d := fun d hd => by
  obtain ⟨m, hm, rfl⟩ := List.mem_map.mp hd
  have := hb m hm
  exact (sm_int (by omega) (by omega)).mono (by decide) (by decide)
theorem ixN_nat {n : Nat} {r : Int} (h0 : 0 ≤ r) (h1 : r < n) : ixN n r = some r.toNat := by
  unfold ixN
  rw [if_pos h0, if_pos (by omega)]
section
variable {P : Program} {w : World} {K : PySem.W.Frag} {mg : Str → Option Value} {base : Heap} {CR CE CH CA CF CB pR aR aI qRods aRods qTotal aTotal aOpts aEq aLen aOut aMk aCell aSource aDraw aRo aOdd aRight aFull : Addr} {mc : Value} {fdE fdL fdR fdF fdC fdS fdD fdRo fdOdd fdIsRod : FuncData}
theorem scLaw : FnScope ["_law_script", "_law_limits", "_law_k", "_law_source_here", "_law_lap", "_law_rods_here", "_law_bent", "_law_value"] ["_law_script"] (defScope sLaw) := ⟨rfl, rfl, rfl, by decide +kernel, rfl, by decide +kernel, by decide +kernel⟩
set_option maxHeartbeats 8000000 in
theorem ok_law {f : Addr} {fd : FuncData} {Ts : List (Addr × Str)} (F : Fun K "law" "law" sLaw f fd)
    (T : TxtP K mg CR CE pR aR aI mc) (TR : TxtR K mg CR CE CH CA qRods aRods qTotal aTotal aOpts aEq aLen aOut aMk) (TL : TxtL K mg CF CB CH CA aCell aSource aDraw aRo aOdd aRight aFull mc)
    (GE : FnG P w K mg base CX0 1 aEq fdE ["_law_actual", "_law_expected"] spEqual) (bE : Binds K fdE ["_law_actual", "_law_expected"] [])
    (GL : FnOk P w K mg base CX0 1 aLen fdL ["_law_value"] spIsRod) (bL : Binds K fdL ["_law_value"] [])
    (GR : FnG P w K mg base CX0 8 aRight fdR ["_law_rods_here"] (spRight Ts)) (bR : Binds K fdR ["_law_rods_here"] [])
    (GF : FnG P w K mg base CX0 8 aFull fdF ["_law_one"] (spFull Ts)) (bF : Binds K fdF ["_law_one"] [])
    (GC : FnOk P w K mg base CX0 1 aCell fdC ["_law_script", "_law_index"] (spCell K)) (bC : Binds K fdC ["_law_script", "_law_index"] [])
    (GS : FnOk P w K mg base CX0 1 aSource fdS ["_law_cell_here"] spSource) (bS : Binds K fdS ["_law_cell_here"] [])
    (GD : FnOk P w K mg base CX0 1 aDraw fdD ["_law_source_here", "_law_many"] spDraw) (bD : Binds K fdD ["_law_source_here", "_law_many"] [])
    (GRo : FnOk P w K mg base CX0 2 aRo fdRo ["_law_source_here", "_law_most"] spRods) (bRo : Binds K fdRo ["_law_source_here", "_law_most"] [])
    (GOdd : FnOk P w K mg base CX0 3 aOdd fdOdd ["_law_source_here"] spOdd) (bOdd : Binds K fdOdd ["_law_source_here"] [])
    (GIsRod : FnOk P w K mg base CX0 2 aR fdIsRod ["thing"] spIsRod) (bIsRod : Binds K fdIsRod ["thing"] []) : FnG P w K mg base CX0 9 f fd ["_law_script"] (spLaw K Ts) := by
  refine fun_okG F scLaw (fun vs H Q E h => ?_) (fun cdv A outer s H vs Q E hg _ hr h => ?_)
  · obtain ⟨a, ns, rfl, _⟩ := h
    rfl
  · obtain ⟨a, ns, rfl, hs, hn, hT, q⟩ := h
    refine ⟨_, pss_one (ps_try_only (c := .ref CF) (tb := fun _ => tsOf (X := (cxOf CX0 P w K mg base ["_law_script", "_law_limits", "_law_k", "_law_source_here", "_law_lap", "_law_rods_here", "_law_bent", "_law_value"] "law" (defScope sLaw) f cdv A outer s H E).nox) (st := tryBody (defBody sLaw)) (pss_cons (ps_set (i := 1) scLaw.nd rfl (.inl rfl) (pe_lst (pa_cons (ClX.pe_cval (f := "MOST_RODS") (pe_glob (x := "Rule") (v := .ref CR) (by rfl) T.gR rfl)) (pa_cons (ClX.pe_cval (f := "MOST_LENGTH") (pe_glob (x := "Rule") (v := .ref CR) (by rfl) T.gR rfl)) (pa_cons (ClX.pe_cval (f := "MOST_RODS") (pe_glob (x := "Held") (v := .ref CH) (by rfl) TR.gH rfl)) (pa_cons (ClX.pe_cval (f := "MOST_LENGTH") (pe_glob (x := "Aimed") (v := .ref CA) (by rfl) TR.gA rfl)) (pa_cons (ClX.pe_cval (f := "MOST_LENGTH") (pe_glob (x := "Bound") (v := .ref CB) (by rfl) TL.gB rfl)) pa_nil))))))) (pss_cons (ps_if (pt_not (pt_val (pe_callG GE hg (hr.mono (by decide)) (by rfl) TR.gEq TR.kEq bE pass0 (pa_cons (pv 1) (pa_cons (pe_lst (pa_cons pe_int (pa_cons pe_int (pa_cons pe_int (pa_cons pe_int (pa_cons pe_int pa_nil)))))) pa_nil))))) (pss_one (ps_ret pe_bl)) pss_nil) (pss_cons (ps_for PassesOwn.never rfl (pi_range1 (by rfl) TL.range (pa_cons (pe_callB (call_max2 rfl) (by rfl) TL.max (by decide +kernel) (pa_cons pe_int (pa_cons (pe_callB (call_min2 rfl) (by rfl) TL.min (by decide +kernel) (pa_cons (pe_callB call_len_seq (by rfl) T.len PySem.boot_len (pa_cons (pv 0) pa_nil)) (pa_cons pe_int pa_nil))) pa_nil))) pa_nil)) (pg_name (i := 2) scLaw.nd rfl (.inl rfl)) (pss_cons (ps_set (i := 3) scLaw.nd rfl (.inl rfl) (pe_call GS (hr.mono (by decide)) (by rfl) TL.gSource TL.kSource bS .nil pass0 (pa_cons (pe_call GC (hr.mono (by decide)) (by rfl) TL.gCell TL.kCell bC .nil pass0 (pa_cons (pv 0) (pa_cons (pv 2) pa_nil))) pa_nil))) (pss_cons (ps_if (pt_not (pt_val (pe_callG GF hg (hr.mono (by decide)) (by rfl) TL.gFull TL.kFull bF pass0 (pa_cons (pe_op op_add pe_int (pe_call GD (hr.mono (by decide)) (by rfl) TL.gDraw TL.kDraw bD .nil pass0 (pa_cons (pv 3) (pa_cons pe_int pa_nil)))) pa_nil)))) (pss_one (ps_ret pe_bl)) pss_nil) (pss_one (ps_for PassesOwn.never rfl (pi_range1 (by rfl) TL.range (pa_cons pe_int pa_nil)) (pg_name (i := 4) scLaw.nd rfl (.inl rfl)) (pss_cons (ps_set (i := 5) scLaw.nd rfl (.inl rfl) (pe_call GRo (hr.mono (by decide)) (by rfl) TL.gRods TL.kRods bRo .nil pass0 (pa_cons (pv 3) (pa_cons pe_int pa_nil)))) (pss_cons (ps_set (i := 6) scLaw.nd rfl (.inl rfl) (pe_callTy call_list_of (by rfl) T.list (by decide +kernel) (pa_cons (pv 5) pa_nil))) (pss_cons (ps_asg (pe_call GOdd (hr.mono (by decide)) (by rfl) TL.gOdd TL.kOdd bOdd .nil pass0 (pa_cons (pv 3) pa_nil)) (pg_sub (pv 6) (pe_call GD (hr.mono (by decide)) (by rfl) TL.gDraw TL.kDraw bD .nil pass0 (pa_cons (pv 3) (pa_cons (pe_callB call_len_seq (by rfl) T.len PySem.boot_len (pa_cons (pv 5) pa_nil)) pa_nil))) set_list)) (pss_cons (ps_if (PW.pt (pw_or (pt_not (pt_val (pe_callG GR hg (hr.mono (by decide)) (by rfl) TL.gRight TL.kRight bR pass0 (pa_cons (pv 5) pa_nil)))) (pw_or (pt_not (pt_val (pe_callG GR hg (hr.mono (by decide)) (by rfl) TL.gRight TL.kRight bR pass0 (pa_cons (pv 6) pa_nil)))) (pw_or1 (pt_not (pt_val (pe_callG GR hg (hr.mono (by decide)) (by rfl) TL.gRight TL.kRight bR pass0 (pa_cons (pe_lst (pa_cons (pe_call GOdd (hr.mono (by decide)) (by rfl) TL.gOdd TL.kOdd bOdd .nil pass0 (pa_cons (pv 3) pa_nil)) pa_nil)) pa_nil)))))))) (pss_one (ps_ret pe_bl)) pss_nil) (pss_cons (ps_set (i := 7) scLaw.nd rfl (.inl rfl) (pe_call GOdd (hr.mono (by decide)) (by rfl) TL.gOdd TL.kOdd bOdd .nil pass0 (pa_cons (pv 3) pa_nil))) (pss_one (ps_if (pt_not (pt_val (pe_callG GE hg (hr.mono (by decide)) (by rfl) TR.gEq TR.kEq bE pass0 (pa_cons (pe_lst (pa_cons (pe_smeth (pe_glob (v := .ref CR) (by rfl) T.gR rfl) T.rd T.sm GIsRod (hr.mono (by decide)) bIsRod pass0 (pa_cons (pv 7) pa_nil)) (pa_cons (pe_smeth (pe_glob (v := .ref CR) (by rfl) T.gR rfl) T.rd T.sm GIsRod (hr.mono (by decide)) bIsRod pass0 (pa_cons (pe_ix ix_list (pv 5) pe_int (fun _ _ => rfl)) pa_nil)) pa_nil))) (pa_cons (pe_lst (pa_cons (pe_call GL (hr.mono (by decide)) (by rfl) TR.gL TR.kL bL .nil pass0 (pa_cons (pv 7) pa_nil)) (pa_cons pe_bl pa_nil))) pa_nil))))) (pss_one (ps_ret pe_bl)) pss_nil)))))))))))) (pss_one (ps_ret (pe_callG GR hg (hr.mono (by decide)) (by rfl) TL.gRight TL.kRight bR pass0 (pa_cons (pe_lst pa_nil) pa_nil)))))))) rfl rfl ⟨by rfl, by decide, .inl TL.gF⟩ LamX.takes0 (fun W pn xe tk po => (pss_cons (ps_set (i := 1) scLaw.nd rfl (.inl rfl) (pe_lst (pa_cons (ClX.pe_cval (f := "MOST_RODS") (pe_glob (x := "Rule") (v := .ref CR) (by rfl) T.gR rfl)) (pa_cons (ClX.pe_cval (f := "MOST_LENGTH") (pe_glob (x := "Rule") (v := .ref CR) (by rfl) T.gR rfl)) (pa_cons (ClX.pe_cval (f := "MOST_RODS") (pe_glob (x := "Held") (v := .ref CH) (by rfl) TR.gH rfl)) (pa_cons (ClX.pe_cval (f := "MOST_LENGTH") (pe_glob (x := "Aimed") (v := .ref CA) (by rfl) TR.gA rfl)) (pa_cons (ClX.pe_cval (f := "MOST_LENGTH") (pe_glob (x := "Bound") (v := .ref CB) (by rfl) TL.gB rfl)) pa_nil))))))) (pss_cons (ps_if (pt_not (pt_val (pe_callG GE hg (hr.mono (by decide)) (by rfl) TR.gEq TR.kEq bE pass0 (pa_cons (pv 1) (pa_cons (pe_lst (pa_cons pe_int (pa_cons pe_int (pa_cons pe_int (pa_cons pe_int (pa_cons pe_int pa_nil)))))) pa_nil))))) (pss_one (ps_ret pe_bl)) pss_nil) (pss_cons (ps_for po rfl (pi_range1 (by rfl) TL.range (pa_cons (pe_callB (call_max2 rfl) (by rfl) TL.max (by decide +kernel) (pa_cons pe_int (pa_cons (pe_callB (call_min2 rfl) (by rfl) TL.min (by decide +kernel) (pa_cons (pe_callB call_len_seq (by rfl) T.len PySem.boot_len (pa_cons (pv 0) pa_nil)) (pa_cons pe_int pa_nil))) pa_nil))) pa_nil)) (pg_name (i := 2) scLaw.nd rfl (.inl rfl)) (pss_cons (ps_set (i := 3) scLaw.nd rfl (.inl rfl) (pe_call GS (hr.mono (by decide)) (by rfl) TL.gSource TL.kSource bS .nil pass0 (pa_cons (pe_call GC (hr.mono (by decide)) (by rfl) TL.gCell TL.kCell bC .nil pass0 (pa_cons (pv 0) (pa_cons (pv 2) pa_nil))) pa_nil))) (pss_cons (ps_if (pt_not (pt_val (pe_callG GF hg (hr.mono (by decide)) (by rfl) TL.gFull TL.kFull bF pass0 (pa_cons (pe_op op_add pe_int (pe_call GD (hr.mono (by decide)) (by rfl) TL.gDraw TL.kDraw bD .nil pass0 (pa_cons (pv 3) (pa_cons pe_int pa_nil)))) pa_nil)))) (pss_one (ps_ret pe_bl)) pss_nil) (pss_one (ps_for po rfl (pi_range1 (by rfl) TL.range (pa_cons pe_int pa_nil)) (pg_name (i := 4) scLaw.nd rfl (.inl rfl)) (pss_cons (ps_set (i := 5) scLaw.nd rfl (.inl rfl) (pe_call GRo (hr.mono (by decide)) (by rfl) TL.gRods TL.kRods bRo .nil pass0 (pa_cons (pv 3) (pa_cons pe_int pa_nil)))) (pss_cons (ps_set (i := 6) scLaw.nd rfl (.inl rfl) (pe_callTy call_list_of (by rfl) T.list (by decide +kernel) (pa_cons (pv 5) pa_nil))) (pss_cons (ps_asg (pe_call GOdd (hr.mono (by decide)) (by rfl) TL.gOdd TL.kOdd bOdd .nil pass0 (pa_cons (pv 3) pa_nil)) (pg_sub (pv 6) (pe_call GD (hr.mono (by decide)) (by rfl) TL.gDraw TL.kDraw bD .nil pass0 (pa_cons (pv 3) (pa_cons (pe_callB call_len_seq (by rfl) T.len PySem.boot_len (pa_cons (pv 5) pa_nil)) pa_nil))) set_list)) (pss_cons (ps_if (PW.pt (pw_or (pt_not (pt_val (pe_callG GR hg (hr.mono (by decide)) (by rfl) TL.gRight TL.kRight bR pass0 (pa_cons (pv 5) pa_nil)))) (pw_or (pt_not (pt_val (pe_callG GR hg (hr.mono (by decide)) (by rfl) TL.gRight TL.kRight bR pass0 (pa_cons (pv 6) pa_nil)))) (pw_or1 (pt_not (pt_val (pe_callG GR hg (hr.mono (by decide)) (by rfl) TL.gRight TL.kRight bR pass0 (pa_cons (pe_lst (pa_cons (pe_call GOdd (hr.mono (by decide)) (by rfl) TL.gOdd TL.kOdd bOdd .nil pass0 (pa_cons (pv 3) pa_nil)) pa_nil)) pa_nil)))))))) (pss_one (ps_ret pe_bl)) pss_nil) (pss_cons (ps_set (i := 7) scLaw.nd rfl (.inl rfl) (pe_call GOdd (hr.mono (by decide)) (by rfl) TL.gOdd TL.kOdd bOdd .nil pass0 (pa_cons (pv 3) pa_nil))) (pss_one (ps_if (pt_not (pt_val (pe_callG GE hg (hr.mono (by decide)) (by rfl) TR.gEq TR.kEq bE pass0 (pa_cons (pe_lst (pa_cons (pe_smeth (pe_glob (v := .ref CR) (by rfl) T.gR rfl) T.rd T.sm GIsRod (hr.mono (by decide)) bIsRod pass0 (pa_cons (pv 7) pa_nil)) (pa_cons (pe_smeth (pe_glob (v := .ref CR) (by rfl) T.gR rfl) T.rd T.sm GIsRod (hr.mono (by decide)) bIsRod pass0 (pa_cons (pe_ix ix_list (pv 5) pe_int (fun _ _ => rfl)) pa_nil)) pa_nil))) (pa_cons (pe_lst (pa_cons (pe_call GL (hr.mono (by decide)) (by rfl) TR.gL TR.kL bL .nil pass0 (pa_cons (pv 7) pa_nil)) (pa_cons pe_bl pa_nil))) pa_nil))))) (pss_one (ps_ret pe_bl)) pss_nil)))))))))))) (pss_one (ps_ret (pe_callG GR hg (hr.mono (by decide)) (by rfl) TL.gRight TL.kRight bR pass0 (pa_cons (pe_lst pa_nil) pa_nil)))))))) (fun a oe cls d pn _ _ => pss_one (ps_ret pe_bl))), ?_⟩
    obtain ⟨uR, hR⟩ := T.cR
    obtain ⟨uL, hL⟩ := T.cL
    obtain ⟨uH, hH⟩ := TL.cH
    obtain ⟨uA, hA⟩ := TL.cA
    obtain ⟨uB, hB⟩ := TL.cB
    refine ⟨CR, mc, _, _, rfl, T.rd, hR, CR, mc, _, _, rfl, T.rd, hL, CH, mc, _, _, rfl, TL.rdH, hH, CA, mc, _, _, rfl, TL.rdA, hA, CB, mc, _, _, rfl, TL.rdB, hB, (by show 5 ≤ sizeLine; decide), fun lm nlm => ?_⟩
    refine ⟨_, rfl, (by show 5 ≤ sizeLine; decide), fun l2 nl2 => ?_⟩
    refine ⟨.ref lm, .ref l2, .list [.int 12, .int 40, .int 12, .int 40, .int 40], .list [.int 12, .int 40, .int 12, .int 40, .int 40], rfl, .lst (same_upd nl2 _ _ upd_same) (.cons (.int _) (.cons (.int _) (.cons (.int _) (.cons (.int _) (.cons (.int _) .nil))))),
      .lst upd_same (.cons (.int _) (.cons (.int _) (.cons (.int _) (.cons (.int _) (.cons (.int _) .nil))))), lim_fit, lim_fit, _, rfl, ?_⟩
    refine iteNS rfl ?_
    have S2 := Same.trans (same_upd (o := .lst [.int 12, .int 40, .int 12, .int 40, .int 40]) nlm) (same_upd (o := .lst [.int 12, .int 40, .int 12, .int 40, .int 40]) nl2)
    refine ⟨_, rfl, a, _, rfl, .inl (seqL_ext hs (.of S2)), _, _, rfl, _, _, rfl, _, rfl, (by split <;> (try split) <;> omega), (by split <;> (try split) <;> omega), for_range (lo := 0) (fun i σ H' => ∃ v2 v3 v4 v5 v6 v7 : Option V,
      σ = [some (.ref a), some (.ref lm), v2, v3, v4, v5, v6, v7] ∧ LamX.ExtN H H' ∧ LamX.Tabs Ts H') ?_ ?_ ?_⟩
    · exact ⟨_, _, _, _, _, _, rfl, .of S2, hT.ext S2⟩
    · rintro i σ H1 hi ⟨v2, v3, v4, v5, v6, v7, rfl, e1, T1⟩
      refine ⟨_, rfl, _, rfl, a, ns, _, rfl, seqL_ext hs e1, by omega, fun z => ⟨z, rfl, fun p H2 np bo2 sr2 => ?_⟩⟩
      have nf := nf_of e1 np
      have S12 : Same H1 H2 := fun b o e => (bo2 b (ne_of_none e np)).trans e
      have j2 : J Ts H p H2 := ⟨e1.trans (.of S12), T1.ext S12, sr2⟩
      refine ⟨_, rfl, p, 40, rfl, sr2, by decide, by decide, fun r H3 r0 r1 bo3 sr3 => ?_⟩
      have j3 := j2.kp nf bo3.kp sr3
      refine ⟨_, _, rfl, rfl, _, rfl, by omega, by omega, j3.tabs, fun H4 e4 T4 => ⟨_, rfl, ?_⟩⟩
      refine iteF ?_
      have j4 := j3.go e4 T4
      refine ⟨12, rfl, by decide, by decide, for_range (lo := 0) (n := 12) (fun i' σ H' => ∃ v4 v5 v6 v7 : Option V,
        σ = [some (.ref a), some (.ref lm), some (.int (0 + (i : Int))), some (.ref p), v4, v5, v6, v7] ∧ J Ts H p H') ?_ ?_ ?_⟩
      · exact ⟨_, _, _, _, rfl, j4⟩
      · rintro i' σ H5 hi' ⟨v4, v5, v6, v7, rfl, j5⟩
        refine ⟨_, rfl, p, 6, rfl, j5.src, by decide, by decide, fun l ms H6 nl m1 m6 hb hl6 kp6 sr6 => ?_⟩
        have j6 := j5.kp nf kp6 sr6
        have hlp : l ≠ p := j5.src.ne nl
        have ml : (ms.map V.int).length = ms.length := List.length_map _
        -- bent = list(rods_here)
        refine ⟨_, rfl, l, _, rfl, .inl (.inl (.inl hl6)), fun b nb => ?_⟩
        have S7 := same_upd (o := .lst (ms.map V.int)) nb
        have j7 := j6.same S7
        have hbp : b ≠ p := j6.src.ne nb
        have hlb : l ≠ b := ne_of_none hl6 nb
        -- bent[draw] = odd
        refine ⟨_, rfl, p, rfl, j7.src, fun x d H8 dx smx kp8 sr8 => ?_⟩
        have j8 := j7.kp nf kp8 sr8
        have hl8 := kp8 l _ (S7 _ _ hl6) hlp
        have hb8 := kp8 b _ upd_same hbp
        refine ⟨_, rfl, _, rfl, _, rfl, l, _, rfl, .inl (.inl (.inl hl8)), p, _, rfl, sr8, by omega, by omega, fun r' H9 r0' r1' bo9 sr9 => ?_⟩
        have j9 := j8.kp nf bo9.kp sr9
        have hl9 := (bo9 l hlp).trans hl8
        have hb9 := (bo9 b hbp).trans hb8
        refine ⟨b, _, _, _, rfl, rfl, hb9, ixN_nat r0' r1', ?_⟩
        have nfb : NF H b := nf_of j6.ext nb
        have j10 := j9.upd hb9 nfb hbp (ys := (ms.map V.int).set r'.toNat x)
        have hl10 : upd H9 b (.lst ((ms.map V.int).set r'.toNat x)) l = some (.lst (ms.map V.int)) := (upd_ne hlb).trans hl9
        have hb10 : upd H9 b (.lst ((ms.map V.int).set r'.toNat x)) b = some (.lst ((ms.map V.int).set r'.toNat x)) := upd_same
        have dx10 : Dat (upd H9 b (.lst ((ms.map V.int).set r'.toNat x))) x d := dx.fresh fun c o n e => by
          have cp : c ≠ p := fun z => by
            obtain ⟨u1, u2, u3, hu⟩ := j7.src
            rw [z, hu] at n
            cases n
          have cb : c ≠ b := fun z => by
            rw [z, upd_same] at n
            cases n
          exact (upd_ne cb).trans ((bo9 c cp).trans e)
        -- is_right(rods_here), is_right(bent), is_right([odd])
        refine ⟨_, rfl, l, ms.map V.int, ms.map PyData.int, rfl, hl10, by rw [ml]; omega, dats_ints ms, sm_rods hb, j10.tabs, fun H11 e11 T11 => ⟨_, rfl, ?_⟩⟩
        refine iteF ?_
        have j11 := j10.go e11 T11
        have hl11 := e11 l _ hl10 (fun ps z => by cases z)
        have hb11 := e11 b _ hb10 (fun ps z => by cases z)
        have dx11 := dx10.keep e11
        refine ⟨_, rfl, b, _, (ms.map PyData.int).set r'.toNat d, rfl, hb11, by rw [List.length_set, ml]; omega, Dats.set dx11 _ (dats_ints ms), fun d' hd' => ?_, j11.tabs, fun H12 e12 T12 => ⟨_, rfl, ?_⟩⟩
        · rcases List.mem_or_eq_of_mem_set hd' with z | z
          · exact sm_rods hb d' z
          · rw [z]
            exact smx
        refine iteF ?_
        have j12 := j11.go e12 T12
        have hl12 := e12 l _ hl11 (fun ps z => by cases z)
        refine ⟨_, rfl, p, rfl, j12.src, fun y dy H13 fy smy kp13 sr13 => ?_⟩
        have j13 := j12.kp nf kp13 sr13
        have hl13 := kp13 l _ hl12 hlp
        have dy13 : Dat H13 y dy := fy.fresh fun _ _ _ e => e
        refine ⟨(by show 1 ≤ sizeLine; decide), fun lo nlo => ?_⟩
        have S13 := same_upd (o := .lst [y]) nlo
        have j13' := j13.same S13
        have hl13' := S13 _ _ hl13
        refine ⟨lo, [y], [dy], rfl, upd_same, by simp, .cons (dy13.keep fun c o e _ => S13 c o e) .nil, by simpa using smy, j13'.tabs, fun H14 e14 T14 => ⟨_, rfl, ?_⟩⟩
        refine iteF ?_
        have j14 := j13'.go e14 T14
        have hl14 := e14 l _ hl13' (fun ps z => by cases z)
        -- value
        refine ⟨_, rfl, p, rfl, j14.src, fun v dv H15 fv smv kp15 sr15 => ?_⟩
        have j15 := j14.kp nf kp15 sr15
        have hl15 := kp15 l _ hl14 hlp
        have dv15 : Dat H15 v dv := fv.fresh fun _ _ _ e => e
        cases ms with
        | nil => exact absurd m1 (by simp)
        | cons n0 rest =>
          have b0 := hb n0 List.mem_cons_self
          have hn0 : isLen (.int n0) = true := by simp [isLen, b0.1, b0.2]
          refine ⟨rfl, _, rfl, v, rfl, Flat.of_dat dv15, rfl, _, rfl, l, _, 0, _, rfl, rfl, .inl (.inl hl15), atI_nat (xs := (n0 :: rest).map V.int) (j := 0) (v := .int n0) rfl, .int n0, rfl, .int n0, (by show 2 ≤ sizeLine; decide), fun l1 nl1 => ?_⟩
          have S16 := same_upd (o := .lst [.bl (isLen v), .bl (isLen (.int n0))]) nl1
          refine ⟨_, rfl, v, rfl, Flat.of_dat (dv15.keep fun c o e _ => S16 c o e), (by show 2 ≤ sizeLine; decide), fun l2' nl2' => ?_⟩
          have S17 := same_upd (o := .lst [.bl (isLen v), .bl true]) nl2'
          refine ⟨.ref l1, .ref l2', .list [.bool (isLen v), .bool true], .list [.bool (isLen v), .bool true], rfl, .lst (S17 _ _ upd_same) (.cons (.bl _) (.cons (by rw [hn0]; exact .bl true) .nil)), .lst upd_same (.cons (.bl _) (.cons (.bl true) .nil)), bools_fit _, bools_fit _, _, rfl, ?_⟩
          refine iteNS rfl ?_
          exact ⟨_, _, _, _, rfl, (j15.same S16).same S17⟩
      · rintro σ H5 ⟨v4, v5, v6, v7, rfl, j5⟩
        exact ⟨_, _, _, _, _, _, rfl, j5.ext, j5.tabs⟩
    · rintro σ H1 ⟨v2, v3, v4, v5, v6, v7, rfl, e1, T1⟩
      refine ⟨(by show 0 ≤ sizeLine; decide), fun l nl => ?_⟩
      exact ⟨l, [], [], rfl, upd_same, by simp, .nil, by simp, T1.ext (same_upd nl), fun H' _ _ => q H'⟩
end
end R7
/-! The end of a law whose def is promised by FnG, with tables of code objects. -/
namespace R7
open PySem PySem.Spec PyProof.Rows L2
/-- what is tracked when the law is called: the tables, and the script unless it is written -/
def lawH (TS : List Addr) (a : Addr) (free : Bool) (u : HO) : Hp := fun b => if b ∈ TS then some (.tbl #[]) else if (b == a && free) = true then some u else none
theorem lawH_t {TS : List Addr} {a b : Addr} {free : Bool} {u : HO} (h : b ∈ TS) : lawH TS a free u b = some (.tbl #[]) := if_pos h
theorem lawH_a {TS : List Addr} {a : Addr} {u : HO} (h : a ∉ TS) : lawH TS a true u a = some u := by
  unfold lawH
  rw [if_neg h, if_pos (by simp)]
theorem lawH_cases {TS : List Addr} {a b : Addr} {free : Bool} {u o : HO} (e : lawH TS a free u b = some o) : (b ∈ TS ∧ o = .tbl #[]) ∨ (b = a ∧ free = true ∧ o = u) := by
  unfold lawH at e
  by_cases hb : b ∈ TS
  · rw [if_pos hb] at e
    exact .inl ⟨hb, (Option.some.inj e).symm⟩
  · rw [if_neg hb] at e
    by_cases hc : (b == a && free) = true
    · rw [if_pos hc] at e
      simp only [Bool.and_eq_true, beq_iff_eq] at hc
      exact .inr ⟨hc.1, hc.2, (Option.some.inj e).symm⟩
    · rw [if_neg hc] at e
      cases e
theorem lawH_none {TS : List Addr} {a b : Addr} {free : Bool} {u : HO} (h1 : b ∉ TS) (h2 : b = a → free = false) : lawH TS a free u b = none := by
  unfold lawH
  rw [if_neg h1, if_neg]
  intro hc
  simp only [Bool.and_eq_true, beq_iff_eq] at hc
  rw [h2 hc.1] at hc
  cases hc.2
theorem end_call {P : Program} {w : World} {K : PySem.W.Frag} {mg mb : Str → Option Value} {k : Nat} {fa a : Addr} {cs : List (Addr × Addr)} {fd : FuncData} {x : Str} {sp : Sp} {s : Shared} {vs : List Value} {ns : List Int}
    (KX : K.In s.heap) (hns : s.heap.Ns mainGlobals mg) (hbn : s.heap.Ns builtinsNs mb) (hbb : ∀ y : Str, y ≠ "__name__" → mb y = bootBuiltins y) (hlim : s.heap.NoLimit) (hgens : s.gens = #[]) (hsys : ∃ mm, s.heap.Ns sysModules mm)
    (hT : ∀ p ∈ cs, s.heap.get? p.2 = some { cls := .none, data := .fields #[] }) (nT : ∀ p ∈ cs, K.lookup p.2 = none) (hC : ∀ p ∈ cs, PySem.W.CodeHd s.heap p.1 p.2)
    (hbm : ∃ (bm : Addr) (ob : Obj), mg "__builtins__" = some (.ref bm) ∧ bm ≠ builtinsNs ∧ s.heap.get? bm = some ob ∧ ob.cls = .type "module" ∧ ob.dict = some builtinsNs ∧ ob.data = .plain)
    (ha : s.heap.get? a = some { cls := .type "list", data := .seq vs.toArray }) (hi : IntsAre vs ns) (hl : ns.length ≤ sizeLine) (hr : Room k callerA)
    (F : ∀ base : Heap, K.In base → base.Ns mainGlobals mg → SysB base → (∀ p ∈ cs, LamX.TabB base mg p.1 p.2) → FnG P w K mg base CX0 k fa fd [x] sp) (hbind : ∀ (s : Shared) (u : Value), BindsTo s fd ⟨[u], []⟩ [(x, u)])
    (hsp : ∀ H : Hp, (∀ p ∈ cs, H p.2 = some (.tbl #[])) → SqL K H a (ns.map V.int) → sp [.ref a] H (fun v _ => v = .bl true) fun _ _ _ => False) :
    codeAny (model P w) callerA (.call (.ref fa) ⟨[.ref a], []⟩) (fun r s' => r = .ok (.ret (.bool true)) ∧ OldK s.heap s'.heap ∧ s'.os = s.os ∧ AllBare s'.gens) s := by
  have rv := vals_ints hi
  have lenV := hi.length
  generalize eTS : cs.map (·.2) = TS
  have inT : ∀ p ∈ cs, p.2 ∈ TS := fun p hp => eTS ▸ List.mem_map.mpr ⟨p, hp, rfl⟩
  have outT : ∀ b ∈ TS, ∃ p ∈ cs, p.2 = b := fun b hb => by
    rw [← eTS] at hb
    exact List.mem_map.mp hb
  have isT : ∀ b ∈ TS, s.heap.get? b = some { cls := .none, data := .fields #[] } := fun b hb => by
    obtain ⟨p, hp, e⟩ := outT b hb
    exact e ▸ hT p hp
  have aT : a ∉ TS := fun z => by
    have e := isT a z
    rw [ha] at e
    exact absurd (congrArg Obj.data (Option.some.inj e)) (by intro q; cases q)
  generalize ef : (K.lookup a).isNone = free
  generalize eu : HO.frz { cls := .type "list", data := .seq vs.toArray } (.lst (ns.map V.int)) = u
  generalize eH : lawH TS a free u = H
  have Hc : ∀ {b o}, H b = some o → (b ∈ TS ∧ o = .tbl #[]) ∨ (b = a ∧ free = true ∧ o = u) := fun {b o} e => lawH_cases (eH ▸ e)
  have kT : ∀ b ∈ TS, K.lookup b = none := fun b hb => by
    obtain ⟨p, hp, e⟩ := outT b hb
    exact e ▸ nT p hp
  -- what is no list and no empty table is not tracked
  have off : ∀ {b : Addr} {o : Obj}, s.heap.get? b = some o → (∀ us n, o.data ≠ .seq us n) → o.data ≠ .fields #[] → H b = none := fun {b o} e n1 n2 => by
    cases q : H b with
    | none => rfl
    | some v =>
      rcases Hc q with ⟨z, _⟩ | ⟨z, _, _⟩
      · rw [isT b z] at e
        exact absurd rfl ((Option.some.inj e) ▸ n2)
      · rw [z, ha] at e
        exact absurd rfl ((Option.some.inj e) ▸ n1 _ _)
  have up : ∀ {b : Addr} {o : Obj}, s.heap.get? b = some o → H b = none → (hidT s.heap H).get? b = some o := fun e n => hidT_get e n
  have upNs : ∀ {b : Addr} {m : Str → Option Value}, s.heap.Ns b m → (hidT s.heap H).Ns b m := fun {b m} h => by
    obtain ⟨o, es, ep, e, d, r⟩ := h
    exact ⟨o, es, ep, up e (off e (fun us n z => by rw [d] at z; cases z) (fun z => by rw [d] at z; cases z)), d, r⟩
  have hK : K.In (hidT s.heap H) := fun b o e => by
    refine up (KX b o e) ?_
    cases q : H b with
    | none => rfl
    | some v =>
      rcases Hc q with ⟨z, _⟩ | ⟨z, z2, _⟩
      · rw [kT b z] at e
        cases e
      · rw [z] at e
        rw [e] at ef
        rw [← ef] at z2
        cases z2
  have hM : Mod K mg (hidT s.heap H) := by
    obtain ⟨mc, h1, h2⟩ := hlim
    exact ⟨hK, upNs hns, ⟨mb, upNs hbn, hbb⟩, ⟨mc, upNs h1, h2⟩⟩
  have hS : SysB (hidT s.heap H) := by
    obtain ⟨mm, h⟩ := hsys
    obtain ⟨o, es, ep, e, _⟩ := upNs h
    exact ⟨o, e⟩
  have hTB : ∀ p ∈ cs, LamX.TabB (hidT s.heap H) mg p.1 p.2 := fun p hp => by
    refine ⟨?_, ?_, fun z => ?_⟩
    · obtain ⟨o, us, f1, f2, f3, f4, f5, f6, f7, e1, r1, r2, r3, rest⟩ := hC p hp
      refine ⟨o, us, f1, f2, f3, f4, f5, f6, f7, up e1 (off e1 (fun ws n z => by rw [r2] at z; cases z) fun z => ?_), r1, r2, r3, rest⟩
      rw [r2] at z
      injection z with z
      rw [z] at r3
      simp at r3
    · obtain ⟨bm, ob, b1, b2, b3, b4, b5, b6⟩ := hbm
      have g1 : bm ≠ mainGlobals := fun q => by
        obtain ⟨o, es, ep, e, d, _⟩ := hns
        rw [q, e] at b3
        rw [Option.some.inj b3, b6] at d
        cases d
      have g2 : bm ≠ p.2 := fun q => by
        rw [q, hT p hp] at b3
        rw [← Option.some.inj b3] at b6
        cases b6
      exact ⟨bm, ob, b1, b2, g1, g2, up b3 (off b3 (fun ws n z => by rw [b6] at z; cases z) fun z => by rw [b6] at z; cases z), b4, b5, b6⟩
    · obtain ⟨o, es, ep, e, d, _⟩ := hns
      rw [z, hT p hp] at e
      rw [← Option.some.inj e] at d
      cases d
  have hok : HOk P w H s.heap := fun b o q => by
    rcases Hc q with ⟨z, e⟩ | ⟨z, _, e⟩
    · rw [e]
      exact isT b z
    · rw [e, ← eu, z]
      exact ⟨ha, by rw [List.length_map]; exact hl, vs, _, rv, ha⟩
  have hSq : SqL K H a (ns.map V.int) := by
    cases q : K.lookup a with
    | none =>
      rw [q] at ef
      have ef' : true = free := ef
      refine .inl (.inr ⟨{ cls := .type "list", data := .seq vs.toArray }, ?_⟩)
      rw [← eH, ← ef', ← eu]
      exact lawH_a aT
    | some o =>
      have e := KX a o q
      rw [ha] at e
      rw [← Option.some.inj e] at q
      exact .inr ⟨_, vs.toArray, _, q, rfl, rfl, rfl, by rw [List.size_toArray, lenV]; exact hl, by simpa using rv⟩
  have hTt : ∀ p ∈ cs, H p.2 = some (.tbl #[]) := fun p hp => by
    rw [← eH]
    exact lawH_t (inT p hp)
  have e0 : Env0 P w K mg (hidT s.heap H) callerA [] s H := ⟨rfl, hM, fun b o e => of_hidT e, Nat.le_of_eq (hidT_size _ _), trivial, fun b hb => absurd hb (by simp [frs]), hok, .of_eq hgens⟩
  refine codeAny_mono ((F _ hK (upNs hns) hS hTB).go callerA [] s H ⟨[.ref a], []⟩ [.ref a] [.ref a] (fun v _ => v = .bl true) (fun _ _ _ => False) rfl hr e0 (hbind s (.ref a)) (.cons rfl .nil) (hsp H hTt hSq)) fun r s' h => ?_
  cases r with
  | error e => exact h.elim
  | ok fl =>
    cases fl with
    | next => exact h.elim
    | brk => exact h.elim
    | cont => exact h.elim
    | ret v =>
      obtain ⟨y, H', os, bare, un, ok', ry, q⟩ := h
      have q' : y = .bl true := q
      rw [q'] at ry
      obtain rfl : v = Value.bool true := ry
      have stays : ∀ b o, b ∉ TS → s.heap.get? b = some o → s'.heap.get? b = some o := fun b o nb e => by
        cases qb : H b with
        | none => exact un.keep b o e qb (by simp [frs]) (by simp)
        | some v =>
          rcases Hc qb with ⟨z, _⟩ | ⟨z, _, z3⟩
          · exact absurd z nb
          · rw [z3, ← eu] at qb
            have z2 := ok' b _ (un.frzs b _ _ qb)
            have z4 := hok b _ qb
            have e5 := z4.1
            rw [e] at e5
            rw [Option.some.inj e5]
            exact z2.1
      have grows : ∀ b ∈ TS, ∃ more : Array Value, s'.heap.get? b = some { cls := .none, data := .fields more } := fun b hb => by
        obtain ⟨p, hp, e⟩ := outT b hb
        obtain ⟨more, z⟩ := un.tbls p.2 #[] (hTt p hp)
        rw [← e]
        exact ⟨_, ok' p.2 _ z⟩
      refine ⟨rfl, ⟨fun b o e => ?_, fun b o e => ?_⟩, os, bare⟩
      · by_cases hb : b ∈ TS
        · obtain ⟨p, hp, ep⟩ := outT b hb
          obtain ⟨more, hm⟩ := grows b hb
          have e2 := e
          rw [isT b hb] at e2
          rw [← Option.some.inj e2]
          exact .inr (.inl ⟨by rw [← ep]; exact ((hC p hp).tab (hT p hp)).isCodeTable, rfl, #[], more, rfl, by rw [Array.empty_append]; exact hm⟩)
        · exact .inl (stays b o hb e)
      · by_cases hb : b ∈ TS
        · obtain ⟨more, hm⟩ := grows b hb
          exact ⟨_, hm⟩
        · exact ⟨o, stays b o hb e⟩
end R7
namespace R7
open PySem PySem.Spec PyProof.Rows L2
theorem kit_ref {K : PySem.W.Frag} {t : Value} {C : Addr} {r : Bool} (i : PySem.W.isClsIn K C = true) (ty : PySem.W.typeIn K (.ref C) = some (.type "type")) (s : PySem.W.subIn K t (.ref C) = some r) : PySem.W.kitCls K t (.ref C) = some r := by
  have i' : (PySem.W.clsIn K C).isSome = true := i
  show (if ((PySem.W.clsIn K C).isSome && PySem.W.typeIn K (.ref C) == some (.type "type")) = true then PySem.W.subIn K t (.ref C) else none) = some r
  rw [i', ty, if_pos (by decide)]
  exact s
theorem kit_ne {K : PySem.W.Frag} {A B : Addr} {r : Bool} (h : A ≠ B) (k : PySem.W.kitCls K (.ref A) (.ref B) = some r) : PySem.W.kitOne K (.ref A) (.ref B) = some r := by
  unfold PySem.W.kitOne
  rw [if_neg (fun z => h (by have := eq_of_beq z; injection this))]
  exact k
theorem exm_ref {K : PySem.W.Frag} {c : Value} {C : Addr} {r : Bool} (b : PySem.W.subIn K (.ref C) (.type "BaseException") = some true) (k : PySem.W.kitCls K c (.ref C) = some r) : PySem.W.exmOne K c (.ref C) = some r := by
  unfold PySem.W.exmOne
  rw [b, if_pos (beq_self_eq_true _)]
  exact k
theorem nsOk_of {K : PySem.W.Frag} {N : Addr} {oc : Value} {od : Option Addr} {es : Array DictEntry} {n : Nat} {sl : Array (Option Value)} (l : K.lookup N = some ⟨oc, od, .dict es n, sl⟩) (a : (es.all fun e => match e.key with | .str _ _ => true | _ => false) = true) : PySem.W.nsOkIn K N = true := by
  unfold PySem.W.nsOkIn
  rw [l]
  exact a
/-- the two tables and the names of the lambdas in them -/
@[reducible] def tsK (PRi PFu : Addr) : List (Addr × Str) := [(PRi, (envOfC "_law_is_right" (defScope sRight) 0 0 .none).qual ++ "<lambda>"), (PFu, (envOfC "_law_is_full" (defScope sFull) 0 0 .none).qual ++ "<lambda>")]
theorem all_mk {P : Program} {w : World} {K : PySem.W.Frag} {h : Heap} {mg : Str → Option Value} (X : K.In h) (G : h.Ns mainGlobals mg)
    {fIi : Addr} {odIi anIi : Option Addr} {slIi : Array (Option Value)} {ocIi kVIi dcIi pmIi cdIi ctIi : Value}
    {fCe : Addr} {odCe anCe : Option Addr} {slCe : Array (Option Value)} {ocCe kVCe dcCe pmCe cdCe ctCe : Value}
    {fSo : Addr} {odSo anSo : Option Addr} {slSo : Array (Option Value)} {ocSo kVSo dcSo pmSo cdSo ctSo : Value}
    {fDr : Addr} {odDr anDr : Option Addr} {slDr : Array (Option Value)} {ocDr kVDr dcDr pmDr cdDr ctDr : Value}
    {fCh : Addr} {odCh anCh : Option Addr} {slCh : Array (Option Value)} {ocCh kVCh dcCh pmCh cdCh ctCh : Value}
    {fEq : Addr} {odEq anEq : Option Addr} {slEq : Array (Option Value)} {ocEq kVEq dcEq pmEq cdEq ctEq : Value}
    {fRo : Addr} {odRo anRo : Option Addr} {slRo : Array (Option Value)} {ocRo kVRo dcRo pmRo cdRo ctRo : Value}
    {fOu : Addr} {odOu anOu : Option Addr} {slOu : Array (Option Value)} {ocOu kVOu dcOu pmOu cdOu ctOu : Value}
    {fOd : Addr} {odOd anOd : Option Addr} {slOd : Array (Option Value)} {ocOd kVOd dcOd pmOd cdOd ctOd : Value}
    {fLe : Addr} {odLe anLe : Option Addr} {slLe : Array (Option Value)} {ocLe kVLe dcLe pmLe cdLe ctLe : Value}
    {fMk : Addr} {odMk anMk : Option Addr} {slMk : Array (Option Value)} {ocMk kVMk dcMk pmMk cdMk ctMk : Value}
    {cRi PRi : Addr}
    {fRi : Addr} {odRi anRi : Option Addr} {slRi : Array (Option Value)} {ocRi kVRi dcRi pmRi ctRi : Value}
    {fMa : Addr} {odMa anMa : Option Addr} {slMa : Array (Option Value)} {ocMa kVMa dcMa pmMa cdMa ctMa : Value}
    {cFu PFu : Addr}
    {fFu : Addr} {odFu anFu : Option Addr} {slFu : Array (Option Value)} {ocFu kVFu dcFu pmFu ctFu : Value}
    {fLa : Addr} {odLa anLa : Option Addr} {slLa : Array (Option Value)} {ocLa kVLa dcLa pmLa cdLa ctLa : Value}
    {CR CE CH CA CB CF qXr qXt pXs NR : Addr}
    {rXr_ rXt_ rXs_ : List Value}
    {fXi : Addr} {odXi anXi : Option Addr} {slXi : Array (Option Value)} {ocXi kVXi dcXi pmXi cdXi ctXi : Value}
    {fXr : Addr} {odXr anXr : Option Addr} {slXr : Array (Option Value)} {ocXr kVXr dcXr pmXr cdXr ctXr : Value}
    {fXt : Addr} {odXt anXt : Option Addr} {slXt : Array (Option Value)} {ocXt kVXt dcXt pmXt cdXt ctXt : Value}
    {fXo : Addr} {odXo anXo : Option Addr} {slXo : Array (Option Value)} {ocXo kVXo dcXo pmXo cdXo ctXo : Value}
    {fXs : Addr} {odXs anXs : Option Addr} {slXs : Array (Option Value)} {ocXs kVXs dcXs pmXs cdXs ctXs : Value}
    {tk1 tk2 tk3 tk4 tk5 : Tok}
    {ocN : Value} {odN : Option Addr} {esN : Array DictEntry} {nN : Nat} {slN : Array (Option Value)}
    {nmR qR : Str} {bsR subR : List Value} {hdR abR : Bool} {snR : List Str} {colR : Option Bool} {ddR : Option Addr} {k0R k1R k2R k3R k5R : Option Value} {nwR : String}
    (aIi : PySem.W.nsIn K mainGlobals "is_integer" = some (some (.ref fIi)))
    (lIi : K.lookup fIi = some ⟨ocIi, odIi, .func (PySem.W.fnOf "is_integer" "is_integer" (defArgs sIsInt) (defBody sIsInt) (defScope sIsInt) .none kVIi dcIi pmIi anIi cdIi ctIi), slIi⟩)
    (cIi' : PySem.W.codeIn K cdIi "is_integer" = true)
    (kIi : PySem.W.keepIn K (.ref fIi) = true)
    (aCe : PySem.W.nsIn K mainGlobals "_law_cell" = some (some (.ref fCe)))
    (lCe : K.lookup fCe = some ⟨ocCe, odCe, .func (PySem.W.fnOf "_law_cell" "_law_cell" (defArgs sCell) (defBody sCell) (defScope sCell) .none kVCe dcCe pmCe anCe cdCe ctCe), slCe⟩)
    (cCe' : PySem.W.codeIn K cdCe "_law_cell" = true)
    (kCe : PySem.W.keepIn K (.ref fCe) = true)
    (aSo : PySem.W.nsIn K mainGlobals "_law_source" = some (some (.ref fSo)))
    (lSo : K.lookup fSo = some ⟨ocSo, odSo, .func (PySem.W.fnOf "_law_source" "_law_source" (defArgs sSource) (defBody sSource) (defScope sSource) .none kVSo dcSo pmSo anSo cdSo ctSo), slSo⟩)
    (cSo' : PySem.W.codeIn K cdSo "_law_source" = true)
    (kSo : PySem.W.keepIn K (.ref fSo) = true)
    (aDr : PySem.W.nsIn K mainGlobals "_law_draw" = some (some (.ref fDr)))
    (lDr : K.lookup fDr = some ⟨ocDr, odDr, .func (PySem.W.fnOf "_law_draw" "_law_draw" (defArgs sDraw) (defBody sDraw) (defScope sDraw) .none kVDr dcDr pmDr anDr cdDr ctDr), slDr⟩)
    (cDr' : PySem.W.codeIn K cdDr "_law_draw" = true)
    (kDr : PySem.W.keepIn K (.ref fDr) = true)
    (aCh : PySem.W.nsIn K mainGlobals "_law_choose" = some (some (.ref fCh)))
    (lCh : K.lookup fCh = some ⟨ocCh, odCh, .func (PySem.W.fnOf "_law_choose" "_law_choose" (defArgs sChoose) (defBody sChoose) (defScope sChoose) .none kVCh dcCh pmCh anCh cdCh ctCh), slCh⟩)
    (cCh' : PySem.W.codeIn K cdCh "_law_choose" = true)
    (kCh : PySem.W.keepIn K (.ref fCh) = true)
    (aEq : PySem.W.nsIn K mainGlobals "_law_is_equal" = some (some (.ref fEq)))
    (lEq : K.lookup fEq = some ⟨ocEq, odEq, .func (PySem.W.fnOf "_law_is_equal" "_law_is_equal" (defArgs sEqual) (defBody sEqual) (defScope sEqual) .none kVEq dcEq pmEq anEq cdEq ctEq), slEq⟩)
    (cEq' : PySem.W.codeIn K cdEq "_law_is_equal" = true)
    (kEq : PySem.W.keepIn K (.ref fEq) = true)
    (aRo : PySem.W.nsIn K mainGlobals "_law_rods" = some (some (.ref fRo)))
    (lRo : K.lookup fRo = some ⟨ocRo, odRo, .func (PySem.W.fnOf "_law_rods" "_law_rods" (defArgs sRodsL) (defBody sRodsL) (defScope sRodsL) .none kVRo dcRo pmRo anRo cdRo ctRo), slRo⟩)
    (cRo' : PySem.W.codeIn K cdRo "_law_rods" = true)
    (kRo : PySem.W.keepIn K (.ref fRo) = true)
    (aOu : PySem.W.nsIn K mainGlobals "_law_outcome" = some (some (.ref fOu)))
    (lOu : K.lookup fOu = some ⟨ocOu, odOu, .func (PySem.W.fnOf "_law_outcome" "_law_outcome" (defArgs sOut) (defBody sOut) (defScope sOut) .none kVOu dcOu pmOu anOu cdOu ctOu), slOu⟩)
    (cOu' : PySem.W.codeIn K cdOu "_law_outcome" = true)
    (kOu : PySem.W.keepIn K (.ref fOu) = true)
    (aOd : PySem.W.nsIn K mainGlobals "_law_odd" = some (some (.ref fOd)))
    (lOd : K.lookup fOd = some ⟨ocOd, odOd, .func (PySem.W.fnOf "_law_odd" "_law_odd" (defArgs sOdd) (defBody sOdd) (defScope sOdd) .none kVOd dcOd pmOd anOd cdOd ctOd), slOd⟩)
    (cOd' : PySem.W.codeIn K cdOd "_law_odd" = true)
    (kOd : PySem.W.keepIn K (.ref fOd) = true)
    (aLe : PySem.W.nsIn K mainGlobals "_law_is_length" = some (some (.ref fLe)))
    (lLe : K.lookup fLe = some ⟨ocLe, odLe, .func (PySem.W.fnOf "_law_is_length" "_law_is_length" (defArgs sLength) (defBody sLength) (defScope sLength) .none kVLe dcLe pmLe anLe cdLe ctLe), slLe⟩)
    (cLe' : PySem.W.codeIn K cdLe "_law_is_length" = true)
    (kLe : PySem.W.keepIn K (.ref fLe) = true)
    (aMk : PySem.W.nsIn K mainGlobals "_law_rule" = some (some (.ref fMk)))
    (lMk : K.lookup fMk = some ⟨ocMk, odMk, .func (PySem.W.fnOf "_law_rule" "_law_rule" (defArgs sMk) (defBody sMk) (defScope sMk) .none kVMk dcMk pmMk anMk cdMk ctMk), slMk⟩)
    (cMk' : PySem.W.codeIn K cdMk "_law_rule" = true)
    (kMk : PySem.W.keepIn K (.ref fMk) = true)
    (aRi : PySem.W.nsIn K mainGlobals "_law_is_right" = some (some (.ref fRi)))
    (lRi : K.lookup fRi = some ⟨ocRi, odRi, .func (PySem.W.fnOf "_law_is_right" "_law_is_right" (defArgs sRight) (defBody sRight) (defScope sRight) .none kVRi dcRi pmRi anRi (.ref cRi) ctRi), slRi⟩)
    (cRi' : PySem.W.codeIn K (.ref cRi) "_law_is_right" = true)
    (kRi : PySem.W.keepIn K (.ref fRi) = true)
    (aMa : PySem.W.nsIn K mainGlobals "_law_too_many" = some (some (.ref fMa)))
    (lMa : K.lookup fMa = some ⟨ocMa, odMa, .func (PySem.W.fnOf "_law_too_many" "_law_too_many" (defArgs sMany) (defBody sMany) (defScope sMany) .none kVMa dcMa pmMa anMa cdMa ctMa), slMa⟩)
    (cMa' : PySem.W.codeIn K cdMa "_law_too_many" = true)
    (kMa : PySem.W.keepIn K (.ref fMa) = true)
    (aFu : PySem.W.nsIn K mainGlobals "_law_is_full" = some (some (.ref fFu)))
    (lFu : K.lookup fFu = some ⟨ocFu, odFu, .func (PySem.W.fnOf "_law_is_full" "_law_is_full" (defArgs sFull) (defBody sFull) (defScope sFull) .none kVFu dcFu pmFu anFu (.ref cFu) ctFu), slFu⟩)
    (cFu' : PySem.W.codeIn K (.ref cFu) "_law_is_full" = true)
    (kFu : PySem.W.keepIn K (.ref fFu) = true)
    (aLa : PySem.W.nsIn K mainGlobals "law" = some (some (.ref fLa)))
    (lLa : K.lookup fLa = some ⟨ocLa, odLa, .func (PySem.W.fnOf "law" "law" (defArgs sLaw) (defBody sLaw) (defScope sLaw) .none kVLa dcLa pmLa anLa cdLa ctLa), slLa⟩)
    (cLa' : PySem.W.codeIn K cdLa "law" = true)
    (kLa : PySem.W.keepIn K (.ref fLa) = true)
    (aCR : PySem.W.nsIn K mainGlobals "Rule" = some (some (.ref CR)))
    (aCE : PySem.W.nsIn K mainGlobals "RodsError" = some (some (.ref CE)))
    (aCH : PySem.W.nsIn K mainGlobals "Held" = some (some (.ref CH)))
    (aCA : PySem.W.nsIn K mainGlobals "Aimed" = some (some (.ref CA)))
    (aCB : PySem.W.nsIn K mainGlobals "Bound" = some (some (.ref CB)))
    (aCF : PySem.W.nsIn K mainGlobals "FoldError" = some (some (.ref CF)))
    (iXi : PySem.W.findIn K (.ref CR) "__init__" = some (some (.ref fXi)))
    (iXo : PySem.W.findIn K (.ref CR) "options" = some (some (.ref fXo)))
    (pXr : PySem.W.findIn K (.ref CR) "rods" = some (some (.ref qXr)))
    (gXr : PySem.W.specialIn K (.ref qXr) "__get__" = some (some (.builtin "property.__get__")))
    (tXr : PySem.W.takesIn K (.ref qXr) = some true)
    (rXr : PySem.W.recIn K qXr "property" = some (.ref fXr :: rXr_))
    (pXt : PySem.W.findIn K (.ref CR) "total" = some (some (.ref qXt)))
    (gXt : PySem.W.specialIn K (.ref qXt) "__get__" = some (some (.builtin "property.__get__")))
    (tXt : PySem.W.takesIn K (.ref qXt) = some true)
    (rXt : PySem.W.recIn K qXt "property" = some (.ref fXt :: rXt_))
    (sXs : PySem.W.findCls K (.ref CR) (.type "type") "is_rod" = some (.get (.builtin "staticmethod.__get__") (.ref pXs) .none (.ref CR)))
    (rXs : PySem.W.recIn K pXs "staticmethod" = some (.ref fXs :: rXs_))
    (lXi : K.lookup fXi = some ⟨ocXi, odXi, .func (PySem.W.fnOf "__init__" "Rule.__init__" (defArgs sInit) (defBody sInit) (defScope sInit) .none kVXi dcXi pmXi anXi cdXi ctXi), slXi⟩)
    (cXi' : PySem.W.codeIn K cdXi "Rule.__init__" = true)
    (kXi : PySem.W.keepIn K (.ref fXi) = true)
    (lXr : K.lookup fXr = some ⟨ocXr, odXr, .func (PySem.W.fnOf "rods" "Rule.rods" (defArgs sRods) (defBody sRods) (defScope sRods) .none kVXr dcXr pmXr anXr cdXr ctXr), slXr⟩)
    (cXr' : PySem.W.codeIn K cdXr "Rule.rods" = true)
    (kXr : PySem.W.keepIn K (.ref fXr) = true)
    (lXt : K.lookup fXt = some ⟨ocXt, odXt, .func (PySem.W.fnOf "total" "Rule.total" (defArgs sTotal) (defBody sTotal) (defScope sTotal) .none kVXt dcXt pmXt anXt cdXt ctXt), slXt⟩)
    (cXt' : PySem.W.codeIn K cdXt "Rule.total" = true)
    (kXt : PySem.W.keepIn K (.ref fXt) = true)
    (lXo : K.lookup fXo = some ⟨ocXo, odXo, .func (PySem.W.fnOf "options" "Rule.options" (defArgs sOpts) (defBody sOpts) (defScope sOpts) .none kVXo dcXo pmXo anXo cdXo ctXo), slXo⟩)
    (cXo' : PySem.W.codeIn K cdXo "Rule.options" = true)
    (kXo : PySem.W.keepIn K (.ref fXo) = true)
    (lXs : K.lookup fXs = some ⟨ocXs, odXs, .func (PySem.W.fnOf "is_rod" "Rule.is_rod" (defArgs sIsRod) (defBody sIsRod) (defScope sIsRod) .none kVXs dcXs pmXs anXs cdXs ctXs), slXs⟩)
    (cXs' : PySem.W.codeIn K cdXs "Rule.is_rod" = true)
    (kXs : PySem.W.keepIn K (.ref fXs) = true)
    (jXi : PySem.W.isFn K (.ref fXi) = true)
    (jXo : PySem.W.isFn K (.ref fXo) = true)
    (z_len : PySem.W.nsIn K mainGlobals "len" = some none)
    (z_isinstance : PySem.W.nsIn K mainGlobals "isinstance" = some none)
    (z_int : PySem.W.nsIn K mainGlobals "int" = some none)
    (z_bool : PySem.W.nsIn K mainGlobals "bool" = some none)
    (z_all : PySem.W.nsIn K mainGlobals "all" = some none)
    (z_list : PySem.W.nsIn K mainGlobals "list" = some none)
    (z_sum : PySem.W.nsIn K mainGlobals "sum" = some none)
    (z_repr : PySem.W.nsIn K mainGlobals "repr" = some none)
    (z_range : PySem.W.nsIn K mainGlobals "range" = some none)
    (z_max : PySem.W.nsIn K mainGlobals "max" = some none)
    (z_min : PySem.W.nsIn K mainGlobals "min" = some none)
    (rdCR : PySem.W.readsIn K CR (.type "type") = true)
    (spCR : PySem.W.specialIn K (.ref CR) "__getattribute__" = some (some (.builtin "type.__getattribute__")))
    (rdCH : PySem.W.readsIn K CH (.type "type") = true)
    (spCH : PySem.W.specialIn K (.ref CH) "__getattribute__" = some (some (.builtin "type.__getattribute__")))
    (rdCA : PySem.W.readsIn K CA (.type "type") = true)
    (spCA : PySem.W.specialIn K (.ref CA) "__getattribute__" = some (some (.builtin "type.__getattribute__")))
    (rdCB : PySem.W.readsIn K CB (.type "type") = true)
    (spCB : PySem.W.specialIn K (.ref CB) "__getattribute__" = some (some (.builtin "type.__getattribute__")))
    (v1 : PySem.W.findCls K (.ref CR) (.type "type") "MOST_RODS" = some (.val (.int 12 tk1)))
    (v2 : PySem.W.findCls K (.ref CR) (.type "type") "MOST_LENGTH" = some (.val (.int 40 tk2)))
    (v3 : PySem.W.findCls K (.ref CH) (.type "type") "MOST_RODS" = some (.val (.int 12 tk3)))
    (v4 : PySem.W.findCls K (.ref CA) (.type "type") "MOST_LENGTH" = some (.val (.int 40 tk4)))
    (v5 : PySem.W.findCls K (.ref CB) (.type "type") "MOST_LENGTH" = some (.val (.int 40 tk5)))
    (pg : PySem.W.plainGet K CR Str.empty = true)
    (hd : PySem.W.hasDictIn K CR = true)
    (po : PySem.W.plainOver K CR = true)
    (sa : PySem.W.findIn K (.ref CR) "__setattr__" = some (some (.builtin "object.__setattr__")))
    (nF : PySem.W.findIn K (.ref CR) "_rods" = some none)
    (mk : PySem.W.makesIn K CR = true)
    (kC : PySem.W.keepIn K (.ref CR) = true)
    (xE : PySem.W.excIn K CE [.type "ValueError", .type "Exception", .type "BaseException", .type "object"] "ValueError.__new__" = true)
    (kE : PySem.W.keepIn K (.ref CE) = true)
    (bE : PySem.W.subIn K (.ref CE) (.type "BaseException") = some true)
    (tE : PySem.W.typeIn K (.ref CE) = some (.type "type"))
    (iE : PySem.W.isClsIn K CE = true)
    (sE : PySem.W.subIn K (.ref CE) (.ref CE) = some true)
    (iH : PySem.W.isClsIn K CH = true)
    (tyH : PySem.W.typeIn K (.ref CH) = some (.type "type"))
    (sH : PySem.W.subIn K (.ref CR) (.ref CH) = some false)
    (iA : PySem.W.isClsIn K CA = true)
    (tyA : PySem.W.typeIn K (.ref CA) = some (.type "type"))
    (sA : PySem.W.subIn K (.ref CR) (.ref CA) = some false)
    (hcl : PySem.W.findIn K (.ref CR) "__class__" = some (some (.builtin "object.__class__")))
    (hcn : PySem.W.specialIn K (.builtin "object.__class__") "__get__" = some (some (.builtin "getset_descriptor.__get__")))
    (hct : PySem.W.takesIn K (.builtin "object.__class__") = some true)
    (hcm : PySem.W.mroIn K CR (.type "object") = some true)
    (eC : K.lookup CR = some (excClassObj nmR qR CR NR bsR [.type "object"] hdR snR subR abR colR ddR k0R k1R k2R k3R k5R nwR))
    (eNl : K.lookup NR = some ⟨ocN, odN, .dict esN nN, slN⟩)
    (e1 : PySem.W.nsIn K NR "__eq__" = some none)
    (e2 : PySem.W.nsIn K NR "__ne__" = some none)
    (hPP : PRi ≠ PFu) (dH : CR ≠ CH) (dA : CR ≠ CA) (eNa : (esN.all fun e => match e.key with | .str _ _ => true | _ => false) = true) :
    ∃ fd : FuncData, (∀ (s : Shared) (v : Value), BindsTo s fd ⟨[v], []⟩ [("_law_script", v)]) ∧ ∀ base : Heap, K.In base → base.Ns mainGlobals mg → SysB base → (∀ p ∈ [(cRi, PRi), (cFu, PFu)], LamX.TabB base mg p.1 p.2) → FnG P w K mg base CX0 9 fLa fd ["_law_script"] (spLaw K (tsK PRi PFu)) := by
  have FIi := fun_mk (st := sIsInt) lIi cIi' kIi
  have bIi := FIi.binds (ps := ["thing"]) fun _ _ _ _ _ _ us hl => match us, hl with | [_], _ => rfl
  have FCe := fun_mk (st := sCell) lCe cCe' kCe
  have bCe := FCe.binds (ps := ["_law_script", "_law_index"]) fun _ _ _ _ _ _ us hl => match us, hl with | [_, _], _ => rfl
  have FSo := fun_mk (st := sSource) lSo cSo' kSo
  have bSo := FSo.binds (ps := ["_law_cell_here"]) fun _ _ _ _ _ _ us hl => match us, hl with | [_], _ => rfl
  have FDr := fun_mk (st := sDraw) lDr cDr' kDr
  have bDr := FDr.binds (ps := ["_law_source_here", "_law_many"]) fun _ _ _ _ _ _ us hl => match us, hl with | [_, _], _ => rfl
  have FCh := fun_mk (st := sChoose) lCh cCh' kCh
  have bCh := FCh.binds (ps := ["_law_source_here", "_law_values"]) fun _ _ _ _ _ _ us hl => match us, hl with | [_, _], _ => rfl
  have FEq := fun_mk (st := sEqual) lEq cEq' kEq
  have bEq := FEq.binds (ps := ["_law_actual", "_law_expected"]) fun _ _ _ _ _ _ us hl => match us, hl with | [_, _], _ => rfl
  have FRo := fun_mk (st := sRodsL) lRo cRo' kRo
  have bRo := FRo.binds (ps := ["_law_source_here", "_law_most"]) fun _ _ _ _ _ _ us hl => match us, hl with | [_, _], _ => rfl
  have FOu := fun_mk (st := sOut) lOu cOu' kOu
  have bOu := FOu.binds (ps := ["_law_action"]) fun _ _ _ _ _ _ us hl => match us, hl with | [_], _ => rfl
  have FOd := fun_mk (st := sOdd) lOd cOd' kOd
  have bOd := FOd.binds (ps := ["_law_source_here"]) fun _ _ _ _ _ _ us hl => match us, hl with | [_], _ => rfl
  have FLe := fun_mk (st := sLength) lLe cLe' kLe
  have bLe := FLe.binds (ps := ["_law_value"]) fun _ _ _ _ _ _ us hl => match us, hl with | [_], _ => rfl
  have FMk := fun_mk (st := sMk) lMk cMk' kMk
  have bMk := FMk.binds (ps := ["_law_rods_here"]) fun _ _ _ _ _ _ us hl => match us, hl with | [_], _ => rfl
  have FRi := fun_mk (st := sRight) lRi cRi' kRi
  have bRi := FRi.binds (ps := ["_law_rods_here"]) fun _ _ _ _ _ _ us hl => match us, hl with | [_], _ => rfl
  have FMa := fun_mk (st := sMany) lMa cMa' kMa
  have bMa := FMa.binds (ps := ["_law_one"]) fun _ _ _ _ _ _ us hl => match us, hl with | [_], _ => rfl
  have FFu := fun_mk (st := sFull) lFu cFu' kFu
  have bFu := FFu.binds (ps := ["_law_one"]) fun _ _ _ _ _ _ us hl => match us, hl with | [_], _ => rfl
  have FLa := fun_mk (st := sLaw) lLa cLa' kLa
  have FXi := fun_mk (st := sInit) lXi cXi' kXi
  have FXr := fun_mk (st := sRods) lXr cXr' kXr
  have bXr := FXr.binds (ps := ["self"]) fun _ _ _ _ _ _ us hl => match us, hl with | [_], _ => rfl
  have FXt := fun_mk (st := sTotal) lXt cXt' kXt
  have bXt := FXt.binds (ps := ["self"]) fun _ _ _ _ _ _ us hl => match us, hl with | [_], _ => rfl
  have FXo := fun_mk (st := sOpts) lXo cXo' kXo
  have bXo := FXo.binds (ps := ["self"]) fun _ _ _ _ _ _ us hl => match us, hl with | [_], _ => rfl
  have FXs := fun_mk (st := sIsRod) lXs cXs' kXs
  have bXs := FXs.binds (ps := ["thing"]) fun _ _ _ _ _ _ us hl => match us, hl with | [_], _ => rfl
  have TP : TxtP K mg CR CE pXs fXs fIi (.type "type") := ⟨PySem.W.mg_none_of X G z_len, PySem.W.mg_none_of X G z_isinstance, PySem.W.mg_none_of X G z_int, PySem.W.mg_none_of X G z_bool, PySem.W.mg_none_of X G z_all, PySem.W.mg_none_of X G z_list, PySem.W.mg_none_of X G z_sum,
    PySem.W.mg_of X G aCR, PySem.W.mg_of X G aCE, PySem.W.mg_of X G aIi, kIi, ⟨rdCR, spCR⟩, ⟨_, v1, tk1, rfl⟩, ⟨_, v2, tk2, rfl⟩, ⟨sXs, ⟨_, rXs⟩, kXs⟩, ⟨pg, hd, po, sa⟩, nF, xE, kE, bE, tE⟩
  have TR : TxtR K mg CR CE CH CA qXr fXr qXt fXt fXo fEq fLe fOu fMk := ⟨PySem.W.mg_none_of X G z_repr, ⟨pXr, gXr, tXr, _, rXr⟩, ⟨pXt, gXt, tXt, _, rXt⟩, ⟨iXo, jXo, kXo⟩, PySem.W.mg_of X G aEq, kEq, PySem.W.mg_of X G aLe, kLe, PySem.W.mg_of X G aOu, kOu, PySem.W.mg_of X G aMk, kMk,
    PySem.W.mg_of X G aCH, PySem.W.mg_of X G aCA, kit_ne dH (kit_ref iH tyH sH), kit_ne dA (kit_ref iA tyA sA), ⟨_, _, _, _, _, _, _, _, _, _, _, _, _, _, _, _, eC, nsOk_of eNl eNa, e1, e2⟩, exm_ref bE (kit_ref iE tE sE), hcl, hcn, hct, hcm⟩
  have TL : TxtL K mg CF CB CH CA fCe fSo fDr fRo fOd fRi fFu (.type "type") := ⟨PySem.W.mg_none_of X G z_range, PySem.W.mg_none_of X G z_max, PySem.W.mg_none_of X G z_min, PySem.W.mg_of X G aCF, PySem.W.mg_of X G aCB, ⟨rdCH, spCH⟩, ⟨rdCA, spCA⟩, ⟨rdCB, spCB⟩, ⟨_, v3, tk3, rfl⟩, ⟨_, v4, tk4, rfl⟩, ⟨_, v5, tk5, rfl⟩,
    PySem.W.mg_of X G aCe, kCe, PySem.W.mg_of X G aSo, kSo, PySem.W.mg_of X G aDr, kDr, PySem.W.mg_of X G aRo, kRo, PySem.W.mg_of X G aOd, kOd, PySem.W.mg_of X G aRi, kRi, PySem.W.mg_of X G aFu, kFu⟩
  have TH : TxtH K mg := ⟨PySem.W.mg_none_of X G z_len, PySem.W.mg_none_of X G z_max⟩
  have MR : Mk K CR fXi := ⟨mk, iXi, jXi, kC⟩
  have hne : PRi ≠ PFu := hPP
  refine ⟨PySem.W.fnOf "law" "law" (defArgs sLaw) (defBody sLaw) (defScope sLaw) .none kVLa dcLa pmLa anLa cdLa ctLa, fun s v => .of_eq rfl, fun base hK hG hS hTB => ?_⟩
  have GI : FnOk P w K mg base CX0 1 fIi _ ["thing"] spIsInt := ok_isInt FIi TP
  have GIR : FnOk P w K mg base CX0 2 fXs _ ["thing"] spIsRod := ok_isRod FXs TP GI bIi
  have GIN : FnR P w K mg base (L2.CX P w) 3 fXi (spInit CR CE) := ok_init FXi TP GIR bXs
  have GRo : FnOk P w K mg base CX0 1 fXr _ ["self"] (spGetRods CR) := ok_rods FXr TP
  have GTo : FnOk P w K mg base CX0 1 fXt _ ["self"] (spTotal CR) := ok_total FXt TP
  have GOp : FnOk P w K mg base CX0 1 fXo _ ["self"] spOpts := ok_opts FXo
  have GE : FnG P w K mg base CX0 1 fEq _ ["_law_actual", "_law_expected"] spEqual := ok_equal FEq hS TR.repr
  have GL : FnOk P w K mg base CX0 1 fLe _ ["_law_value"] spIsRod := ok_length FLe TP
  have GM : FnOk P w K mg base (L2.CX P w) 5 fMk _ ["_law_rods_here"] (spMk CR CE) := ok_mk FMk TP MR GIN
  have GMa : FnOk P w K mg base (L2.CX P w) 5 fMa _ ["_law_one"] (spMany CE) := ok_many FMa TP MR GIN
  have GC : FnOk P w K mg base CX0 1 fCe _ ["_law_script", "_law_index"] (spCell K) := ok_cell FCe TH
  have GS : FnOk P w K mg base CX0 1 fSo _ ["_law_cell_here"] spSource := ok_source FSo TH
  have GD : FnOk P w K mg base CX0 1 fDr _ ["_law_source_here", "_law_many"] spDraw := ok_draw FDr
  have GCh : FnOk P w K mg base CX0 2 fCh _ ["_law_source_here", "_law_values"] spChoose := ok_choose FCh TH GD bDr TL.gDraw TL.kDraw
  have GRL : FnOk P w K mg base CX0 2 fRo _ ["_law_source_here", "_law_most"] spRods := ok_rodsL FRo GD bDr TL.gDraw TL.kDraw TL.max TL.range
  have GOd : FnOk P w K mg base CX0 3 fOd _ ["_law_source_here"] spOdd := ok_odd FOd GCh bCh (PySem.W.mg_of X G aCh) kCh
  have GRi := ok_right (P := P) (w := w) (base := base) (Ts := [(PRi, (envOfC "_law_is_right" (defScope sRight) 0 0 .none).qual ++ "<lambda>"), (PFu, (envOfC "_law_is_full" (defScope sFull) 0 0 .none).qual ++ "<lambda>")]) lRi cRi' TP TR hS GRo bXr GTo bXt GOp bXo GE bEq GL bLe GM bMk FOu bOu (hTB _ List.mem_cons_self) List.mem_cons_self (fun p hp e => by
    rcases List.mem_cons.mp hp with z | z
    · rw [z]
    · rw [List.mem_singleton.mp z] at e
      exact absurd e.symm hne)
  have GFu := ok_full (P := P) (w := w) (base := base) (Ts := [(PRi, (envOfC "_law_is_right" (defScope sRight) 0 0 .none).qual ++ "<lambda>"), (PFu, (envOfC "_law_is_full" (defScope sFull) 0 0 .none).qual ++ "<lambda>")]) lFu cFu' TP TR MR GIN GRo bXr GTo bXt GE bEq GMa bMa (PySem.W.mg_of X G aMa) kMa FOu bOu (hTB _ (List.mem_cons_of_mem _ List.mem_cons_self)) (List.mem_cons_of_mem _ List.mem_cons_self) (fun p hp e => by
    rcases List.mem_cons.mp hp with z | z
    · rw [z] at e
      exact absurd e hne
    · rw [List.mem_singleton.mp z])
  exact ok_law FLa TP TR TL GE bEq GL bLe GRi bRi GFu bFu GC bCe GS bSo GD bDr GRL bRo GOd bOd GIR bXs
end R7
namespace R7
open PySem PySem.Spec PyProof.Rows L2
theorem walk_end {l : PySem.W.OpenLaw} {k : Nat} {q : Program} {loose : List Str} {XP : (Str → Option Value) → Heap → Prop} {YP : World → Heap → Prop} {d : DefRec} {K : Params → PySem.W.Frag} {x : Str}
    (hn : l.most = some 63) (hdf : d.params.defaults = []) (himp : importsNone q = true) (hr : Room k callerA) (hY : ∀ (w : World) (h : Heap), YP w h → (K w.params).In h)
    (F : ∀ (w : World) (mg : Str → Option Value) (fa : Addr) (h : Heap), YP w h → (K w.params).In h → h.Ns mainGlobals mg → mg d.name = some (.ref fa) →
      ∃ (fd : FuncData) (cs : List (Addr × Addr)) (Ts : List (Addr × Str)), (∀ p ∈ cs, h.get? p.2 = some { cls := .none, data := .fields #[] }) ∧ (∀ p ∈ cs, (K w.params).lookup p.2 = none) ∧ (∀ p ∈ cs, PySem.W.CodeHd h p.1 p.2) ∧ (∀ t ∈ Ts, ∃ p ∈ cs, p.2 = t.1) ∧
        (∀ (s : Shared) (u : Value), BindsTo s fd ⟨[u], []⟩ [(x, u)]) ∧
        ∀ base : Heap, (K w.params).In base → base.Ns mainGlobals mg → SysB base → (∀ p ∈ cs, LamX.TabB base mg p.1 p.2) → FnG l.prog w (K w.params) mg base CX0 k fa fd [x] (spLaw (K w.params) Ts)) :
    PySem.W.WalkO q loose XP YP l.row.toRowW d [] (fun f vs => PySem.call f vs) := by
  refine Att.attach_callB hn hdf fun w s₀ s₁ mg mb fa o pm cd doc a vs ns G Y ho hd hcd hmg hobj hints hlen hbits hg => ?_
  have KX := hY w _ Y
  obtain ⟨fd, cs, Ts, h1, h2, h3, h4, h5, h6⟩ := F w mg fa _ Y KX G.T.g hmg
  obtain ⟨mm, hm, _⟩ := (G.T.seer himp).mods
  refine end_call KX G.T.g G.T.b G.T.builtins G.T.nolimit hg ⟨mm, hm⟩ h1 h2 h3 G.T.bmain hobj hints (Nat.le_trans hlen (by decide)) hr h6 h5 fun H hH hS => ?_
  refine ⟨a, ns, rfl, hS, hlen, fun t ht => ?_, fun _ => rfl⟩
  obtain ⟨p, hp, e⟩ := h4 t ht
  exact LamX.TabS.nil (e ▸ hH p hp)
end R7
namespace R7
open PySem PySem.Spec PyProof.Rows L2
theorem fin_of {P : Program} {w : World} {K : PySem.W.Frag} {h : Heap} {mg : Str → Option Value} {fa : Addr} {n : Str} {f c1 P1 c2 P2 : Addr} {ts : List Addr} (X : K.In h) (G : h.Ns mainGlobals mg) (hmg : mg n = some (.ref fa)) (hn : n = "law")
    (a : PySem.W.nsIn K mainGlobals "law" = some (some (.ref f))) (ht : ∀ b ∈ ts, h.get? b = some (PySem.W.tabObj #[])) {o1 : Option Addr} {v1 : Array Value} {s1 : Array (Option Value)} {fi1 : Str} {t1 u1 x1 : Tok} {fl1 te1 : Int} {b1 : Bool} (h1 : K.lookup c1 = some ⟨.type "code", o1, .fields v1, s1⟩) (w11 : v1[11]? = some (.ref P1)) (w12 : v1.getD 11 .none = .ref P1) (w13 : v1.getD 18 .none = .str fi1 t1) (w14 : v1.getD 7 .none = .int fl1 u1) (w15 : v1.getD 9 .none = .bool b1) (w16 : v1.getD 10 .none = .int te1 x1) (w17 : c1 ≠ P1) {o2 : Option Addr} {v2 : Array Value} {s2 : Array (Option Value)} {fi2 : Str} {t2 u2 x2 : Tok} {fl2 te2 : Int} {b2 : Bool} (h2 : K.lookup c2 = some ⟨.type "code", o2, .fields v2, s2⟩) (w21 : v2[11]? = some (.ref P2)) (w22 : v2.getD 11 .none = .ref P2) (w23 : v2.getD 18 .none = .str fi2 t2) (w24 : v2.getD 7 .none = .int fl2 u2) (w25 : v2.getD 9 .none = .bool b2) (w26 : v2.getD 10 .none = .int te2 x2) (w27 : c2 ≠ P2) (n1 : K.lookup P1 = none) (n2 : K.lookup P2 = none) (m1 : P1 ∈ ts) (m2 : P2 ∈ ts)
    (k : ∃ fd : FuncData, (∀ (s : Shared) (v : Value), BindsTo s fd ⟨[v], []⟩ [("_law_script", v)]) ∧ ∀ base : Heap, K.In base → base.Ns mainGlobals mg → SysB base → (∀ p ∈ [(c1, P1), (c2, P2)], LamX.TabB base mg p.1 p.2) → FnG P w K mg base CX0 9 f fd ["_law_script"] (spLaw K (tsK P1 P2))) :
    ∃ (fd : FuncData) (cs : List (Addr × Addr)) (Ts : List (Addr × Str)), (∀ p ∈ cs, h.get? p.2 = some { cls := .none, data := .fields #[] }) ∧ (∀ p ∈ cs, K.lookup p.2 = none) ∧ (∀ p ∈ cs, PySem.W.CodeHd h p.1 p.2) ∧ (∀ t ∈ Ts, ∃ p ∈ cs, p.2 = t.1) ∧
        (∀ (s : Shared) (u : Value), BindsTo s fd ⟨[u], []⟩ [("_law_script", u)]) ∧ ∀ base : Heap, K.In base → base.Ns mainGlobals mg → SysB base → (∀ p ∈ cs, LamX.TabB base mg p.1 p.2) → FnG P w K mg base CX0 9 fa fd ["_law_script"] (spLaw K Ts) := by
  subst hn
  have e := hmg.symm.trans (PySem.W.mg_of X G a)
  cases e
  obtain ⟨fd, hb, hF⟩ := k
  refine ⟨fd, [(c1, P1), (c2, P2)], tsK P1 P2, fun p hp => ?_, fun p hp => ?_, fun p hp => ?_, fun t htm => ?_, hb, hF⟩
  · rcases List.mem_cons.mp hp with z | z
    · rw [z]
      exact ht _ m1
    · rw [List.mem_singleton.mp z]
      exact ht _ m2
  · rcases List.mem_cons.mp hp with z | z
    · rw [z]
      exact n1
    · rw [List.mem_singleton.mp z]
      exact n2
  · rcases List.mem_cons.mp hp with z | z
    · rw [z]
      exact ⟨_, v1, fi1, t1, fl1, u1, b1, te1, x1, X _ _ h1, rfl, rfl, w11, w12, w13, w14, w15, w16, w17⟩
    · rw [List.mem_singleton.mp z]
      exact ⟨_, v2, fi2, t2, fl2, u2, b2, te2, x2, X _ _ h2, rfl, rfl, w21, w22, w23, w24, w25, w26, w27⟩
  · rcases List.mem_cons.mp htm with z | z
    · exact ⟨(c1, P1), List.mem_cons_self, by rw [z]⟩
    · exact ⟨(c2, P2), List.mem_cons_of_mem _ List.mem_cons_self, by rw [List.mem_singleton.mp z]⟩
end R7
open PySem PySem.W PyProof.Rows
set_option maxRecDepth 100000 in
set_option maxHeartbeats 0 in
theorem PySem.Challenge.cw_rodturns_k01_rules_are_made_of_rods_holds : PySem.Challenge.rw_rodturns_k01_rules_are_made_of_rods.Holds := by
  w_on; o_law; k_head; (case hw => w_witness2)
  k_fill
  refine R7.walk_end (l := PySem.Challenge.rw_rodturns_k01_rules_are_made_of_rods) (k := 9) (x := "_law_script") rfl rfl (by first | rfl | kernel_rfl | decide +kernel) ⟨rfl, by decide, by decide⟩ (fun w h Y => PySem.W.km_in_of Y) ?F
  case F =>
    intro w mg fa h Y KX G hmg
    refine' R7.fin_of KX G hmg rfl ?aLa0 (PySem.W.km_tabs_of Y) ?hRi0 ?w11 ?w12 ?w13 ?w14 ?w15 ?w16 ?w17 ?hFu0 ?w21 ?w22 ?w23 ?w24 ?w25 ?w26 ?w27 ?nRi0 ?nFu0 ?mRi ?mFu (R7.all_mk KX G ?aIi ?lIi ?cIi' ?kIi ?aCe ?lCe ?cCe' ?kCe ?aSo ?lSo ?cSo' ?kSo ?aDr ?lDr ?cDr' ?kDr ?aCh ?lCh ?cCh' ?kCh ?aEq ?lEq ?cEq' ?kEq ?aRo ?lRo ?cRo' ?kRo ?aOu ?lOu ?cOu' ?kOu ?aOd ?lOd ?cOd' ?kOd ?aLe ?lLe ?cLe' ?kLe ?aMk ?lMk ?cMk' ?kMk ?aRi ?lRi ?cRi' ?kRi ?aMa ?lMa ?cMa' ?kMa ?aFu ?lFu ?cFu' ?kFu ?aLa ?lLa ?cLa' ?kLa ?aCR ?aCE ?aCH ?aCA ?aCB ?aCF ?iXi ?iXo ?pXr ?gXr ?tXr ?rXr ?pXt ?gXt ?tXt ?rXt ?sXs ?rXs ?lXi ?cXi' ?kXi ?lXr ?cXr' ?kXr ?lXt ?cXt' ?kXt ?lXo ?cXo' ?kXo ?lXs ?cXs' ?kXs ?jXi ?jXo ?z_len ?z_isinstance ?z_int ?z_bool ?z_all ?z_list ?z_sum ?z_repr ?z_range ?z_max ?z_min ?rdCR ?spCR ?rdCH ?spCH ?rdCA ?spCA ?rdCB ?spCB ?v1 ?v2 ?v3 ?v4 ?v5 ?pg ?hd ?po ?sa ?nF ?mk ?kC ?xE ?kE ?bE ?tE ?iE ?sE ?iH ?tyH ?sH ?iA ?tyA ?sA ?hcl ?hcn ?hct ?hcm ?eC ?eNl ?e1 ?e2 ?hPP ?dH ?dA ?eNa)
    (case aIi => k_is)
    (case lIi => k_is)
    (case cIi' => k_is)
    (case kIi => k_is)
    (case aCe => k_is)
    (case lCe => k_is)
    (case cCe' => k_is)
    (case kCe => k_is)
    (case aSo => k_is)
    (case lSo => k_is)
    (case cSo' => k_is)
    (case kSo => k_is)
    (case aDr => k_is)
    (case lDr => k_is)
    (case cDr' => k_is)
    (case kDr => k_is)
    (case aCh => k_is)
    (case lCh => k_is)
    (case cCh' => k_is)
    (case kCh => k_is)
    (case aEq => k_is)
    (case lEq => k_is)
    (case cEq' => k_is)
    (case kEq => k_is)
    (case aRo => k_is)
    (case lRo => k_is)
    (case cRo' => k_is)
    (case kRo => k_is)
    (case aOu => k_is)
    (case lOu => k_is)
    (case cOu' => k_is)
    (case kOu => k_is)
    (case aOd => k_is)
    (case lOd => k_is)
    (case cOd' => k_is)
    (case kOd => k_is)
    (case aLe => k_is)
    (case lLe => k_is)
    (case cLe' => k_is)
    (case kLe => k_is)
    (case aMk => k_is)
    (case lMk => k_is)
    (case cMk' => k_is)
    (case kMk => k_is)
    (case aRi => k_is)
    (case lRi => k_is)
    (case cRi' => k_is)
    (case kRi => k_is)
    (case aMa => k_is)
    (case lMa => k_is)
    (case cMa' => k_is)
    (case kMa => k_is)
    (case aFu => k_is)
    (case lFu => k_is)
    (case cFu' => k_is)
    (case kFu => k_is)
    (case aLa => k_is)
    (case lLa => k_is)
    (case cLa' => k_is)
    (case kLa => k_is)
    (case aCR => k_is)
    (case aCE => k_is)
    (case aCH => k_is)
    (case aCA => k_is)
    (case aCB => k_is)
    (case aCF => k_is)
    (case iXi => k_is)
    (case iXo => k_is)
    (case pXr => k_is)
    (case gXr => k_is)
    (case tXr => k_is)
    (case rXr => k_is)
    (case pXt => k_is)
    (case gXt => k_is)
    (case tXt => k_is)
    (case rXt => k_is)
    (case sXs => k_is)
    (case rXs => k_is)
    (case lXi => k_is)
    (case cXi' => k_is)
    (case kXi => k_is)
    (case lXr => k_is)
    (case cXr' => k_is)
    (case kXr => k_is)
    (case lXt => k_is)
    (case cXt' => k_is)
    (case kXt => k_is)
    (case lXo => k_is)
    (case cXo' => k_is)
    (case kXo => k_is)
    (case lXs => k_is)
    (case cXs' => k_is)
    (case kXs => k_is)
    (case jXi => k_is)
    (case jXo => k_is)
    (case z_len => k_is)
    (case z_isinstance => k_is)
    (case z_int => k_is)
    (case z_bool => k_is)
    (case z_all => k_is)
    (case z_list => k_is)
    (case z_sum => k_is)
    (case z_repr => k_is)
    (case z_range => k_is)
    (case z_max => k_is)
    (case z_min => k_is)
    (case rdCR => k_is)
    (case spCR => k_is)
    (case rdCH => k_is)
    (case spCH => k_is)
    (case rdCA => k_is)
    (case spCA => k_is)
    (case rdCB => k_is)
    (case spCB => k_is)
    (case v1 => k_is)
    (case v2 => k_is)
    (case v3 => k_is)
    (case v4 => k_is)
    (case v5 => k_is)
    (case pg => k_is)
    (case hd => k_is)
    (case po => k_is)
    (case sa => k_is)
    (case nF => k_is)
    (case mk => k_is)
    (case kC => k_is)
    (case xE => k_exc)
    (case kE => k_is)
    (case bE => k_is)
    (case tE => k_is)
    (case iE => k_is)
    (case sE => k_is)
    (case iH => k_is)
    (case tyH => k_is)
    (case sH => k_is)
    (case iA => k_is)
    (case tyA => k_is)
    (case sA => k_is)
    (case hcl => k_is)
    (case hcn => k_is)
    (case hct => k_is)
    (case hcm => k_is)
    (case eC => k_is)
    (case eNl => k_is)
    (case e1 => k_is)
    (case e2 => k_is)
    (case aLa0 => k_is); (case hRi0 => k_is); (case hFu0 => k_is)
    (case w11 => rfl); (case w12 => rfl); (case w13 => rfl); (case w14 => rfl); (case w15 => rfl); (case w16 => rfl); (case w21 => rfl); (case w22 => rfl); (case w23 => rfl); (case w24 => rfl); (case w25 => rfl); (case w26 => rfl)
    (case w17 => decide); (case w27 => decide); (case nRi0 => first | rfl | kernel_rfl); (case nFu0 => first | rfl | kernel_rfl)
    (case mRi => simp); (case mFu => simp); (case hPP => decide); (case dH => decide); (case dA => decide); (case eNa => first | rfl | kernel_rfl | decide +kernel | simp)
