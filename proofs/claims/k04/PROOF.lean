import PyProof.Rows.All
import Wide.All
import OpenK.AllK
import Wide.FinOn
import HandS.ForMost
import HandS.ForExc
import HandS.Star
import HandS.Lambda
import HandS.IsInst
import HandS.ClsMeth
import HandS.Property
import HandS.TryMany
import HandS.RaiseMore
import HandS.Small
import HandS.FStr
import HandS.EndTab
import HandS.OwnEq
import HandS.Wide
import PyProof.ReprRoads
import HandS.TupAny
import HandS.DictComp
import HandS.Conv
import HandS.Zip
import HandS.SortInts
import HandS.Style
import HandS.StrMore
import HandS.StrSplit
import HandS.TupMul
import HandS.Walk
import HandS.ListItems
import HandS.SortKw
import HandS.Strs
import HandS.Translate
import HandS.Replace
import HandS.Codes
import HandS.TryOnly
import HandS.MakeKw
import HandS.Defaults
import HandS.MethStar
import KE.GoesEnum
import HandS.SetFor
import HandS.List
import KE.GoesEnumKw
import PySem.Challenge.RW_rodturns_k04_rules_read_from_the_other_e
set_option Elab.async false
set_option linter.all false
set_option maxRecDepth 100000
/-! Data with dicts: what repr makes of it; promises of defs that are entered while no repr runs. -/
namespace R7
open PySem PySem.Spec PyProof.Rows L2
def keyD : Key → PyData
  | .inl i => .int i
  | .inr x => .str x
mutual
/-- x is the datum d in the heap H -/
inductive Dat (H : Hp) : V → PyData → Prop
  | non : Dat H .non .none
  | bl (b : Bool) : Dat H (.bl b) (.bool b)
  | int (i : Int) : Dat H (.int i) (.int i)
  | str (x : Str) : Dat H (.str x) (.str x)
  | lst {a : Addr} {xs : List V} {ds : List PyData} : H a = some (.lst xs) → Dats H xs ds → Dat H (.ref a) (.list ds)
  | tup {a : Addr} {xs : List V} {ds : List PyData} : H a = some (.tup xs) → Dats H xs ds → Dat H (.ref a) (.tuple ds)
  | dct {a : Addr} {kvs : List (Key × V)} {ds : List PyData} : H a = some (.dK kvs) → Dats H (kvs.map (·.2)) ds → Dat H (.ref a) (.dict ((kvs.map fun p => keyD p.1).zip ds))
inductive Dats (H : Hp) : List V → List PyData → Prop
  | nil : Dats H [] []
  | cons {v : V} {vs : List V} {d : PyData} {ds : List PyData} : Dat H v d → Dats H vs ds → Dats H (v :: vs) (d :: ds)
end
theorem Dats.len {H : Hp} : ∀ {vs : List V} {ds : List PyData}, Dats H vs ds → vs.length = ds.length
  | _, _, .nil => rfl
  | _, _, .cons _ t => by rw [List.length_cons, List.length_cons, t.len]
/-- the table of loaded modules stands ahead of the call -/
def SysB (base : Heap) : Prop := ∃ o, base.get? sysModules = some o
theorem keys_read {h : Heap} {P : Program} {w : World} : ∀ {es : List DictEntry} {kvs : List (Key × V)} {vs : List (Key × Value)}, Pairs (mixKind P w) es vs → KV kvs vs →
    ReadsAll h (es.map (·.key)) (kvs.map fun p => keyD p.1) [] ∧ es.map (·.val) = vs.map (·.2)
  | _, _, _, .nil, .nil => ⟨.nil, rfl⟩
  | e :: es, p :: kvs, q :: vs, .cons hk hv t, .cons pq t' => by
    obtain ⟨e1, _⟩ := pq
    obtain ⟨r, e⟩ := keys_read (h := h) t t'
    refine ⟨?_, by rw [List.map_cons, List.map_cons, hv, e]⟩
    rcases keyIs_shape hk with ⟨i, tk, e2, e3⟩ | ⟨x, tk, e2, e3⟩
    · have : keyD p.1 = .int i := by rw [e1, e2]; rfl
      rw [List.map_cons, List.map_cons, e3, this]
      exact ReadsAll.cons (as := []) (.int i tk) r
    · have : keyD p.1 = .str x := by rw [e1, e2]; rfl
      rw [List.map_cons, List.map_cons, e3, this]
      exact ReadsAll.cons (as := []) (.str x tk) r
theorem kv_vals : ∀ {kvs : List (Key × V)} {vs : List (Key × Value)}, KV kvs vs → Vals (kvs.map (·.2)) (vs.map (·.2))
  | _, _, .nil => .nil
  | _, _, .cons ⟨_, r⟩ t => .cons r (kv_vals t)
section
variable {X : Cx} {pins : List (Addr × Obj)} {σ : L2.St} {H : Hp} {s : Shared}
mutual
theorem Dat.reads (I : Inv X pins σ H s) (Z : SysB X.base) : ∀ {d : PyData} {v : V} {u : Value}, Dat H v d → RelV v u → ∃ as, Reads s.heap u d as ∧ sysModules ∉ as
  | _, _, _, .non, r => by
    cases r
    exact ⟨_, .none, by simp⟩
  | _, _, _, .bl b, r => by
    cases r
    exact ⟨_, .bool b, by simp⟩
  | _, _, _, .int i, r => by
    obtain ⟨t, rfl⟩ := r
    exact ⟨_, .int i t, by simp⟩
  | _, _, _, .str x, r => by
    obtain ⟨t, rfl⟩ := r
    exact ⟨_, .str x t, by simp⟩
  | _, _, _, .lst (a := a) e hs, r => by
    cases r
    obtain ⟨z, its, n, rv, ho⟩ := I.hok a _ e
    obtain ⟨as, hr, na⟩ := Dats.reads I Z hs rv
    refine ⟨_, .list ho rfl rfl hr, fun m => ?_⟩
    rcases List.mem_cons.mp m with q | q
    · obtain ⟨o, ho⟩ := Z
      have := (I.bs _ _ ho).2
      rw [q, e] at this
      cases this
    · exact na q
  | _, _, _, .tup (a := a) e hs, r => by
    cases r
    obtain ⟨z, its, rv, o, ho, hc, n, hd⟩ := I.hok a _ e
    obtain ⟨as, hr, na⟩ := Dats.reads I Z hs rv
    exact ⟨_, .tuple ho hc hd hr, na⟩
  | _, _, _, .dct (a := a) (kvs := kvs) (ds := ds) e hs, r => by
    cases r
    obtain ⟨z, ns, vs, kv, o, es, ep, ho, ex, hd, _, hp, _⟩ := I.hok a _ e
    obtain ⟨r1, e1⟩ := keys_read (h := s.heap) hp kv
    obtain ⟨bs, r2, na⟩ := Dats.reads I Z hs (kv_vals kv)
    have hl : (kvs.map fun p => keyD p.1).length = ds.length := by
      rw [List.length_map, ← hs.len, List.length_map]
    refine ⟨_, .dict (as := []) (bs := bs) ho ex.1 hd (by rw [List.map_fst_zip (Nat.le_of_eq hl)]; exact r1) (by rw [List.map_snd_zip (Nat.le_of_eq hl.symm), e1]; exact r2), fun m => ?_⟩
    rcases List.mem_cons.mp m with q | q
    · exact beq_eq_false_iff_ne.mp ns q.symm
    · exact na (by simpa using q)
theorem Dats.reads (I : Inv X pins σ H s) (Z : SysB X.base) : ∀ {ds : List PyData} {vs : List V} {us : List Value}, Dats H vs ds → Vals vs us → ∃ as, ReadsAll s.heap us ds as ∧ sysModules ∉ as
  | _, _, _, .nil, .nil => ⟨_, .nil, by simp⟩
  | _, _, _, .cons h1 h2, .cons r1 r2 => by
    obtain ⟨as, q1, n1⟩ := Dat.reads I Z h1 r1
    obtain ⟨bs, q2, n2⟩ := Dats.reads I Z h2 r2
    exact ⟨_, .cons q1 q2, fun m => (List.mem_append.mp m).elim n1 n2⟩
end
/-- repr(x) of data, while no repr runs -/
def rRep : List V → Hp → VK → Prop := fun xs H Q => ∃ x d, xs = [x] ∧ Dat H x d ∧ d.showable = true ∧ d.shown.length ≤ sizeLine ∧ d.depth ≤ 20 ∧ Q (.str d.shown) H
theorem call_rep (Z : SysB X.base) (hg : X.A.guards = some []) (hu : X.A.units + 64 < cLine) : CallR X (.builtin "repr") rRep := by
  intro pins s σ H xs us Q I r h
  obtain ⟨x, d, rfl, hd, hs, hz, hdp, q⟩ := h
  obtain ⟨u, rfl, rx⟩ := vals1 r
  have fin : ∀ (h' : Heap) (t : Tok) (tk : Nat), (∀ b o, s.heap.get? b = some o → h'.get? b = some o) → EP X pins σ Q (.str d.shown t) { s with heap := h', toks := tk } := fun h' t tk hk => ⟨.str d.shown, H, I.kept hk, ⟨t, rfl⟩, q⟩
  have rd := hd.reads I Z rx
  have big : ∀ a, u = .ref a → wpAny (model X.prog X.w) X.A (call (.builtin "repr") [u]) (EP X pins σ Q) X.xe s := fun a e => by
    subst e
    obtain ⟨as, rd, na⟩ := rd
    exact repr_of_reads' rd hs (fun _ => na) hg (by omega) (fun _ _ e => e) (fun h' t tk hk => fin h' t tk hk) hz
  cases hd with
  | non =>
    cases rx
    simp only [PyData.shown] at fin ⊢
    exact PySem.P.repr_of_none (fin s.heap _ _ fun _ _ e => e)
  | bl b =>
    cases rx
    simp only [PyData.shown] at fin ⊢
    exact PySem.P.repr_of_bool (fin s.heap _ _ fun _ _ e => e)
  | int i =>
    obtain ⟨t, rfl⟩ := rx
    simp only [PyData.shown] at fin ⊢
    exact PySem.P.repr_of_int (by simpa [PyData.showable] using hs) (fin s.heap _ _ fun _ _ e => e)
  | str x =>
    obtain ⟨t, rfl⟩ := rx
    simp only [PyData.shown] at fin hz ⊢
    exact PySem.P.repr_of_str (fin s.heap _ _ fun _ _ e => e) hz
  | lst _ _ => exact big _ rx
  | tup _ _ => exact big _ rx
  | dct _ _ => exact big _ rx
end
/-! ### defs that are entered while no repr runs -/
structure FnG (P : Program) (w : World) (K : PySem.W.Frag) (mg : Str → Option Value) (base : Heap) (CX : CXT) (k : Nat) (f : Addr) (fd : FuncData) (ps : List Str) (sp : Sp) : Prop where
  len : ∀ vs H Q E, sp vs H Q E → vs.length = ps.length
  go : ∀ (A : Around) (outer : List Env) (s : Shared) (H : Hp) (args : Args) (us : List Value) (vs : List V) (Q : VK) (E : XK), A.guards = some [] → Room k A → Env0 P w K mg base A outer s H →
    BindsTo s fd args (ps.zip us) → Vals vs us → sp vs H Q E → codeAny (model P w) A (.call (.ref f) args) (CR CX outer P w H s Q E) s
section
variable {P : Program} {w : World} {K : PySem.W.Frag} {mg : Str → Option Value} {base : Heap}
theorem fun_okG {CX : CXT} {x qual : Str} {st : Stmt} {f : Addr} {fd : FuncData} {N ps : List Str} {k : Nat} {sp : Sp} (F : Fun K x qual st f fd) (S : FnScope N ps (defScope st)) (len : ∀ vs H Q E, sp vs H Q E → vs.length = ps.length)
    (hb : ∀ (cdv : Value) (A : Around) (outer : List Env) (s : Shared) (H : Hp) (vs : List V) (Q : VK) (E : XK), A.guards = some [] → PySem.W.codeIn K cdv qual = true → Room k (A.deeper (envOfC qual (defScope st) s.heap.objs.size f cdv)) → sp vs H Q E →
      ∃ t, PSs (cxOf CX P w K mg base N qual (defScope st) f cdv A outer s H E) (defBody st) t ∧ t { nx := fun _ H' => Q .non H', rt := Q } (start N vs) H) : FnG P w K mg base CX (k + 1) f fd ps sp := by
  obtain ⟨oc, od, kV, doc, pm, an, cdv, ct, osl, rfl, lk, hcd⟩ := F.ex
  refine ⟨len, fun A outer s H args us vs Q E hg hr e0 hbd r h => ?_⟩
  exact LamX.run_ofS lk hcd S hr e0 hbd r (len _ _ _ _ h) fun hr' => hb cdv A outer s H vs Q E hg hcd hr' h
end
/-- f(e, ..) -/
def tCallG (sp : Sp) (E : XK) (t : TA) : TE := fun σ H Q => t σ H fun vs H1 => sp vs H1 Q E
section
variable {X : Cx} {CX : CXT} {k : Nat} {f : Addr} {fd : FuncData} {ps : List Str} {sp : Sp} {dvs : List V} {ds : List Value} {E : XK} {x : Str} {p pos : Pos} {e : Expr} {es : List Expr} {t : TA}
/-- f(e, ..), f a def of that kind -/
theorem pe_callG (F : FnG X.prog X.w X.K X.mg X.base CX k f fd ps sp) (hgd : X.A.guards = some []) (hr : Room k X.A) (hg : Gl X x) (hm : X.mg x = some (.ref f)) (hk : PySem.W.keepIn X.K (.ref f) = true) (hb : Binds X.K fd ps [])
    (hx : Passes CX X E) (ha : PA X (e :: es) t) (hdb : (x == ("__debug__" : Str)) = false := by decide) (he : starEach (e :: es) X.env = (false, eval e X.env) :: starEach es X.env := by rfl)
    (hpl : (backTo pos (starEach es X.env)).any (·.1) = false := by rfl) : PE X (.Call (.Name x p) (e :: es) [] pos) (tCallG sp E t) := by
  constructor
  intro pins s σ H Q I h
  apply wpAny_Call_Name_kw
  refine ld_glob I hg hm ?_ hdb
  refine PySem.W.callWith_K (h₀ := X.base) I.ok.mod.kin hk ?_ he hpl
  refine thn (ha.run pos pins s σ H _ I h) fun us s1 z => ?_
  obtain ⟨vs, H1, J, r, q⟩ := z
  have hl : (us ++ []).length = ps.length := by rw [List.append_nil, ← r.length]; exact F.len _ _ _ _ q
  refine ⟨J.kIn, wpAny_call (codeAny_mono (F.go X.A X.stack s1 H1 ⟨us, []⟩ us vs Q E hgd hr J.env0 ?_ r q) fun res s2 hq => ?_)⟩
  · have := hb s1 us J.kIn hl
    rwa [List.append_nil] at this
  · cases res with
    | error e => exact hx pins σ H1 s1 e s2 J hq
    | ok fl =>
      cases fl with
      | ret u => exact J.after hq
      | next => exact hq.elim
      | brk => exact hq.elim
      | cont => exact hq.elim
end
end R7
/-! Data, what a value denotes in a background, and what a def's body does to data. -/
namespace M7
open PySem PySem.Spec PyProof.Rows L2
/-- the program's classes, its exceptions -/
inductive CN where
  | rule | held | aimed | bound | folding | hand | cn6 | cn7
  deriving DecidableEq
inductive XN where
  | fold | rule | rods | lock | hinge | ways | refused | case | width | nothing | text | apart
  deriving DecidableEq
structure WD where
  K : PySem.W.Frag
  cls : CN → Addr
  exc : XN → Addr
  /-- what an exception of a present class is beside another -/
  has : XN → Prop
/-- data -/
inductive D where
  | non | bl (b : Bool) | int (i : Int) | str (x : Str)
  | lst (ds : List D) | scr (ds : List D) | tup (ds : List D) | dct (kvs : List (Key × D)) | obj (c : CN) (fs : List (Str × D)) | cls (c : CN)
def Ext (B B' : Hp) : Prop := ∀ a o, B a = some o → B' a = some o
def lockable : HO → Bool
  | .dK _ => true
  | _ => false
/-- the background stands in the heap, up to locks -/
def Sub (B H : Hp) : Prop := ∀ a o, B a = some o → H a = some o ∨ (lockable o = true ∧ ∃ ob, H a = some (.frz ob o))
mutual
/-- v is the datum d in the background B -/
inductive Den (w : WD) (B : Hp) : V → D → Prop
  | non : Den w B .non .non
  | bl (b : Bool) : Den w B (.bl b) (.bl b)
  | int (i : Int) : Den w B (.int i) (.int i)
  | str (x : Str) : Den w B (.str x) (.str x)
  | lst {a : Addr} {xs : List V} {ds : List D} : B a = some (.lst xs) → Dens w B xs ds → Den w B (.ref a) (.lst ds)
  | scr {a : Addr} {xs : List V} {ds : List D} : SqL w.K B a xs → Dens w B xs ds → Den w B (.ref a) (.scr ds)
  | tup {a : Addr} {xs : List V} {ds : List D} : SqT w.K B a xs → Dens w B xs ds → Den w B (.ref a) (.tup ds)
  | dct {a : Addr} {ks : List Key} {vs : List V} {ds : List D} : B a = some (.dK (ks.zip vs)) → ks.length = vs.length → Dens w B vs ds → Den w B (.ref a) (.dct (ks.zip ds))
  | obj {a dx : Addr} {c : CN} {ns : List Str} {vs : List V} {ds : List D} : B a = some (.ins (w.cls c) dx (ns.zip vs)) → ns.length = vs.length → Dens w B vs ds → Den w B (.ref a) (.obj c (ns.zip ds))
  | cls (c : CN) : Den w B (.ref (w.cls c)) (.cls c)
inductive Dens (w : WD) (B : Hp) : List V → List D → Prop
  | nil : Dens w B [] []
  | cons {v : V} {vs : List V} {d : D} {ds : List D} : Den w B v d → Dens w B vs ds → Dens w B (v :: vs) (d :: ds)
end
section
variable {w : WD} {B B' B2 H H' : Hp}
theorem Ext.refl (B : Hp) : Ext B B := fun _ _ h => h
theorem Ext.trans (h : Ext B B') (h' : Ext B' B2) : Ext B B2 := fun a o e => h' a o (h a o e)
theorem Ext.new {p : Addr} {o : HO} (h : B p = none) : Ext B (upd B p o) := fun a u e => by
  rw [upd_ne (ne_of_none e h)]
  exact e
theorem Ext.sub (h : Ext B B') (s : Sub B' H) : Sub B H := fun a o e => s a o (h a o e)
theorem Sub.rd {a : Addr} {u : HO} (h : Sub B H) (r : Rd B a u) : Rd H a u := by
  rcases r with r | ⟨o, r⟩
  · rcases h a u r with e | ⟨_, ob, e⟩
    · exact .inl e
    · exact .inr ⟨ob, e⟩
  · rcases h a _ r with e | ⟨l, _⟩
    · exact .inr ⟨o, e⟩
    · cases l
theorem Sub.sqL {a : Addr} {xs : List V} (h : Sub B H) (r : SqL w.K B a xs) : SqL w.K H a xs := r.elim (fun z => .inl (h.rd z)) .inr
theorem Sub.sqT {a : Addr} {xs : List V} (h : Sub B H) (r : SqT w.K B a xs) : SqT w.K H a xs := r.elim (fun z => .inl (h.rd z)) .inr
theorem Ext.rd {a : Addr} {u : HO} (h : Ext B B') (r : Rd B a u) : Rd B' a u := r.elim (fun z => .inl (h a u z)) fun ⟨o, z⟩ => .inr ⟨o, h a _ z⟩
theorem Ext.sqL {a : Addr} {xs : List V} (h : Ext B B') (r : SqL w.K B a xs) : SqL w.K B' a xs := r.elim (fun z => .inl (h.rd z)) .inr
theorem Ext.sqT {a : Addr} {xs : List V} (h : Ext B B') (r : SqT w.K B a xs) : SqT w.K B' a xs := r.elim (fun z => .inl (h.rd z)) .inr
mutual
theorem Den.mono (h : Ext B B') : ∀ {v : V} {d : D}, Den w B v d → Den w B' v d
  | _, _, .non => .non
  | _, _, .bl b => .bl b
  | _, _, .int i => .int i
  | _, _, .str x => .str x
  | _, _, .lst s r => .lst (h _ _ s) (Dens.mono h r)
  | _, _, .scr s r => .scr (h.sqL s) (Dens.mono h r)
  | _, _, .tup s r => .tup (h.sqT s) (Dens.mono h r)
  | _, _, .dct s l r => .dct (h _ _ s) l (Dens.mono h r)
  | _, _, .obj s l r => .obj (h _ _ s) l (Dens.mono h r)
  | _, _, .cls c => .cls c
theorem Dens.mono (h : Ext B B') : ∀ {vs : List V} {ds : List D}, Dens w B vs ds → Dens w B' vs ds
  | _, _, .nil => .nil
  | _, _, .cons r t => .cons (Den.mono h r) (Dens.mono h t)
end
theorem Dens.len : ∀ {vs : List V} {ds : List D}, Dens w B vs ds → vs.length = ds.length
  | _, _, .nil => rfl
  | _, _, .cons _ t => by rw [List.length_cons, List.length_cons, t.len]
theorem Dens.get : ∀ {vs : List V} {ds : List D} {i : Nat} {d : D}, Dens w B vs ds → ds[i]? = some d → ∃ v, vs[i]? = some v ∧ Den w B v d
  | _, _, _, _, .nil, e => by simp at e
  | _, _, 0, _, .cons r _, e => by
    simp at e
    subst e
    exact ⟨_, rfl, r⟩
  | _, _, i + 1, _, .cons _ t, e => by
    obtain ⟨v, h1, h2⟩ := t.get (i := i) (by simpa using e)
    exact ⟨v, by simpa using h1, h2⟩
theorem Dens.get' : ∀ {vs : List V} {ds : List D} {i : Nat} {v : V}, Dens w B vs ds → vs[i]? = some v → ∃ d, ds[i]? = some d ∧ Den w B v d
  | _, _, _, _, .nil, e => by simp at e
  | _, _, 0, _, .cons r _, e => by
    simp at e
    subst e
    exact ⟨_, rfl, r⟩
  | _, _, i + 1, _, .cons _ t, e => by
    obtain ⟨v, h1, h2⟩ := t.get' (i := i) (by simpa using e)
    exact ⟨v, by simpa using h1, h2⟩
theorem Dens.app : ∀ {vs us : List V} {ds es : List D}, Dens w B vs ds → Dens w B us es → Dens w B (vs ++ us) (ds ++ es)
  | _, _, _, _, .nil, t => t
  | _, _, _, _, .cons r t, t' => .cons r (t.app t')
theorem Dens.take : ∀ {vs : List V} {ds : List D} (n : Nat), Dens w B vs ds → Dens w B (vs.take n) (ds.take n)
  | _, _, 0, _ => .nil
  | _, _, _ + 1, .nil => .nil
  | _, _, n + 1, .cons r t => .cons r (t.take n)
theorem Dens.drop : ∀ {vs : List V} {ds : List D} (n : Nat), Dens w B vs ds → Dens w B (vs.drop n) (ds.drop n)
  | _, _, 0, t => t
  | _, _, _ + 1, .nil => .nil
  | _, _, n + 1, .cons _ t => t.drop n
theorem Dens.set : ∀ {vs : List V} {ds : List D} {v : V} {d : D} (n : Nat), Dens w B vs ds → Den w B v d → Dens w B (vs.set n v) (ds.set n d)
  | _, _, _, _, _, .nil, _ => .nil
  | _, _, _, _, 0, .cons _ t, r => .cons r t
  | _, _, _, _, n + 1, .cons q t, r => .cons q (t.set n r)
theorem Dens.rev {vs : List V} {ds : List D} (h : Dens w B vs ds) : Dens w B vs.reverse ds.reverse := by
  induction h using Dens.rec (motive_1 := fun _ _ _ => True) with
  | nil => exact .nil
  | cons r t _ ih => rw [List.reverse_cons, List.reverse_cons]; exact ih.app (.cons r .nil)
  | _ => trivial
end

/-! ### slots -/
/-- what a slot holds: frozen data; an object of the def's own; one that the caller has lent; one that was lent and is frozen since -/
inductive Fl where
  | f | o | p | q
  deriving DecidableEq
def Fl.own : Fl → Bool
  | .o => true
  | .p => true
  | _ => false
def Fl.pin : Fl → Bool
  | .p => true
  | .q => true
  | _ => false
/-- frozen from now on -/
def Fl.fz : Fl → Fl
  | .f => .f
  | .o => .f
  | .p => .q
  | .q => .q
abbrev G := List (Option (Fl × D))
/-- the object at a, which may still change, holds d -/
inductive Own (w : WD) (B H : Hp) : Addr → D → Prop
  | lst {a : Addr} {xs : List V} {ds : List D} : H a = some (.lst xs) → Dens w B xs ds → Own w B H a (.lst ds)
  | dct {a : Addr} {ks : List Key} {vs : List V} {ds : List D} : H a = some (.dK (ks.zip vs)) → ks.length = vs.length → Dens w B vs ds → Own w B H a (.dct (ks.zip ds))
  | obj {a dx : Addr} {c : CN} {ns : List Str} {vs : List V} {ds : List D} : H a = some (.ins (w.cls c) dx (ns.zip vs)) → ns.length = vs.length → Dens w B vs ds → Own w B H a (.obj c (ns.zip ds))
/-- B: what is known and stays; Z: what else must stay; π: the arguments as they were handed in -/
structure Sat (w : WD) (π : Nat → V) (B Z : Hp) (g : G) (σ : L2.St) (H : Hp) : Prop where
  sub : Sub B H
  keep : Ext Z H
  dis : ∀ a o, Z a = some o → B a = none
  len : g.length = σ.length
  fz : ∀ (i : Nat) (c : Fl) (d : D), g[i]? = some (some (c, d)) → c.own = false → ∃ v, σ[i]? = some (some v) ∧ Den w B v d
  ow : ∀ (i : Nat) (c : Fl) (d : D), g[i]? = some (some (c, d)) → c.own = true → ∃ a : Addr, σ[i]? = some (some (V.ref a)) ∧ B a = none ∧ Z a = none ∧ Own w B H a d
  dj : ∀ (i j : Nat) (c c' : Fl) (d e : D) (a : Addr), g[i]? = some (some (c, d)) → g[j]? = some (some (c', e)) → c.own = true → c'.own = true → σ[i]? = some (some (V.ref a)) → σ[j]? = some (some (V.ref a)) → i = j
  pin : ∀ (i : Nat) (c : Fl) (d : D), g[i]? = some (some (c, d)) → c.pin = true → σ[i]? = some (some (π i))
/-- what an expression gives: o: a new object of one's own -/
def Res (w : WD) (B Z : Hp) (g : G) (σ : L2.St) (H : Hp) (v : V) (o : Bool) (d : D) : Prop :=
  if o = true then ∃ a : Addr, v = .ref a ∧ B a = none ∧ Z a = none ∧ Own w B H a d ∧ ∀ (i : Nat) (c : Fl) (e : D), g[i]? = some (some (c, e)) → c.own = true → σ[i]? ≠ some (some (V.ref a)) else Den w B v d
/-- what comes of an expression -/
inductive O (α : Type) where
  | ok (a : α) (g : G) | ex (x : XN) (f : Option D) (g : G) | fail
def O.bind {α β : Type} : O α → (α → G → O β) → O β
  | .ok a g, k => k a g
  | .ex x f g, _ => .ex x f g
  | .fail, _ => .fail
/-- an exception's own dict -/
def XOk (w : WD) (B H : Hp) (f : Option D) (dd : Option Addr) : Prop :=
  match f with
  | none => dd = none
  | some d => ∃ a n v, dd = some a ∧ H a = some (.xd [(n, v)]) ∧ Den w B v d
/-- what comes of a statement -/
inductive F where
  | nx (g : G) | rt (o : Bool) (d : D) (g : G) | bk (g : G) | ct (g : G) | ex (x : XN) (f : Option D) (g : G) | fail
section
variable (w : WD) (W : WX) (π : Nat → V) (B Z : Hp)
def PostX (x : XN) (f : Option D) (g : G) : Prop := w.has x → ∀ dd B' H' σ', Ext B B' → Sat w π B' Z g σ' H' → XOk w B' H' f dd → W (.ref (w.exc x)) dd σ' H'
def PostE (σ : L2.St) (Q : VK) : O (Bool × D) → Prop
  | .ok (o, d) g => ∀ v B' H', Ext B B' → Sat w π B' Z g σ H' → Res w B' Z g σ H' v o d → Q v H'
  | .ex x f g => PostX w W π B Z x f g
  | .fail => False
end
end M7
namespace M7
open PySem PySem.Spec PyProof.Rows L2
section
variable {w : WD} {W : WX} {π : Nat → V} {B B' B1 Z : Hp} {g : G} {σ : L2.St} {H H' : Hp}
/-! ### what Sat gives and how it is carried on -/
theorem Own.mono {a : Addr} {d : D} (h : Ext B B') : Own w B H a d → Own w B' H a d
  | .lst e r => .lst e (r.mono h)
  | .dct e l r => .dct e l (r.mono h)
  | .obj e l r => .obj e l (r.mono h)
theorem Own.at {a : Addr} {d : D} (o : Own w B H a d) (e : H' a = H a) : Own w B H' a d := by
  cases o with
  | lst z r => exact .lst (e.trans z) r
  | dct z l r => exact .dct (e.trans z) l r
  | obj z l r => exact .obj (e.trans z) l r
theorem Own.there {a : Addr} {d : D} (o : Own w B H a d) : ∃ u, H a = some u := by
  cases o with
  | lst z r => exact ⟨_, z⟩
  | dct z l r => exact ⟨_, z⟩
  | obj z l r => exact ⟨_, z⟩
theorem Fl.own_fz (c : Fl) : c.fz.own = false := by cases c <;> rfl
theorem Fl.pin_fz (c : Fl) : c.fz.pin = c.pin := by cases c <;> rfl
/-- the heap has grown, or changed where nobody looks -/
theorem Sat.heap (s : Sat w π B Z g σ H) (h1 : Sub B H') (h2 : Ext Z H') (h3 : ∀ a d, B a = none → Z a = none → Own w B H a d → Own w B H' a d) : Sat w π B Z g σ H' :=
  ⟨h1, h2, s.dis, s.len, s.fz, fun i c d e o => by
    obtain ⟨a, q1, q2, q3, q4⟩ := s.ow i c d e o
    exact ⟨a, q1, q2, q3, h3 a d q2 q3 q4⟩, s.dj, s.pin⟩
theorem Sub.same (h : Sub B H) (k : Ext H H') : Sub B H' := fun a o e => by
  rcases h a o e with z | ⟨l, ob, z⟩
  · exact .inl (k _ _ z)
  · exact .inr ⟨l, ob, k _ _ z⟩
theorem Sat.grow (s : Sat w π B Z g σ H) (k : Ext H H') : Sat w π B Z g σ H' :=
  s.heap (s.sub.same k) (s.keep.trans k) fun a d _ _ o => by
    obtain ⟨u, e⟩ := o.there
    exact o.at ((k _ _ e).trans e.symm)
theorem Sub.none (h : Sub B H) {p : Addr} (e : H p = none) : B p = none := by
  cases q : B p with
  | none => rfl
  | some o =>
    rcases h p o q with z | ⟨_, _, z⟩ <;> (rw [e] at z; cases z)
theorem Ext.none (h : Ext B H) {p : Addr} (e : H p = none) : B p = none := by
  cases q : B p with
  | none => rfl
  | some o =>
    have z := h p o q
    rw [e] at z
    cases z
/-- the background has grown by what stands in the heap -/
theorem Sat.more (s : Sat w π B Z g σ H) (e : Ext B B') (h : Sub B' H) (hz : ∀ a o, Z a = some o → B' a = none) (ho : ∀ (i : Nat) (c : Fl) (d : D) (a : Addr), g[i]? = some (some (c, d)) → c.own = true → σ[i]? = some (some (V.ref a)) → B' a = none) : Sat w π B' Z g σ H :=
  ⟨h, s.keep, hz, s.len, fun i c d q z => by
    obtain ⟨v, q1, q2⟩ := s.fz i c d q z
    exact ⟨v, q1, q2.mono e⟩, fun i c d q z => by
    obtain ⟨a, q1, q2, q3, q4⟩ := s.ow i c d q z
    exact ⟨a, q1, ho i c d a q z q1, q3, q4.mono e⟩, s.dj, s.pin⟩
theorem Sub.upd {a : Addr} {o : HO} (h : Sub B H) (e : H a = some o) : Sub (upd B a o) H := fun b u q => by
  by_cases hb : b = a
  · subst hb
    rw [upd_same] at q
    cases q
    exact .inl e
  · rw [upd_ne hb] at q
    exact h b u q
/-- an object of one's own becomes part of the background -/
theorem Own.den {a : Addr} {d : D} (o : Own w B H a d) (e : B a = none) : ∃ u, H a = some u ∧ Den w (upd B a u) (.ref a) d := by
  cases o with
  | lst z r => exact ⟨_, z, .lst upd_same (r.mono (Ext.new e))⟩
  | dct z l r => exact ⟨_, z, .dct upd_same l (r.mono (Ext.new e))⟩
  | obj z l r => exact ⟨_, z, .obj upd_same l (r.mono (Ext.new e))⟩
theorem Res.freeze {v : V} {o : Bool} {d : D} (s : Sat w π B Z g σ H) (r : Res w B Z g σ H v o d) : ∃ B1, Ext B B1 ∧ Sat w π B1 Z g σ H ∧ Den w B1 v d := by
  cases o with
  | false => exact ⟨B, Ext.refl B, s, r⟩
  | true =>
    obtain ⟨a, rfl, hb, hz, ho, hn⟩ := r
    obtain ⟨u, hu, hd⟩ := ho.den hb
    refine ⟨upd B a u, Ext.new hb, s.more (Ext.new hb) (s.sub.upd hu) (fun b q e => ?_) (fun i c e b q1 q2 q3 => ?_), hd⟩
    · rw [upd_ne (ne_of_none e hz)]
      exact s.dis b q e
    · have : b ≠ a := fun z => hn i c e q1 q2 (by rw [q3, z])
      rw [upd_ne this]
      obtain ⟨b', q4, q5, _⟩ := s.ow i c e q1 q2
      rw [q3] at q4
      cases q4
      exact q5
theorem get_set {g : G} {i j : Nat} {x : Option (Fl × D)} {y} (h : (g.set i x)[j]? = some y) : (j = i ∧ y = x) ∨ (j ≠ i ∧ g[j]? = some y) := by
  rw [List.getElem?_set] at h
  split at h
  · rename_i e
    split at h
    · exact .inl ⟨e.symm, by cases h; rfl⟩
    · cases h
  · rename_i e
    exact .inr ⟨fun z => e z.symm, h⟩
/-- a slot's own object becomes part of the background -/
theorem Sat.freeze {i : Nat} {c : Fl} {d : D} (s : Sat w π B Z g σ H) (e : g[i]? = some (some (c, d))) : ∃ B1 v, Ext B B1 ∧ Sat w π B1 Z (g.set i (some (c.fz, d))) σ H ∧ σ[i]? = some (some v) ∧ Den w B1 v d := by
  have sl : ∀ (B1 : Hp) (v : V), Ext B B1 → Sub B1 H → (∀ a o, Z a = some o → B1 a = none) → σ[i]? = some (some v) → Den w B1 v d → (∀ (j : Nat) (c' : Fl) (d' : D) (a : Addr), j ≠ i → g[j]? = some (some (c', d')) → c'.own = true → σ[j]? = some (some (V.ref a)) → B1 a = none) → Sat w π B1 Z (g.set i (some (c.fz, d))) σ H := fun B1 v h1 h2 h3 h4 h5 h6 => by
    refine ⟨h2, s.keep, h3, by rw [List.length_set]; exact s.len, fun j c' d' q z => ?_, fun j c' d' q z => ?_, fun j k c1 c2 d1 d2 a q1 q2 z1 z2 t1 t2 => ?_, fun j c' d' q z => ?_⟩
    · rcases get_set q with ⟨rfl, qe⟩ | ⟨n, q⟩
      · cases qe
        exact ⟨v, h4, h5⟩
      · obtain ⟨u, q1, q2⟩ := s.fz j c' d' q z
        exact ⟨u, q1, q2.mono h1⟩
    · rcases get_set q with ⟨rfl, qe⟩ | ⟨n, q⟩
      · cases qe
        rw [Fl.own_fz] at z
        cases z
      · obtain ⟨a, q1, q2, q3, q4⟩ := s.ow j c' d' q z
        exact ⟨a, q1, h6 j c' d' a n q z q1, q3, q4.mono h1⟩
    · rcases get_set q1 with ⟨rfl, qe⟩ | ⟨n1, q1⟩
      · cases qe
        rw [Fl.own_fz] at z1
        cases z1
      rcases get_set q2 with ⟨rfl, qe⟩ | ⟨n2, q2⟩
      · cases qe
        rw [Fl.own_fz] at z2
        cases z2
      exact s.dj j k c1 c2 d1 d2 a q1 q2 z1 z2 t1 t2
    · rcases get_set q with ⟨rfl, qe⟩ | ⟨n, q⟩
      · cases qe
        rw [Fl.pin_fz] at z
        exact s.pin j c d e z
      · exact s.pin j c' d' q z
  cases ho : c.own with
  | false =>
    obtain ⟨v, h1, h2⟩ := s.fz i c d e ho
    exact ⟨B, v, Ext.refl B, sl B v (Ext.refl B) s.sub s.dis h1 h2 fun j c' d' a _ q z t => by
      obtain ⟨a', q1, q2, _⟩ := s.ow j c' d' q z
      rw [t] at q1
      cases q1
      exact q2, h1, h2⟩
  | true =>
    obtain ⟨a, h1, h2, h3, h4⟩ := s.ow i c d e ho
    obtain ⟨u, hu, hd⟩ := h4.den h2
    refine ⟨upd B a u, .ref a, Ext.new h2, sl _ _ (Ext.new h2) (s.sub.upd hu) (fun b o z => ?_) h1 hd (fun j c' d' b n q z t => ?_), h1, hd⟩
    · rw [upd_ne (ne_of_none z h3)]
      exact s.dis b o z
    · obtain ⟨b', q1, q2, _⟩ := s.ow j c' d' q z
      rw [t] at q1
      cases q1
      rw [upd_ne fun y => n (s.dj j i c' c d' d b q e z ho t (by rw [y]; exact h1))]
      exact q2

/-! ### operands -/
/-- an operand: a name, or data -/
inductive Ref where
  | sl (i : Nat) | dt (d : D)
def Ref.get (g : G) : Ref → Option D
  | .sl i => match g[i]? with
    | some (some (_, d)) => some d
    | _ => none
  | .dt d => some d
def RefOk (w : WD) (B : Hp) (σ : L2.St) (v : V) : Ref → Prop
  | .sl i => σ[i]? = some (some v)
  | .dt d => Den w B v d
theorem RefOk.mono {v : V} (h : Ext B B') : ∀ {r : Ref}, RefOk w B σ v r → RefOk w B' σ v r
  | .sl _, e => e
  | .dt _, e => Den.mono h e
/-- v holds d as it stands now -/
inductive Lk (w : WD) (B H : Hp) : V → D → Prop where
  | den {v : V} {d : D} : Den w B v d → Lk w B H v d
  | own {a : Addr} {d : D} : B a = none → Own w B H a d → Lk w B H (.ref a) d
theorem Sat.lk {v : V} {r : Ref} {d : D} (s : Sat w π B Z g σ H) (h : RefOk w B σ v r) (e : r.get g = some d) : Lk w B H v d := by
  cases r with
  | dt d' =>
    have e : some d' = some d := e
    cases e
    exact .den h
  | sl i =>
    have h : σ[i]? = some (some v) := h
    have e : (match g[i]? with
    | some (some (_, d)) => some d
    | _ => none) = some d := e
    split at e
    · rename_i c d' q
      cases e
      cases ho : c.own with
      | false =>
        obtain ⟨u, q1, q2⟩ := s.fz i c d q ho
        rw [h] at q1
        cases q1
        exact .den q2
      | true =>
        obtain ⟨a, q1, q2, q3, q4⟩ := s.ow i c d q ho
        rw [h] at q1
        cases q1
        exact .own q2 q4
    · cases e

/-! ### what a reading does to data -/
abbrev SE := G → O (Bool × D)
abbrev SB := G → O Ref
abbrev SA := G → O (List Ref)
abbrev ST := G → O Bool
abbrev SO := G → O (Option Int)
abbrev SS := G → F
end
inductive RefsOk (w : WD) (B : Hp) (σ : L2.St) : List V → List Ref → Prop where
  | nil : RefsOk w B σ [] []
  | cons {v : V} {vs : List V} {r : Ref} {rs : List Ref} : RefOk w B σ v r → RefsOk w B σ vs rs → RefsOk w B σ (v :: vs) (r :: rs)
theorem RefsOk.mono {w : WD} {B B' : Hp} {σ : L2.St} (h : Ext B B') : ∀ {vs : List V} {rs : List Ref}, RefsOk w B σ vs rs → RefsOk w B' σ vs rs
  | _, _, .nil => .nil
  | _, _, .cons r t => .cons (r.mono h) (t.mono h)
section
variable (w : WD) (W : WX) (π : Nat → V) (B Z : Hp)
def PostB (σ : L2.St) (Q : VK) : O Ref → Prop
  | .ok r g => ∀ v B' H', Ext B B' → Sat w π B' Z g σ H' → RefOk w B' σ v r → Q v H'
  | .ex x f g => PostX w W π B Z x f g
  | .fail => False
def PostA (σ : L2.St) (Q : List V → Hp → Prop) : O (List Ref) → Prop
  | .ok r g => ∀ v B' H', Ext B B' → Sat w π B' Z g σ H' → RefsOk w B' σ v r → Q v H'
  | .ex x f g => PostX w W π B Z x f g
  | .fail => False
/-- a plain Lean value comes -/
def PostL {α : Type} (σ : L2.St) (Q : α → Hp → Prop) : O α → Prop
  | .ok r g => ∀ B' H', Ext B B' → Sat w π B' Z g σ H' → Q r H'
  | .ex x f g => PostX w W π B Z x f g
  | .fail => False
def PostS (D : Ends) : F → Prop
  | .nx g => ∀ B' H' σ', Ext B B' → Sat w π B' Z g σ' H' → D.nx σ' H'
  | .bk g => ∀ B' H' σ', Ext B B' → Sat w π B' Z g σ' H' → D.bk σ' H'
  | .ct g => ∀ B' H' σ', Ext B B' → Sat w π B' Z g σ' H' → D.ct σ' H'
  | .rt o d g => ∀ v B' H' σ', Ext B B' → Sat w π B' Z g σ' H' → Res w B' Z g σ' H' v o d → D.rt v H'
  | .ex x f g => PostX w W π B Z x f g
  | .fail => False
end
section
variable (w : WD) (W : WX)
def RE (te : TE) (se : SE) : Prop := ∀ π B Z g σ H Q, Sat w π B Z g σ H → PostE w W π B Z σ Q (se g) → te σ H Q
def RB (te : TE) (sb : SB) : Prop := ∀ π B Z g σ H Q, Sat w π B Z g σ H → PostB w W π B Z σ Q (sb g) → te σ H Q
def RA (ta : TA) (sa : SA) : Prop := ∀ π B Z g σ H Q, Sat w π B Z g σ H → PostA w W π B Z σ Q (sa g) → ta σ H Q
def RT (tt : TT) (st : ST) : Prop := ∀ π B Z g σ H Q, Sat w π B Z g σ H → PostL w W π B Z σ Q (st g) → tt σ H Q
def RO (to : TO) (so : SO) : Prop := ∀ π B Z g σ H Q, Sat w π B Z g σ H → PostL w W π B Z σ Q (so g) → to σ H Q
def RS (ts : TS) (ss : SS) : Prop := ∀ π B Z g σ H D, Sat w π B Z g σ H → PostS w W π B Z D (ss g) → ts D σ H
end
section
variable {w : WD} {W : WX} {π : Nat → V} {B B' B1 Z : Hp} {g : G} {σ : L2.St} {H H' : Hp}
theorem PostX.mono {x : XN} {f : Option D} (e : Ext B B') (h : PostX w W π B Z x f g) : PostX w W π B' Z x f g := fun hx dd B2 H2 σ2 e2 => h hx dd B2 H2 σ2 (e.trans e2)
theorem PostE.mono {Q : VK} (e : Ext B B') : ∀ {x : O (Bool × D)}, PostE w W π B Z σ Q x → PostE w W π B' Z σ Q x
  | .ok (_, _) _, h => fun v B2 H2 e2 => h v B2 H2 (e.trans e2)
  | .ex _ _ _, h => PostX.mono e h
  | .fail, h => h
theorem PostB.mono {Q : VK} (e : Ext B B') : ∀ {x : O Ref}, PostB w W π B Z σ Q x → PostB w W π B' Z σ Q x
  | .ok _ _, h => fun v B2 H2 e2 => h v B2 H2 (e.trans e2)
  | .ex _ _ _, h => PostX.mono e h
  | .fail, h => h
theorem PostA.mono {Q : List V → Hp → Prop} (e : Ext B B') : ∀ {x : O (List Ref)}, PostA w W π B Z σ Q x → PostA w W π B' Z σ Q x
  | .ok _ _, h => fun v B2 H2 e2 => h v B2 H2 (e.trans e2)
  | .ex _ _ _, h => PostX.mono e h
  | .fail, h => h
theorem PostL.mono {α : Type} {Q : α → Hp → Prop} (e : Ext B B') : ∀ {x : O α}, PostL w W π B Z σ Q x → PostL w W π B' Z σ Q x
  | .ok _ _, h => fun B2 H2 e2 => h B2 H2 (e.trans e2)
  | .ex _ _ _, h => PostX.mono e h
  | .fail, h => h
theorem PostS.mono {D : Ends} (e : Ext B B') : ∀ {x : F}, PostS w W π B Z D x → PostS w W π B' Z D x
  | .nx _, h => fun B2 H2 σ2 e2 => h B2 H2 σ2 (e.trans e2)
  | .bk _, h => fun B2 H2 σ2 e2 => h B2 H2 σ2 (e.trans e2)
  | .ct _, h => fun B2 H2 σ2 e2 => h B2 H2 σ2 (e.trans e2)
  | .rt _ _ _, h => fun v B2 H2 σ2 e2 => h v B2 H2 σ2 (e.trans e2)
  | .ex _ _ _, h => PostX.mono e h
  | .fail, h => h
/-! what follows a part: any kind of end that passes exceptions on -/
/-- an end of what is left: its kind's Post, which grows with the background and passes exceptions -/
structure Tail (w : WD) (W : WX) (π : Nat → V) (Z : Hp) {α : Type} (P : Hp → O α → Prop) : Prop where
  mono : ∀ {B B'} {x : O α}, Ext B B' → P B x → P B' x
  ex : ∀ {B x f g}, P B (.ex x f g) → PostX w W π B Z x f g
  no : ∀ {B}, ¬ P B .fail
theorem tailE {Q : VK} : Tail w W π Z (fun B => PostE w W π B Z σ Q) := ⟨fun e h => h.mono e, fun h => h, fun h => h⟩
theorem tailB {Q : VK} : Tail w W π Z (fun B => PostB w W π B Z σ Q) := ⟨fun e h => h.mono e, fun h => h, fun h => h⟩
theorem tailA {Q : List V → Hp → Prop} : Tail w W π Z (fun B => PostA w W π B Z σ Q) := ⟨fun e h => h.mono e, fun h => h, fun h => h⟩
theorem tailL {α : Type} {Q : α → Hp → Prop} : Tail w W π Z (fun B => PostL w W π B Z σ Q) := ⟨fun e h => h.mono e, fun h => h, fun h => h⟩
theorem Tail.bE {α : Type} {P : Hp → O α → Prop} (T : Tail w W π Z P) {x : O (Bool × D)} {k : Bool × D → G → O α} {Q1 : VK} (h : P B (x.bind k))
    (K : ∀ o d g1 v B1 H1, Ext B B1 → Sat w π B1 Z g1 σ H1 → Res w B1 Z g1 σ H1 v o d → P B1 (k (o, d) g1) → Q1 v H1) : PostE w W π B Z σ Q1 x := by
  cases x with
  | ok a g1 => exact fun v B1 H1 e s r => K a.1 a.2 g1 v B1 H1 e s r (T.mono e h)
  | ex x f g => exact T.ex h
  | fail => exact T.no h
theorem Tail.bB {α : Type} {P : Hp → O α → Prop} (T : Tail w W π Z P) {x : O Ref} {k : Ref → G → O α} {Q1 : VK} (h : P B (x.bind k))
    (K : ∀ r g1 v B1 H1, Ext B B1 → Sat w π B1 Z g1 σ H1 → RefOk w B1 σ v r → P B1 (k r g1) → Q1 v H1) : PostB w W π B Z σ Q1 x := by
  cases x with
  | ok a g1 => exact fun v B1 H1 e s r => K a g1 v B1 H1 e s r (T.mono e h)
  | ex x f g => exact T.ex h
  | fail => exact T.no h
theorem Tail.bA {α : Type} {P : Hp → O α → Prop} (T : Tail w W π Z P) {x : O (List Ref)} {k : List Ref → G → O α} {Q1 : List V → Hp → Prop} (h : P B (x.bind k))
    (K : ∀ r g1 v B1 H1, Ext B B1 → Sat w π B1 Z g1 σ H1 → RefsOk w B1 σ v r → P B1 (k r g1) → Q1 v H1) : PostA w W π B Z σ Q1 x := by
  cases x with
  | ok a g1 => exact fun v B1 H1 e s r => K a g1 v B1 H1 e s r (T.mono e h)
  | ex x f g => exact T.ex h
  | fail => exact T.no h
theorem Tail.bL {α β : Type} {P : Hp → O α → Prop} (T : Tail w W π Z P) {x : O β} {k : β → G → O α} {Q1 : β → Hp → Prop} (h : P B (x.bind k))
    (K : ∀ r g1 B1 H1, Ext B B1 → Sat w π B1 Z g1 σ H1 → P B1 (k r g1) → Q1 r H1) : PostL w W π B Z σ Q1 x := by
  cases x with
  | ok a g1 => exact fun B1 H1 e s => K a g1 B1 H1 e s (T.mono e h)
  | ex x f g => exact T.ex h
  | fail => exact T.no h
/-! ### names and constants -/
def sbVar (i : Nat) : SB := fun g => match g[i]? with
  | some (some _) => .ok (.sl i) g
  | _ => .fail
/-- the value of a name: frozen from now on -/
def seVar (i : Nat) : SE := fun g => match g[i]? with
  | some (some (c, d)) => .ok (false, d) (g.set i (some (c.fz, d)))
  | _ => .fail
theorem rb_var {i : Nat} : RB w W (tVar i) (sbVar i) := fun π B Z g σ H Q s h => by
  unfold sbVar at h
  split at h
  · rename_i p e
    obtain ⟨c, d⟩ := p
    obtain ⟨v, hv⟩ : ∃ v, σ[i]? = some (some v) := by
      cases ho : c.own with
      | false => obtain ⟨v, q, _⟩ := s.fz i c d e ho; exact ⟨v, q⟩
      | true => obtain ⟨a, q, _⟩ := s.ow i c d e ho; exact ⟨_, q⟩
    exact ⟨v, hv, h v B H (Ext.refl B) s hv⟩
  · exact h.elim
theorem re_var {i : Nat} : RE w W (tVar i) (seVar i) := fun π B Z g σ H Q s h => by
  unfold seVar at h
  split at h
  · rename_i c d e
    obtain ⟨B1, v, e1, s1, hv, hd⟩ := s.freeze e
    exact ⟨v, hv, h v B1 H e1 s1 hd⟩
  · exact h.elim
def seC (d : D) : SE := fun g => .ok (false, d) g
theorem re_c {v : V} {d : D} (h : ∀ B, Den w B v d) : RE w W (tC v) (seC d) := fun π B Z g σ H Q s q => q v B H (Ext.refl B) s (h B)
theorem re_int {i : Int} : RE w W (tC (.int i)) (seC (.int i)) := re_c fun _ => .int i
theorem re_bl {b : Bool} : RE w W (tC (.bl b)) (seC (.bl b)) := re_c fun _ => .bl b
theorem re_non : RE w W (tC .non) (seC .non) := re_c fun _ => .non
theorem re_str {x : Str} : RE w W (tC (.str x)) (seC (.str x)) := re_c fun _ => .str x
/-- any expression as an operand -/
def sbOf (se : SE) : SB := fun g => (se g).bind fun r g1 => .ok (.dt r.2) g1
theorem rb_of {te : TE} {se : SE} (h : RE w W te se) : RB w W te (sbOf se) := fun π B Z g σ H Q s q =>
  h π B Z g σ H Q s (tailB.bE q fun o d g1 v B1 H1 e s1 r q1 => by
    obtain ⟨B2, e2, s2, hd⟩ := r.freeze s1
    exact q1 v B2 H1 e2 s2 hd)
/-! ### argument lists -/
def saNil : SA := fun g => .ok [] g
def saCons (sb : SB) (sa : SA) : SA := fun g => (sb g).bind fun r g1 => (sa g1).bind fun rs g2 => .ok (r :: rs) g2
theorem ra_nil : RA w W tNil saNil := fun π B Z g σ H Q s q => q [] B H (Ext.refl B) s .nil
theorem ra_cons {te : TE} {ta : TA} {sb : SB} {sa : SA} (h : RB w W te sb) (t : RA w W ta sa) : RA w W (tCons te ta) (saCons sb sa) := fun π B Z g σ H Q s q =>
  h π B Z g σ H _ s (tailA.bB q fun r g1 v B1 H1 e s1 r1 q1 => t π B1 Z g1 σ H1 _ s1 (tailA.bA q1 fun rs g2 vs B2 H2 e2 s2 r2 q2 => q2 _ B2 H2 (Ext.refl _) s2 (.cons (r1.mono e2) r2)))
/-! ### operations by values -/
def PostF (w : WD) (π : Nat → V) (B Z : Hp) (g : G) (σ : L2.St) (Q : VK) : Option (Bool × D) → Prop
  | some (o, d) => ∀ v B' H', Ext B B' → Sat w π B' Z g σ H' → Res w B' Z g σ H' v o d → Q v H'
  | none => False
def ofOpt (g : G) : Option (Bool × D) → O (Bool × D)
  | some r => .ok r g
  | none => .fail
inductive Lks (w : WD) (B H : Hp) : List V → List D → Prop where
  | nil : Lks w B H [] []
  | cons {v : V} {vs : List V} {d : D} {ds : List D} : Lk w B H v d → Lks w B H vs ds → Lks w B H (v :: vs) (d :: ds)
def OpD (w : WD) (r : R2) (f : D → D → Option (Bool × D)) : Prop := ∀ π B Z g σ H Q v u d e, Sat w π B Z g σ H → Lk w B H v d → Lk w B H u e → PostF w π B Z g σ Q (f d e) → r v u H Q
def CallD (w : WD) (r : List V → Hp → VK → Prop) (f : List D → Option (Bool × D)) : Prop := ∀ π B Z g σ H Q vs ds, Sat w π B Z g σ H → Lks w B H vs ds → PostF w π B Z g σ Q (f ds) → r vs H Q
def seOp (f : D → D → Option (Bool × D)) (sa sb : SB) : SE := fun g => (sa g).bind fun a g1 => (sb g1).bind fun b g2 => match a.get g2, b.get g2 with
  | some d, some e => ofOpt g2 (f d e)
  | _, _ => .fail
theorem postE_opt {Q : VK} {o : Option (Bool × D)} (h : PostE w W π B Z σ Q (ofOpt g o)) : PostF w π B Z g σ Q o := by
  cases o with
  | none => exact h
  | some r => exact h
theorem re_op {r : R2} {f : D → D → Option (Bool × D)} {ta tb : TE} {sa sb : SB} (hf : OpD w r f) (ha : RB w W ta sa) (hb : RB w W tb sb) : RE w W (tOp r ta tb) (seOp f sa sb) := fun π B Z g σ H Q s q =>
  ha π B Z g σ H _ s (tailE.bB q fun a g1 v B1 H1 e1 s1 r1 q1 => hb π B1 Z g1 σ H1 _ s1 (tailE.bB q1 fun b g2 u B2 H2 e2 s2 r2 q2 => by
    split at q2
    · rename_i d e h1 h2
      exact hf π B2 Z g2 σ H2 Q v u d e s2 (s2.lk (r1.mono e2) h1) (s2.lk r2 h2) (postE_opt q2)
    · exact q2.elim))
def refsGet (g : G) : List Ref → Option (List D)
  | [] => some []
  | r :: rs => match r.get g, refsGet g rs with
    | some d, some ds => some (d :: ds)
    | _, _ => none
theorem Sat.lks (s : Sat w π B Z g σ H) {vs : List V} {rs : List Ref} {ds : List D} (r : RefsOk w B σ vs rs) (e : refsGet g rs = some ds) : Lks w B H vs ds := by
  induction r generalizing ds with
  | nil =>
    cases e
    exact .nil
  | cons r t ih =>
    unfold refsGet at e
    split at e
    · rename_i d ds h1 h2
      cases e
      exact .cons (s.lk r h1) (ih h2)
    · cases e
def seCB (f : List D → Option (Bool × D)) (sa : SA) : SE := fun g => (sa g).bind fun rs g1 => match refsGet g1 rs with
  | some ds => ofOpt g1 (f ds)
  | none => .fail
theorem re_cb {r : List V → Hp → VK → Prop} {f : List D → Option (Bool × D)} {ta : TA} {sa : SA} (hf : CallD w r f) (ha : RA w W ta sa) : RE w W (tCB r ta) (seCB f sa) := fun π B Z g σ H Q s q =>
  ha π B Z g σ H _ s (tailE.bA q fun rs g1 vs B1 H1 e1 s1 r1 q1 => by
    split at q1
    · rename_i ds h1
      exact hf π B1 Z g1 σ H1 Q vs ds s1 (s1.lks r1 h1) (postE_opt q1)
    · exact q1.elim)
/-! ### tests -/
def stB (se : SE) : ST := fun g => (se g).bind fun r g1 => match r.2 with
  | .bl b => .ok b g1
  | _ => .fail
theorem res_bl {v : V} {o b : Bool} (r : Res w B Z g σ H v o (.bl b)) : v = .bl b := by
  cases o with
  | false =>
    have r : Den w B v (.bl b) := r
    cases r
    rfl
  | true =>
    obtain ⟨a, _, _, _, ho, _⟩ := r
    cases ho
theorem rt_b {te : TE} {se : SE} (h : RE w W te se) : RT w W (tB te) (stB se) := fun π B Z g σ H Q s q =>
  h π B Z g σ H _ s (tailL.bE q fun o d g1 v B1 H1 e s1 r q1 => by
    cases d with
    | bl b => exact ⟨b, res_bl r, q1 B1 H1 (Ext.refl _) s1⟩
    | _ => exact q1.elim)
def stAnd (a b : ST) : ST := fun g => (a g).bind fun x g1 => if x = true then b g1 else .ok false g1
def stOr (a b : ST) : ST := fun g => (a g).bind fun x g1 => if x = true then .ok true g1 else b g1
def stNot (a : ST) : ST := fun g => (a g).bind fun x g1 => .ok (!x) g1
theorem rt_and {t u : TT} {a b : ST} (h : RT w W t a) (k : RT w W u b) : RT w W (tAnd t u) (stAnd a b) := fun π B Z g σ H Q s q =>
  h π B Z g σ H _ s (tailL.bL q fun x g1 B1 H1 e s1 q1 => by
    cases x with
    | true => exact k π B1 Z g1 σ H1 Q s1 q1
    | false => exact q1 B1 H1 (Ext.refl _) s1)
theorem rt_or {t u : TT} {a b : ST} (h : RT w W t a) (k : RT w W u b) : RT w W (tOr t u) (stOr a b) := fun π B Z g σ H Q s q =>
  h π B Z g σ H _ s (tailL.bL q fun x g1 B1 H1 e s1 q1 => by
    cases x with
    | false => exact k π B1 Z g1 σ H1 Q s1 q1
    | true => exact q1 B1 H1 (Ext.refl _) s1)
theorem rt_not {t : TT} {a : ST} (h : RT w W t a) : RT w W (tNot t) (stNot a) := fun π B Z g σ H Q s q =>
  h π B Z g σ H _ s (tailL.bL q fun x g1 B1 H1 e s1 q1 => q1 B1 H1 (Ext.refl _) s1)
/-- .. as values -/
def seAnd (a b : SE) : SE := fun g => (a g).bind fun r g1 => match r.2 with
  | .bl true => b g1
  | .bl false => .ok (false, .bl false) g1
  | _ => .fail
def seOr (a b : SE) : SE := fun g => (a g).bind fun r g1 => match r.2 with
  | .bl false => b g1
  | .bl true => .ok (false, .bl true) g1
  | _ => .fail
def seNot (a : SE) : SE := fun g => (a g).bind fun r g1 => match r.2 with
  | .bl b => .ok (false, .bl (!b)) g1
  | _ => .fail
theorem re_and {t u : TE} {a b : SE} (h : RE w W t a) (k : RE w W u b) : RE w W (tAndV t u) (seAnd a b) := fun π B Z g σ H Q s q =>
  h π B Z g σ H _ s (tailE.bE q fun o d g1 v B1 H1 e s1 r q1 => by
    cases d with
    | bl x =>
      cases x with
      | true => exact ⟨true, res_bl r, k π B1 Z g1 σ H1 Q s1 q1⟩
      | false => exact ⟨false, res_bl r, q1 _ B1 H1 (Ext.refl _) s1 (.bl false)⟩
    | _ => exact q1.elim)
theorem re_or {t u : TE} {a b : SE} (h : RE w W t a) (k : RE w W u b) : RE w W (tOrV t u) (seOr a b) := fun π B Z g σ H Q s q =>
  h π B Z g σ H _ s (tailE.bE q fun o d g1 v B1 H1 e s1 r q1 => by
    cases d with
    | bl x =>
      cases x with
      | false => exact ⟨false, res_bl r, k π B1 Z g1 σ H1 Q s1 q1⟩
      | true => exact ⟨true, res_bl r, q1 _ B1 H1 (Ext.refl _) s1 (.bl true)⟩
    | _ => exact q1.elim)
theorem re_not {t : TE} {a : SE} (h : RE w W t a) : RE w W (tNotV t) (seNot a) := fun π B Z g σ H Q s q =>
  h π B Z g σ H _ s (tailE.bE q fun o d g1 v B1 H1 e s1 r q1 => by
    cases d with
    | bl x => exact ⟨x, res_bl r, q1 _ B1 H1 (Ext.refl _) s1 (.bl (!x))⟩
    | _ => exact q1.elim)
def seIf (c : ST) (a b : SE) : SE := fun g => (c g).bind fun x g1 => if x = true then a g1 else b g1
theorem re_if {tc : TT} {ta tb : TE} {c : ST} {a b : SE} (hc : RT w W tc c) (ha : RE w W ta a) (hb : RE w W tb b) : RE w W (tIf tc ta tb) (seIf c a b) := fun π B Z g σ H Q s q =>
  hc π B Z g σ H _ s (tailE.bL q fun x g1 B1 H1 e s1 q1 => by
    cases x with
    | true => exact ha π B1 Z g1 σ H1 Q s1 q1
    | false => exact hb π B1 Z g1 σ H1 Q s1 q1)
/-- either reading -/
def tAlt (t u : TE) : TE := fun σ H Q => t σ H Q ∨ u σ H Q
end
theorem pe_alt {X : Cx} {e : Expr} {t u : TE} (h : PE X e t) (k : PE X e u) : PE X e (tAlt t u) := ⟨fun pins s σ H Q I q => q.elim (h.run pins s σ H Q I) (k.run pins s σ H Q I)⟩
end M7
namespace M7
open PySem PySem.Spec PyProof.Rows L2
section
variable {w : WD} {W : WX} {π : Nat → V} {B B' B1 Z : Hp} {g : G} {σ : L2.St} {H H' : Hp}
/-- the object of slot i is written anew -/
theorem Sat.write {i : Nat} {c : Fl} {d d' : D} {a : Addr} {o : HO} (s : Sat w π B Z g σ H) (e : g[i]? = some (some (c, d))) (ho : c.own = true) (ha : σ[i]? = some (some (.ref a))) (n : Own w B (upd H a o) a d') :
    Sat w π B Z (g.set i (some (c, d'))) σ (upd H a o) := by
  obtain ⟨a', q1, hB, hZ, _⟩ := s.ow i c d e ho
  rw [ha] at q1
  cases q1
  refine ⟨fun b u q => ?_, fun b u q => ?_, s.dis, by rw [List.length_set]; exact s.len, fun j c' x q z => ?_, fun j c' x q z => ?_, fun j k c1 c2 d1 d2 b q1 q2 z1 z2 t1 t2 => ?_, fun j c' x q z => ?_⟩
  · rw [upd_ne (ne_of_none q hB)]
    exact s.sub b u q
  · rw [upd_ne (ne_of_none q hZ)]
    exact s.keep b u q
  · rcases get_set q with ⟨rfl, qe⟩ | ⟨nj, q⟩
    · cases qe
      rw [ho] at z
      cases z
    · exact s.fz j c' x q z
  · rcases get_set q with ⟨rfl, qe⟩ | ⟨nj, q⟩
    · cases qe
      exact ⟨a, ha, hB, hZ, n⟩
    · obtain ⟨b, r1, r2, r3, r4⟩ := s.ow j c' x q z
      have nb : b ≠ a := fun y => nj (s.dj j i c' c x d b q e z ho r1 (by rw [y]; exact ha))
      exact ⟨b, r1, r2, r3, r4.at (upd_ne nb)⟩
  · have back : ∀ {j c1 d1}, (g.set i (some (c, d')))[j]? = some (some (c1, d1)) → ∃ d0, g[j]? = some (some (c1, d0)) := fun {j c1 d1} q => by
      rcases get_set q with ⟨rfl, qe⟩ | ⟨_, q⟩
      · cases qe
        exact ⟨d, e⟩
      · exact ⟨d1, q⟩
    obtain ⟨e1, q1⟩ := back q1
    obtain ⟨e2, q2⟩ := back q2
    exact s.dj j k c1 c2 e1 e2 b q1 q2 z1 z2 t1 t2
  · rcases get_set q with ⟨rfl, qe⟩ | ⟨_, q⟩
    · cases qe
      exact s.pin j c d e z
    · exact s.pin j c' x q z
/-- a value is stored in slot i -/
def setS (g : G) (i : Nat) (r : Bool × D) : Option G := match g[i]? with
  | some (some (c, _)) => if c.pin = true then none else some (g.set i (some (if r.1 = true then .o else .f, r.2)))
  | some none => some (g.set i (some (if r.1 = true then .o else .f, r.2)))
  | none => none
theorem getσ_set {σ : L2.St} {i j : Nat} {v : V} {y} (h : (σ.set i (some v))[j]? = some y) : (j = i ∧ y = some v) ∨ (j ≠ i ∧ σ[j]? = some y) := by
  rw [List.getElem?_set] at h
  split at h
  · rename_i e
    split at h
    · exact .inl ⟨e.symm, by cases h; rfl⟩
    · cases h
  · rename_i e
    exact .inr ⟨fun z => e z.symm, h⟩
theorem Sat.set {i : Nat} {v : V} {o : Bool} {d : D} {g' : G} (s : Sat w π B Z g σ H) (r : Res w B Z g σ H v o d) (e : setS g i (o, d) = some g') : Sat w π B Z g' (σ.set i (some v)) H := by
  have key : i < g.length ∧ g' = g.set i (some (if o = true then Fl.o else Fl.f, d)) ∧ ∀ c e', g[i]? = some (some (c, e')) → c.pin = false := by
    unfold setS at e
    split at e
    · rename_i c d0 q
      split at e
      · cases e
      · rename_i np
        cases e
        refine ⟨(List.getElem?_eq_some_iff.mp q).1, rfl, fun c' e' q' => ?_⟩
        rw [q] at q'
        cases q'
        cases h : c.pin
        · rfl
        · exact absurd h np
    · rename_i q
      cases e
      refine ⟨(List.getElem?_eq_some_iff.mp q).1, rfl, fun c' e' q' => ?_⟩
      rw [q] at q'
      cases q'
    · cases e
  obtain ⟨hi, rfl, np⟩ := key
  have hiσ : i < σ.length := by rw [← s.len]; exact hi
  have same : (σ.set i (some v))[i]? = some (some v) := by rw [List.getElem?_set_self hiσ]
  have other : ∀ j, j ≠ i → (σ.set i (some v))[j]? = σ[j]? := fun j n => List.getElem?_set_ne (fun z => n z.symm)
  refine ⟨s.sub, s.keep, s.dis, by rw [List.length_set, List.length_set]; exact s.len, fun j c x q z => ?_, fun j c x q z => ?_, fun j k c1 c2 d1 d2 a q1 q2 z1 z2 t1 t2 => ?_, fun j c x q z => ?_⟩
  · rcases get_set q with ⟨rfl, qe⟩ | ⟨n, q⟩
    · cases qe
      cases o with
      | true => cases z
      | false => exact ⟨v, same, r⟩
    · rw [other j n]
      exact s.fz j c x q z
  · rcases get_set q with ⟨rfl, qe⟩ | ⟨n, q⟩
    · cases qe
      cases o with
      | false => cases z
      | true =>
        obtain ⟨a, rfl, h1, h2, h3, _⟩ := r
        exact ⟨a, same, h1, h2, h3⟩
    · rw [other j n]
      exact s.ow j c x q z
  · rcases get_set q1 with ⟨rfl, qe⟩ | ⟨n1, q1'⟩
    · rcases get_set q2 with ⟨rfl, qe2⟩ | ⟨n2, q2'⟩
      · rfl
      · cases qe
        cases o with
        | false => cases z1
        | true =>
          obtain ⟨a', rfl, _, _, _, hn⟩ := r
          rw [same] at t1
          cases t1
          rw [other k n2] at t2
          exact absurd t2 (hn k c2 d2 q2' z2)
    · rcases get_set q2 with ⟨rfl, qe2⟩ | ⟨n2, q2'⟩
      · cases qe2
        cases o with
        | false => cases z2
        | true =>
          obtain ⟨a', rfl, _, _, _, hn⟩ := r
          rw [same] at t2
          cases t2
          rw [other j n1] at t1
          exact absurd t1 (hn j c1 d1 q1' z1)
      · rw [other j n1] at t1
        rw [other k n2] at t2
        exact s.dj j k c1 c2 d1 d2 a q1' q2' z1 z2 t1 t2
  · rcases get_set q with ⟨rfl, qe⟩ | ⟨n, q⟩
    · cases qe
      cases o <;> cases z
    · rw [other j n]
      exact s.pin j c x q z
/-! ### statements -/
def ssNext : SS := fun g => .nx g
def ssSeq (a b : SS) : SS := fun g => match a g with
  | .nx g1 => b g1
  | r => r
def ssBreak : SS := fun g => .bk g
def ssCont : SS := fun g => .ct g
def ofO {α : Type} (x : O α) (k : α → G → F) : F := match x with
  | .ok a g => k a g
  | .ex x f g => .ex x f g
  | .fail => .fail
theorem rs_next : RS w W tNext ssNext := fun π B Z g σ H D s q => q B H σ (Ext.refl B) s
theorem rs_break : RS w W tBreak ssBreak := fun π B Z g σ H D s q => q B H σ (Ext.refl B) s
theorem rs_cont : RS w W tCont ssCont := fun π B Z g σ H D s q => q B H σ (Ext.refl B) s
theorem rs_seq {t u : TS} {a b : SS} (h : RS w W t a) (k : RS w W u b) : RS w W (tSeq t u) (ssSeq a b) := fun π B Z g σ H D s q => by
  refine h π B Z g σ H _ s ?_
  unfold ssSeq at q
  split at q
  · rename_i g1 e
    rw [e]
    exact fun B1 H1 σ1 e1 s1 => k π B1 Z g1 σ1 H1 D s1 (q.mono e1)
  · rename_i r
    revert q r
    cases a g with
    | nx g1 => exact fun h _ => absurd rfl (h g1)
    | rt o d g1 => exact fun _ q => q
    | bk g1 => exact fun _ q => q
    | ct g1 => exact fun _ q => q
    | ex x f g1 => exact fun _ q => q
    | fail => exact fun _ q => q
/-- a part whose exception passes on, ahead of a statement's end -/
theorem postS_E {Ds : Ends} {x : O (Bool × D)} {k : Bool × D → G → F} {Q1 : VK} (h : PostS w W π B Z Ds (ofO x k))
    (K : ∀ o d g1 v B1 H1, Ext B B1 → Sat w π B1 Z g1 σ H1 → Res w B1 Z g1 σ H1 v o d → PostS w W π B1 Z Ds (k (o, d) g1) → Q1 v H1) : PostE w W π B Z σ Q1 x := by
  cases x with
  | ok a g1 => exact fun v B1 H1 e s r => K a.1 a.2 g1 v B1 H1 e s r (PostS.mono e h)
  | ex x f g => exact h
  | fail => exact h
theorem postS_B {Ds : Ends} {x : O Ref} {k : Ref → G → F} {Q1 : VK} (h : PostS w W π B Z Ds (ofO x k))
    (K : ∀ r g1 v B1 H1, Ext B B1 → Sat w π B1 Z g1 σ H1 → RefOk w B1 σ v r → PostS w W π B1 Z Ds (k r g1) → Q1 v H1) : PostB w W π B Z σ Q1 x := by
  cases x with
  | ok a g1 => exact fun v B1 H1 e s r => K a g1 v B1 H1 e s r (PostS.mono e h)
  | ex x f g => exact h
  | fail => exact h
theorem postS_A {Ds : Ends} {x : O (List Ref)} {k : List Ref → G → F} {Q1 : List V → Hp → Prop} (h : PostS w W π B Z Ds (ofO x k))
    (K : ∀ r g1 v B1 H1, Ext B B1 → Sat w π B1 Z g1 σ H1 → RefsOk w B1 σ v r → PostS w W π B1 Z Ds (k r g1) → Q1 v H1) : PostA w W π B Z σ Q1 x := by
  cases x with
  | ok a g1 => exact fun v B1 H1 e s r => K a g1 v B1 H1 e s r (PostS.mono e h)
  | ex x f g => exact h
  | fail => exact h
theorem postS_L {Ds : Ends} {α : Type} {x : O α} {k : α → G → F} {Q1 : α → Hp → Prop} (h : PostS w W π B Z Ds (ofO x k))
    (K : ∀ r g1 B1 H1, Ext B B1 → Sat w π B1 Z g1 σ H1 → PostS w W π B1 Z Ds (k r g1) → Q1 r H1) : PostL w W π B Z σ Q1 x := by
  cases x with
  | ok a g1 => exact fun B1 H1 e s => K a g1 B1 H1 e s (PostS.mono e h)
  | ex x f g => exact h
  | fail => exact h
def ssDrop (se : SE) : SS := fun g => ofO (se g) fun _ g1 => .nx g1
theorem rs_drop {te : TE} {se : SE} (h : RE w W te se) : RS w W (tDrop te) (ssDrop se) := fun π B Z g σ H D s q =>
  h π B Z g σ H _ s (postS_E q fun o d g1 v B1 H1 e s1 r q1 => q1 B1 H1 σ (Ext.refl _) s1)
def ssRet (se : SE) : SS := fun g => ofO (se g) fun r g1 => .rt r.1 r.2 g1
theorem rs_ret {te : TE} {se : SE} (h : RE w W te se) : RS w W (tRet te) (ssRet se) := fun π B Z g σ H D s q =>
  h π B Z g σ H _ s (postS_E q fun o d g1 v B1 H1 e s1 r q1 => q1 v B1 H1 σ (Ext.refl _) s1 r)
/-- a name is given back: an object of one's own goes with it -/
def seMove (i : Nat) : SE := fun g => match g[i]? with
  | some (some (.o, d)) => .ok (true, d) (g.set i none)
  | some (some (c, d)) => .ok (false, d) (g.set i (some (c.fz, d)))
  | _ => .fail
theorem re_move {i : Nat} : RE w W (tVar i) (seMove i) := fun π B Z g σ H Q s h => by
  unfold seMove at h
  split at h
  · rename_i d e
    obtain ⟨a, h1, h2, h3, h4⟩ := s.ow i .o d e rfl
    have old : ∀ {j : Nat} {x : Fl × D}, (g.set i none)[j]? = some (some x) → j ≠ i ∧ g[j]? = some (some x) := fun {j x} q => by
      rcases get_set q with ⟨rfl, qe⟩ | z
      · cases qe
      · exact z
    refine ⟨.ref a, h1, h _ B H (Ext.refl B) ⟨s.sub, s.keep, s.dis, by rw [List.length_set]; exact s.len, fun j c x q z => s.fz j c x (old q).2 z, fun j c x q z => s.ow j c x (old q).2 z, fun j k c1 c2 d1 d2 b q1 q2 => s.dj j k c1 c2 d1 d2 b (old q1).2 (old q2).2, fun j c x q z => s.pin j c x (old q).2 z⟩ ⟨a, rfl, h2, h3, h4, fun j c x q z t => ?_⟩⟩
    exact (old q).1 (s.dj j i c .o x d a (old q).2 e z rfl t h1)
  · rename_i c d _ e
    obtain ⟨B1, v, e1, s1, hv, hd⟩ := s.freeze e
    exact ⟨v, hv, h v B1 H e1 s1 hd⟩
  · exact h.elim
def ssRetN : SS := fun g => .rt false .non g
theorem rs_retN : RS w W tRetN ssRetN := fun π B Z g σ H D s q => q .non B H σ (Ext.refl _) s Den.non
def ssIf (c : ST) (a b : SS) : SS := fun g => ofO (c g) fun x g1 => if x = true then a g1 else b g1
theorem rs_if {tc : TT} {t u : TS} {c : ST} {a b : SS} (hc : RT w W tc c) (ha : RS w W t a) (hb : RS w W u b) : RS w W (tIfS tc t u) (ssIf c a b) := fun π B Z g σ H D s q =>
  hc π B Z g σ H _ s (postS_L q fun x g1 B1 H1 e s1 q1 => by
    cases x with
    | true => exact ha π B1 Z g1 σ H1 D s1 q1
    | false => exact hb π B1 Z g1 σ H1 D s1 q1)
/-! ### targets -/
abbrev SG := Bool × D → G → Option G
def PostG (w : WD) (π : Nat → V) (B Z : Hp) (Q : L2.St → Hp → Prop) : Option G → Prop
  | some g => ∀ B' H' σ', Ext B B' → Sat w π B' Z g σ' H' → Q σ' H'
  | none => False
def RG (w : WD) (tg : TG) (sg : SG) : Prop := ∀ π B Z g σ H v o d Q, Sat w π B Z g σ H → Res w B Z g σ H v o d → PostG w π B Z Q (sg (o, d) g) → tg v σ H Q
abbrev SGs := List D → G → Option G
def RGs (w : WD) (tg : TGs) (sg : SGs) : Prop := ∀ π B Z g σ H vs ds Q, Sat w π B Z g σ H → Dens w B vs ds → PostG w π B Z Q (sg ds g) → tg vs σ H Q
def sgName (i : Nat) : SG := fun r g => setS g i r
theorem rg_name {i : Nat} : RG w (gName i) (sgName i) := fun π B Z g σ H v o d Q s r q => by
  unfold sgName at q
  cases e : setS g i (o, d) with
  | none => rw [e] at q; exact q.elim
  | some g' =>
    rw [e] at q
    exact q B H _ (Ext.refl _) (s.set r e)
def sgNil : SGs := fun ds g => match ds with
  | [] => some g
  | _ => none
def sgCons (a : SG) (b : SGs) : SGs := fun ds g => match ds with
  | [] => none
  | d :: r => match a (false, d) g with
    | some g1 => b r g1
    | none => none
theorem rg_nil : RGs w gNil sgNil := fun π B Z g σ H vs ds Q s r q => by
  cases r with
  | nil => exact ⟨rfl, q B H σ (Ext.refl _) s⟩
  | cons => exact q.elim
theorem PostG.mono {Q : L2.St → Hp → Prop} (e : Ext B B') : ∀ {x : Option G}, PostG w π B Z Q x → PostG w π B' Z Q x
  | some _, h => fun B2 H2 σ2 e2 => h B2 H2 σ2 (e.trans e2)
  | none, h => h
theorem rg_cons {a : TG} {b : TGs} {sa : SG} {sb : SGs} (h : RG w a sa) (k : RGs w b sb) : RGs w (gCons a b) (sgCons sa sb) := fun π B Z g σ H vs ds Q s r q => by
  cases r with
  | nil => exact q.elim
  | cons r t =>
    unfold sgCons at q
    refine ⟨_, _, rfl, h π B Z g σ H _ false _ _ s r ?_⟩
    simp only at q
    split at q
    · rename_i g1 e
      rw [e]
      exact fun B1 H1 σ1 e1 s1 => k π B1 Z g1 σ1 H1 _ _ Q s1 (t.mono e1) (q.mono e1)
    · exact q.elim
/-- a tuple or a list, unpacked -/
def gSeq (K : PySem.W.Frag) (n : Nat) (t : TGs) : TG := fun v σ H Q => ∃ a xs, v = .ref a ∧ (SqT K H a xs ∨ SqL K H a xs) ∧ xs.length = n ∧ t xs σ H Q
theorem pg_seq {X : Cx} {es : List Expr} {k : Nat} {pos : Pos} {t : TGs} {n : Nat} (hc : X.calm = true) (h : PGs X es t) (hn : (assignEach es X.env).length = n) (hst : (assignEach es X.env).findIdx? (·.1) = none) : PG X (.Tuple es k pos) (gSeq X.K n t) := by
  refine ⟨fun pins s σ H v u Q I r hw => ?_⟩
  obtain ⟨a, xs, e1, hq, hl, hw⟩ := hw
  rcases hq with hq | hq
  · exact (pg_tup hc h hn hst).run pins s σ H v u Q I r ⟨a, xs, e1, hq, hl, hw⟩
  · exact (pg_lst hc h hn hst).run pins s σ H v u Q I r ⟨a, xs, e1, hq, hl, hw⟩
def sgTup (n : Nat) (a : SGs) : SG := fun r g => match r.2 with
  | .tup ds => if ds.length = n then a ds g else none
  | .lst ds => if ds.length = n then a ds g else none
  | _ => none
theorem rg_tup {n : Nat} {t : TGs} {a : SGs} (h : RGs w t a) : RG w (gSeq w.K n t) (sgTup n a) := fun π B Z g σ H v o d Q s r q => by
  obtain ⟨B1, e1, s1, hd⟩ := r.freeze s
  cases d with
  | tup ds =>
    unfold sgTup at q
    simp only at q
    split at q
    · rename_i hl
      cases hd with
      | tup sq dn => exact ⟨_, _, rfl, .inl (s1.sub.sqT sq), dn.len.trans hl, h π B1 Z g σ H _ ds Q s1 dn (q.mono e1)⟩
    · exact q.elim
  | lst ds =>
    unfold sgTup at q
    simp only at q
    split at q
    · rename_i hl
      cases hd with
      | lst sq dn => exact ⟨_, _, rfl, .inr (.inl (s1.sub.rd (.inl sq))), dn.len.trans hl, h π B1 Z g σ H _ ds Q s1 dn (q.mono e1)⟩
    · exact q.elim
  | _ => exact q.elim
/-- target = e -/
def ssAsg (se : SE) (sg : SG) : SS := fun g => ofO (se g) fun r g1 => match sg r g1 with
  | some g2 => .nx g2
  | none => .fail
theorem rs_asg {te : TE} {tg : TG} {se : SE} {sg : SG} (h : RE w W te se) (k : RG w tg sg) : RS w W (tAsg te tg) (ssAsg se sg) := fun π B Z g σ H D s q =>
  h π B Z g σ H _ s (postS_E q fun o d g1 v B1 H1 e s1 r q1 => k π B1 Z g1 σ H1 v o d _ s1 r (by
    split at q1
    · rename_i g2 e2
      rw [e2]
      exact fun B2 H2 σ2 e2 s2 => q1 B2 H2 σ2 e2 s2
    · exact q1.elim))
/-- a new object that waits while other parts are evaluated -/
theorem Res.guard {v : V} {o : Bool} {d : D} (s : Sat w π B Z g σ H) (r : Res w B Z g σ H v o d) : ∃ Z', Ext Z Z' ∧ Sat w π B Z' g σ H ∧ ∀ B2 g2 σ2 H2, Ext B B2 → Sat w π B2 Z' g2 σ2 H2 →
    Sat w π B2 Z g2 σ2 H2 ∧ Res w B2 Z g2 σ2 H2 v o d ∧ (o = true → ∃ a : Addr, v = .ref a ∧ ∀ b, Z' b = none → b ≠ a) := by
  cases o with
  | false => exact ⟨Z, Ext.refl Z, s, fun B2 g2 σ2 H2 e s2 => ⟨s2, Den.mono e r, fun z => nomatch z⟩⟩
  | true =>
    obtain ⟨a, rfl, h1, h2, h3, h4⟩ := r
    obtain ⟨u, hu⟩ := h3.there
    refine ⟨upd Z a u, Ext.new h2, ⟨s.sub, fun b o q => ?_, fun b o q => ?_, s.len, s.fz, fun i c x q z => ?_, s.dj, s.pin⟩, fun B2 g2 σ2 H2 e s2 => ?_⟩
    · by_cases hb : b = a
      · subst hb
        rw [upd_same] at q
        rw [← q]
        exact hu
      · rw [upd_ne hb] at q
        exact s.keep b o q
    · by_cases hb : b = a
      · subst hb
        exact h1
      · rw [upd_ne hb] at q
        exact s.dis b o q
    · obtain ⟨b, q1, q2, q3, q4⟩ := s.ow i c x q z
      exact ⟨b, q1, q2, by rw [upd_ne fun y => h4 i c x q z (by rw [← y]; exact q1)]; exact q3, q4⟩
    · have za : ∀ b, upd Z a u b = none → Z b = none ∧ b ≠ a := fun b q => by
        by_cases hb : b = a
        · subst hb
          rw [upd_same] at q
          cases q
        · rw [upd_ne hb] at q
          exact ⟨q, hb⟩
      refine ⟨⟨s2.sub, fun b o q => s2.keep b o (Ext.new h2 b o q), fun b o q => s2.dis b o (Ext.new h2 b o q), s2.len, s2.fz, fun i c x q z => ?_, s2.dj, s2.pin⟩, ⟨a, rfl, s2.dis a u upd_same, h2, (h3.mono e).at ((s2.keep a u upd_same).trans hu.symm), fun i c x q z t => ?_⟩, fun _ => ⟨a, rfl, fun b q => (za b q).2⟩⟩
      · obtain ⟨b, q1, q2, q3, q4⟩ := s2.ow i c x q z
        exact ⟨b, q1, q2, (za b q3).1, q4⟩
      · obtain ⟨b, q1, q2, q3, q4⟩ := s2.ow i c x q z
        rw [t] at q1
        cases q1
        exact (za a q3).2 rfl
/-- a, b = x, y -/
def ssPar (i j : Nat) (sa sb : SE) : SS := fun g => ofO (sa g) fun r g1 => ofO (sb g1) fun u g2 => match setS g2 i r with
  | some g3 => match setS g3 j u with
    | some g4 => .nx g4
    | none => .fail
  | none => .fail
theorem rs_par {i j : Nat} {ta tb : TE} {sa sb : SE} (ha : RE w W ta sa) (hb : RE w W tb sb) : RS w W (tPar i j (tCons ta (tCons tb tNil))) (ssPar i j sa sb) := fun π B Z g σ H D s q =>
  ha π B Z g σ H _ s (postS_E q fun o d g1 v B1 H1 e1 s1 r1 q1 => by
    obtain ⟨Z', ez, s1', back⟩ := r1.guard s1
    have q1' : PostS w W π B1 Z D (ofO (sb g1) fun u g2 => match setS g2 i (o, d) with
      | some g3 => match setS g3 j u with
        | some g4 => .nx g4
        | none => .fail
      | none => .fail) := q1
    refine hb π B1 Z' g1 σ H1 _ s1' ?_
    cases e : sb g1 with
    | fail => rw [e] at q1'; exact q1'
    | ex x f g2 =>
      rw [e] at q1'
      exact fun hx dd B2 H2 σ2 e2 s2 => q1' hx dd B2 H2 σ2 e2 (back B2 g2 σ2 H2 e2 s2).1
    | ok u g2 =>
      obtain ⟨o', d'⟩ := u
      rw [e] at q1'
      have q2 : PostS w W π B1 Z D (match setS g2 i (o, d) with
      | some g3 => match setS g3 j (o', d') with
        | some g4 => .nx g4
        | none => .fail
      | none => .fail) := q1'
      intro v' B2 H2 e2 s2 r2
      obtain ⟨t2, rv, hv⟩ := back B2 g2 σ H2 e2 s2
      refine ⟨v, v', rfl, ?_⟩
      split at q2
      · rename_i g3 h3
        split at q2
        · rename_i g4 h4
          have s3 := t2.set rv h3
          refine q2 B2 H2 _ e2 (s3.set ?_ h4)
          cases o' with
          | false => exact r2
          | true =>
            obtain ⟨b, rfl, k1, k2, k3, k4⟩ := r2
            have hZ : Z b = none := ez.none k2
            refine ⟨b, rfl, k1, hZ, k3, fun k c x z y t => ?_⟩
            have z' : g3[k]? = some (some (c, x)) := z
            rcases getσ_set t with ⟨rfl, te⟩ | ⟨nk, t⟩
            · cases te
              cases o with
              | true =>
                obtain ⟨a, ha', hna⟩ := hv rfl
                cases ha'
                exact hna b k2 rfl
              | false =>
                unfold setS at h3
                split at h3
                · split at h3
                  · cases h3
                  · cases h3
                    rcases get_set z' with ⟨_, ze⟩ | ⟨n, _⟩
                    · cases ze
                      cases y
                    · exact n rfl
                · cases h3
                  rcases get_set z' with ⟨_, ze⟩ | ⟨n, _⟩
                  · cases ze
                    cases y
                  · exact n rfl
                · cases h3
            · have zz : g2[k]? = some (some (c, x)) := by
                unfold setS at h3
                split at h3
                · split at h3
                  · cases h3
                  · cases h3
                    rcases get_set z' with ⟨n, _⟩ | ⟨_, z⟩
                    · exact absurd n nk
                    · exact z
                · cases h3
                  rcases get_set z' with ⟨n, _⟩ | ⟨_, z⟩
                  · exact absurd n nk
                  · exact z
                · cases h3
              exact k4 k c x zz y t
        · exact q2.elim
      · exact q2.elim)
end
end M7
namespace M7
open PySem PySem.Spec PyProof.Rows L2
/-- J yields the data ds, one after another -/
structure Walks (w : WD) (B : Hp) (J : It) (ds : List D) : Prop where
  stop : ∀ B1 H, Ext B B1 → Sub B1 H → J.stop ds.length H
  go : ∀ B1 H i d, Ext B B1 → Sub B1 H → ds[i]? = some d → J.go i H
  yld : ∀ B1 H i d x H', Ext B B1 → Sub B1 H → ds[i]? = some d → J.yld i H x H' → Ext H H' ∧ ∃ B2, Ext B1 B2 ∧ Sub B2 H' ∧ (∀ a o, H a = some o → B1 a = none → B2 a = none) ∧ Den w B2 x d
theorem Walks.mono {w : WD} {B B' : Hp} {J : It} {ds : List D} (h : Walks w B J ds) (e : Ext B B') : Walks w B' J ds :=
  ⟨fun B1 H e1 => h.stop B1 H (e.trans e1), fun B1 H i d e1 => h.go B1 H i d (e.trans e1), fun B1 H i d x H' e1 => h.yld B1 H i d x H' (e.trans e1)⟩
abbrev SI := G → O (List D)
section
variable (w : WD) (W : WX) (π : Nat → V) (B Z : Hp)
def PostI (σ : L2.St) (R : It → Hp → Prop) : O (List D) → Prop
  | .ok ds g => ∀ J B' H', Ext B B' → Sat w π B' Z g σ H' → Walks w B' J ds → R J H'
  | .ex x f g => PostX w W π B Z x f g
  | .fail => False
end
def RI (w : WD) (W : WX) (wi : TI) (si : SI) : Prop := ∀ π B Z g σ H R, Sat w π B Z g σ H → PostI w W π B Z σ R (si g) → wi σ H R
section
variable {w : WD} {W : WX} {π : Nat → V} {B B' B1 Z : Hp} {g : G} {σ : L2.St} {H H' : Hp}
/-- behind an item that was yielded -/
theorem Sat.yielded {B2 : Hp} (s : Sat w π B Z g σ H) (e : Ext B B2) (k : Ext H H') (h : Sub B2 H') (n : ∀ a o, H a = some o → B a = none → B2 a = none) : Sat w π B2 Z g σ H' :=
  (s.grow k).more e h (fun a o q => n a o (s.keep a o q) (s.dis a o q)) fun i c d a q z t => by
    obtain ⟨b, q1, q2, q3, q4⟩ := s.ow i c d q z
    rw [t] at q1
    cases q1
    obtain ⟨u, hu⟩ := q4.there
    exact n a u hu q2
/-! ### for -/
def loopL (sg : SG) (body : SS) : List D → G → F
  | [], g => .nx g
  | d :: ds, g => match sg (false, d) g with
    | none => .fail
    | some g1 => match body g1 with
      | .nx g2 => loopL sg body ds g2
      | .ct g2 => loopL sg body ds g2
      | .bk g2 => .nx g2
      | .rt o d g2 => .rt o d g2
      | .ex x f g2 => .ex x f g2
      | .fail => .fail
def ssFor (si : SI) (sg : SG) (body : SS) : SS := fun g => ofO (si g) fun ds g1 => loopL sg body ds g1
theorem rs_for {wi : TI} {tg : TG} {tb : TS} {si : SI} {sg : SG} {body : SS} (hi : RI w W wi si) (hg : RG w tg sg) (hb : RS w W tb body) : RS w W (tFor wi tg tb) (ssFor si sg body) := fun π B Z g σ H D s q => by
  refine hi π B Z g σ H _ s ?_
  unfold ssFor at q
  cases e : si g with
  | fail => rw [e] at q; exact q
  | ex x f g1 => rw [e] at q; exact q
  | ok ds g1 =>
    rw [e] at q
    have q : PostS w W π B Z D (loopL sg body ds g1) := q
    intro J B1 H1 e1 s1 wk
    refine ⟨fun i m σ H => m = ds.length - i ∧ i ≤ ds.length ∧ ∃ B' g', Ext B1 B' ∧ Sat w π B' Z g' σ H ∧ PostS w W π B' Z D (loopL sg body (ds.drop i) g'), ⟨ds.length, by simp, Nat.zero_le _, B1, g1, Ext.refl _, s1, q.mono e1⟩, ?_⟩
    rintro i m σ2 H2 ⟨rfl, hi, B2, g2, e2, s2, q2⟩
    by_cases hl : i < ds.length
    · have hd : ds[i]? = some ds[i] := List.getElem?_eq_getElem hl
      have hdr : ds.drop i = ds[i] :: ds.drop (i + 1) := List.drop_eq_getElem_cons hl
      refine .inr ⟨wk.go B2 H2 i _ e2 s2.sub hd, fun σ H => ∃ B' g', Ext B1 B' ∧ Sat w π B' Z g' σ H ∧ PostS w W π B' Z D (loopL sg body (ds.drop (i + 1)) g'), fun σ' H' p => ⟨ds.length - (i + 1), by omega, rfl, hl, p⟩, fun x H3 y => ?_⟩
      obtain ⟨k3, B3, e3, h3, n3, d3⟩ := wk.yld B2 H2 i _ x H3 e2 s2.sub hd y
      have s3 := s2.yielded e3 k3 h3 n3
      have q3 := q2.mono e3
      rw [hdr] at q3
      unfold loopL at q3
      refine hg π B3 Z g2 σ2 H3 x false _ _ s3 d3 ?_
      split at q3
      · exact q3.elim
      · rename_i g3 e4
        rw [e4]
        intro B4 H4 σ4 e5 s4
        refine hb π B4 Z g3 σ4 H4 _ s4 ?_
        have q4 := q3.mono e5
        have tot : Ext B1 B4 := e2.trans (e3.trans e5)
        split at q4
        · rename_i g5 e6
          rw [e6]
          exact fun B5 H5 σ5 e7 s5 => ⟨B5, g5, tot.trans e7, s5, q4.mono e7⟩
        · rename_i g5 e6
          rw [e6]
          exact fun B5 H5 σ5 e7 s5 => ⟨B5, g5, tot.trans e7, s5, q4.mono e7⟩
        · rename_i g5 e6
          rw [e6]
          exact fun B5 H5 σ5 e7 s5 => q4 B5 H5 σ5 e7 s5
        · rename_i e6
          rw [e6]
          exact q4
        · rename_i e6
          rw [e6]
          exact q4
        · exact q4.elim
    · have : i = ds.length := by omega
      subst this
      refine .inl ⟨wk.stop B2 H2 e2 s2.sub, ?_⟩
      rw [List.drop_length] at q2
      exact q2 B2 H2 σ2 (Ext.refl _) s2
/-! ### while -/
def loopW (c : ST) (body : SS) : Nat → G → F
  | 0, _ => .fail
  | n + 1, g => match c g with
    | .ok true g1 => match body g1 with
      | .nx g2 => loopW c body n g2
      | .ct g2 => loopW c body n g2
      | .bk g2 => .nx g2
      | .rt o d g2 => .rt o d g2
      | .ex x f g2 => .ex x f g2
      | .fail => .fail
    | .ok false g1 => .nx g1
    | .ex x f g1 => .ex x f g1
    | .fail => .fail
theorem rs_while {tc : TT} {tb : TS} {c : ST} {body : SS} (n : Nat) (hc : RT w W tc c) (hb : RS w W tb body) : RS w W (tWhile tc tb) (loopW c body n) := fun π B Z g σ H D s q => by
  refine ⟨fun m σ H => ∃ B' g', Ext B B' ∧ Sat w π B' Z g' σ H ∧ PostS w W π B' Z D (loopW c body m g'), ⟨n, B, g, Ext.refl _, s, q⟩, ?_⟩
  rintro m σ2 H2 ⟨B2, g2, e2, s2, q2⟩
  cases m with
  | zero => exact q2.elim
  | succ m =>
    unfold loopW at q2
    refine hc π B2 Z g2 σ2 H2 _ s2 ?_
    split at q2
    · rename_i g3 e3
      rw [e3]
      intro B3 H3 e4 s3
      refine ⟨fun σ H => ∃ B' g', Ext B B' ∧ Sat w π B' Z g' σ H ∧ PostS w W π B' Z D (loopW c body m g'), fun σ' H' p => ⟨m, Nat.lt_succ_self m, p⟩, ?_⟩
      refine hb π B3 Z g3 σ2 H3 _ s3 ?_
      have q4 := q2.mono e4
      have tot : Ext B B3 := e2.trans e4
      split at q4
      · rename_i g5 e6
        rw [e6]
        exact fun B5 H5 σ5 e7 s5 => ⟨B5, g5, tot.trans e7, s5, q4.mono e7⟩
      · rename_i g5 e6
        rw [e6]
        exact fun B5 H5 σ5 e7 s5 => ⟨B5, g5, tot.trans e7, s5, q4.mono e7⟩
      · rename_i g5 e6
        rw [e6]
        exact fun B5 H5 σ5 e7 s5 => q4 B5 H5 σ5 e7 s5
      · rename_i e6
        rw [e6]
        exact q4
      · rename_i e6
        rw [e6]
        exact q4
      · exact q4.elim
    · rename_i g3 e3
      rw [e3]
      intro B3 H3 e4 s3
      exact q2 B3 H3 σ2 e4 s3
    · rename_i e3
      rw [e3]
      exact q2
    · exact q2.elim
/-! ### comprehensions -/
def wipeG (g : G) : List Nat → G
  | [] => g
  | v :: vs => (wipeG g vs).set v none
/-- the slots vs as they were in g0 -/
def backG (g0 g : G) : List Nat → G
  | [] => g
  | v :: vs => (backG g0 g vs).set v (g0[v]?.join)
/-- none of these slots holds an object of one's own, or a lent one -/
def calmG (g : G) (vs : List Nat) : Bool := vs.all fun v => match g[v]? with
  | some (some (.f, _)) => true
  | some none => true
  | _ => false
theorem wipeG_len (g : G) : ∀ vs, (wipeG g vs).length = g.length
  | [] => rfl
  | v :: vs => by unfold wipeG; rw [List.length_set, wipeG_len g vs]
theorem wipeG_some {g : G} {i : Nat} {x : Fl × D} : ∀ {vs : List Nat}, (wipeG g vs)[i]? = some (some x) → g[i]? = some (some x) ∧ i ∉ vs
  | [], h => ⟨h, by simp⟩
  | v :: vs, h => by
    unfold wipeG at h
    rcases get_set h with ⟨_, z⟩ | ⟨n, h⟩
    · cases z
    · obtain ⟨h1, h2⟩ := wipeG_some h
      exact ⟨h1, fun m => (List.mem_cons.mp m).elim n h2⟩
theorem wipe_get {σ : L2.St} {i : Nat} : ∀ {vs : List Nat}, i ∉ vs → (wipe σ vs)[i]? = σ[i]?
  | [], _ => rfl
  | v :: vs, h => by
    unfold wipe
    rw [List.getElem?_set_ne (fun z => h (by simp [z])), wipe_get fun m => h (List.mem_cons_of_mem _ m)]
theorem Sat.wiped (s : Sat w π B Z g σ H) (vs : List Nat) : Sat w π B Z (wipeG g vs) (wipe σ vs) H :=
  ⟨s.sub, s.keep, s.dis, by rw [wipeG_len, wipe_length]; exact s.len, fun i c d q z => by
    obtain ⟨q1, q2⟩ := wipeG_some q
    rw [wipe_get q2]
    exact s.fz i c d q1 z, fun i c d q z => by
    obtain ⟨q1, q2⟩ := wipeG_some q
    rw [wipe_get q2]
    exact s.ow i c d q1 z, fun i j c c' d e a q1 q2 z1 z2 t1 t2 => by
    obtain ⟨q1, n1⟩ := wipeG_some q1
    obtain ⟨q2, n2⟩ := wipeG_some q2
    rw [wipe_get n1] at t1
    rw [wipe_get n2] at t2
    exact s.dj i j c c' d e a q1 q2 z1 z2 t1 t2, fun i c d q z => by
    obtain ⟨q1, q2⟩ := wipeG_some q
    rw [wipe_get q2]
    exact s.pin i c d q1 z⟩
theorem backG_len (g0 g : G) : ∀ vs, (backG g0 g vs).length = g.length
  | [] => rfl
  | v :: vs => by unfold backG; rw [List.length_set, backG_len g0 g vs]
theorem backG_some {g0 g : G} {i : Nat} {x : Fl × D} : ∀ {vs : List Nat}, (backG g0 g vs)[i]? = some (some x) → (i ∈ vs ∧ g0[i]? = some (some x)) ∨ (i ∉ vs ∧ g[i]? = some (some x))
  | [], h => .inr ⟨by simp, h⟩
  | v :: vs, h => by
    unfold backG at h
    rcases get_set h with ⟨rfl, z⟩ | ⟨n, h⟩
    · refine .inl ⟨by simp, ?_⟩
      cases e : g0[i]? with
      | none => rw [e] at z; cases z
      | some y =>
        rw [e] at z
        cases z
        rfl
    · rcases backG_some h with ⟨m, q⟩ | ⟨m, q⟩
      · exact .inl ⟨List.mem_cons_of_mem _ m, q⟩
      · exact .inr ⟨fun z => (List.mem_cons.mp z).elim n m, q⟩
theorem calm_f {g : G} {vs : List Nat} (h : calmG g vs = true) {i : Nat} {c : Fl} {d : D} (m : i ∈ vs) (e : g[i]? = some (some (c, d))) : c = .f := by
  have q := List.all_eq_true.mp h i m
  rw [e] at q
  cases c <;> first | rfl | cases q
theorem Sat.back {g0 : G} {vs : List Nat} {σ2 : L2.St} {B0 H0 Z0 : Hp} (s0 : Sat w π B0 Z0 g0 σ H0) (hc : calmG g0 vs = true) (e : Ext B0 B) (hw : wipe σ2 vs = L2.wipe σ vs) (s : Sat w π B Z g σ2 H) : Sat w π B Z (backG g0 g vs) σ H := by
  have st : ∀ {i : Nat}, i ∉ vs → σ2[i]? = σ[i]? := fun {i} n => by rw [← wipe_get n, hw, wipe_get n]
  refine ⟨s.sub, s.keep, s.dis, ?_, fun i c d q z => ?_, fun i c d q z => ?_, fun i j c c' d e a q1 q2 z1 z2 t1 t2 => ?_, fun i c d q z => ?_⟩
  · rw [backG_len, s.len, ← wipe_length σ2 vs, hw, wipe_length]
  · rcases backG_some q with ⟨m, q⟩ | ⟨m, q⟩
    · obtain ⟨v, h1, h2⟩ := s0.fz i c d q z
      exact ⟨v, h1, h2.mono e⟩
    · rw [← st m]
      exact s.fz i c d q z
  · rcases backG_some q with ⟨m, q⟩ | ⟨m, q⟩
    · rw [calm_f hc m q] at z
      cases z
    · rw [← st m]
      exact s.ow i c d q z
  · rcases backG_some q1 with ⟨m, q⟩ | ⟨m1, q1⟩
    · rw [calm_f hc m q] at z1
      cases z1
    rcases backG_some q2 with ⟨m, q⟩ | ⟨m2, q2⟩
    · rw [calm_f hc m q] at z2
      cases z2
    rw [← st m1] at t1
    rw [← st m2] at t2
    exact s.dj i j c c' d e a q1 q2 z1 z2 t1 t2
  · rcases backG_some q with ⟨m, q⟩ | ⟨m, q⟩
    · rw [calm_f hc m q] at z
      cases z
    · rw [← st m]
      exact s.pin i c d q z
def WT : WX := fun _ _ _ _ => True
theorem wipe_set {σ : L2.St} {v : Nat} {vs : List Nat} : (wipe σ vs).set v none = wipe σ (v :: vs) := rfl
theorem wipe_wipe (σ : L2.St) (vs : List Nat) : wipe (wipe σ vs) vs = wipe σ vs := by
  have : ∀ us : List Nat, (∀ v ∈ us, v ∈ vs) → wipe (wipe σ vs) us = wipe σ vs := by
    intro us
    induction us with
    | nil => intro _; rfl
    | cons v us ih =>
      intro h
      rw [← wipe_set, ih fun u m => h u (List.mem_cons_of_mem _ m)]
      have gone : ∀ (ws : List Nat), v ∈ ws → ∀ x, (wipe σ ws)[v]? = some x → x = none := by
        intro ws m x e
        cases x with
        | none => rfl
        | some y => exact absurd m (wipe_some e).2
      apply List.ext_getElem?
      intro j
      rw [List.getElem?_set]
      split
      · rename_i e
        subst e
        split
        · rename_i hl
          rw [List.getElem?_eq_getElem hl]
          have := gone vs (h v (by simp)) _ (List.getElem?_eq_getElem hl)
          rw [this]
        · rename_i hl
          exact (List.getElem?_eq_none_iff.mpr (by omega)).symm
      · rfl
  exact this vs fun _ m => m
/-- the data that are made, the slots behind -/
def compL (sg : SG) (st : ST) (se : SE) (vs : List Nat) : List D → G → List D → O (List D)
  | [], g, acc => .ok acc g
  | d :: ds, g, acc => match sg (false, d) (wipeG g vs) with
    | none => .fail
    | some g1 => (st g1).bind fun b g2 => if b = true then (se g2).bind fun r g3 => compL sg st se vs ds g3 (acc ++ [r.2]) else compL sg st se vs ds g2 acc
def seLc (si : SI) (sg : SG) (st : ST) (se : SE) (vs : List Nat) : SE := fun g => (si g).bind fun ds g1 => if calmG g1 vs = true ∧ ds.length < 1000000 then (compL sg st se vs ds g1 []).bind fun acc g2 => .ok (true, .lst acc) (backG g1 (wipeG g2 vs) vs) else .fail
/-- a target leaves all slots but its own -/
def Wipes (tg : TG) (vs : List Nat) : Prop := ∀ (v : _) (σ σ0 : L2.St) (H : Hp) (Q : L2.St → Hp → Prop), wipe σ vs = wipe σ0 vs → (tg v σ H fun σ' H' => wipe σ' vs = wipe σ0 vs → Q σ' H') → tg v σ H fun σ' H' => (wipe σ' vs = wipe σ0 vs) ∧ Q σ' H'
theorem Tail.cE {α : Type} {P : Hp → O α → Prop} {Z' : Hp} (T : Tail w W π Z P) {x : O (Bool × D)} {k : Bool × D → G → O α} {Q1 : VK} (h : P B (x.bind k))
    (K : ∀ o d g1 v B1 H1, Ext B B1 → Sat w π B1 Z' g1 σ H1 → Res w B1 Z' g1 σ H1 v o d → P B1 (k (o, d) g1) → Q1 v H1) : PostE w WT π B Z' σ Q1 x := by
  cases x with
  | ok a g1 => exact fun v B1 H1 e s r => K a.1 a.2 g1 v B1 H1 e s r (T.mono e h)
  | ex x f g => exact fun _ _ _ _ _ _ _ _ => trivial
  | fail => exact T.no h
theorem Tail.cL {α β : Type} {P : Hp → O α → Prop} {Z' : Hp} (T : Tail w W π Z P) {x : O β} {k : β → G → O α} {Q1 : β → Hp → Prop} (h : P B (x.bind k))
    (K : ∀ r g1 B1 H1, Ext B B1 → Sat w π B1 Z' g1 σ H1 → P B1 (k r g1) → Q1 r H1) : PostL w WT π B Z' σ Q1 x := by
  cases x with
  | ok a g1 => exact fun B1 H1 e s => K a g1 B1 H1 e s (T.mono e h)
  | ex x f g => exact fun _ _ _ _ _ _ _ _ => trivial
  | fail => exact T.no h
theorem Tail.cI {α : Type} {P : Hp → O α → Prop} (T : Tail w W π Z P) {x : O (List D)} {k : List D → G → O α} {R : It → Hp → Prop} (h : P B (x.bind k))
    (K : ∀ ds g1 J B1 H1, Ext B B1 → Sat w π B1 Z g1 σ H1 → Walks w B1 J ds → P B1 (k ds g1) → R J H1) : PostI w W π B Z σ R x := by
  cases x with
  | ok a g1 => exact fun J B1 H1 e s r => K a g1 J B1 H1 e s r (T.mono e h)
  | ex x f g => exact T.ex h
  | fail => exact T.no h
/-- what is kept at D changes -/
theorem Sat.acc {D : Addr} {o u : HO} (s : Sat w π B (upd Z D o) g σ H) : Sat w π B (upd Z D u) g σ (upd H D u) := by
  have hB : B D = none := s.dis D o upd_same
  refine ⟨fun b x q => ?_, fun b x q => ?_, fun b x q => ?_, s.len, s.fz, fun i c d q z => ?_, s.dj, s.pin⟩
  · rw [upd_ne (ne_of_none q hB)]
    exact s.sub b x q
  · by_cases hb : b = D
    · subst hb
      rw [upd_same] at q ⊢
      exact q
    · rw [upd_ne hb] at q ⊢
      exact s.keep b x (by rw [upd_ne hb]; exact q)
  · by_cases hb : b = D
    · subst hb
      exact hB
    · rw [upd_ne hb] at q
      exact s.dis b x (by rw [upd_ne hb]; exact q)
  · obtain ⟨a, q1, q2, q3, q4⟩ := s.ow i c d q z
    have na : a ≠ D := fun y => by rw [y, upd_same] at q3; cases q3
    rw [upd_ne na] at q3
    exact ⟨a, q1, q2, by rw [upd_ne na]; exact q3, q4.at (upd_ne na)⟩
/-- a new object is kept aside -/
theorem Sat.aside {D : Addr} {o : HO} (s : Sat w π B Z g σ H) (h : H D = none) : Sat w π B (upd Z D o) g σ (upd H D o) := by
  have hB : B D = none := s.sub.none h
  have hZ : Z D = none := s.keep.none h
  have k : Ext H (upd H D o) := Ext.new h
  have s' := s.grow k
  refine ⟨s'.sub, fun b x q => ?_, fun b x q => ?_, s'.len, s'.fz, fun i c d q z => ?_, s'.dj, s'.pin⟩
  · by_cases hb : b = D
    · subst hb
      rw [upd_same] at q ⊢
      exact q
    · rw [upd_ne hb] at q
      exact s'.keep b x q
  · by_cases hb : b = D
    · subst hb
      exact hB
    · rw [upd_ne hb] at q
      exact s'.dis b x q
  · obtain ⟨a, q1, q2, q3, q4⟩ := s.ow i c d q z
    obtain ⟨u, hu⟩ := q4.there
    have na : a ≠ D := ne_of_none hu h
    exact ⟨a, q1, q2, by rw [upd_ne na]; exact q3, q4.at (upd_ne na)⟩
theorem Sat.unside {a0 : Addr} {o : HO} (s : Sat w π B (upd Z a0 o) g σ H) (hZ : Z a0 = none) : Sat w π B Z g σ H ∧ ∀ (i : Nat) (c : Fl) (d : D), g[i]? = some (some (c, d)) → c.own = true → σ[i]? ≠ some (some (V.ref a0)) := by
  have zn : ∀ b, upd Z a0 o b = none → Z b = none ∧ b ≠ a0 := fun b q => by
    by_cases hb : b = a0
    · subst hb
      rw [upd_same] at q
      cases q
    · rw [upd_ne hb] at q
      exact ⟨q, hb⟩
  refine ⟨⟨s.sub, fun b x q => s.keep b x (Ext.new hZ b x q), fun b x q => s.dis b x (Ext.new hZ b x q), s.len, s.fz, fun i c d q z => ?_, s.dj, s.pin⟩, fun i c d q z t => ?_⟩
  · obtain ⟨a, q1, q2, q3, q4⟩ := s.ow i c d q z
    exact ⟨a, q1, q2, (zn a q3).1, q4⟩
  · obtain ⟨a, q1, q2, q3, q4⟩ := s.ow i c d q z
    rw [t] at q1
    cases q1
    exact (zn a0 q3).2 rfl
theorem million : 1000000 < sizeLine := by decide
theorem re_lc {wi : TI} {tg : TG} {tt : TT} {te : TE} {vs : List Nat} {si : SI} {sg : SG} {st : ST} {se : SE} (hi : RI w W wi si) (hg : RG w tg sg) (hw : Wipes tg vs) (ht : RT w WT tt st) (he : RE w WT te se) :
    RE w W (tLc wi tg tt te vs) (seLc si sg st se vs) := fun π B Z g σ H Q s q =>
  hi π B Z g σ H _ s (tailE.cI q fun ds g1 J B1 H1 e1 s1 wk q1 => by
    intro D hD
    split at q1
    · rename_i hc
      obtain ⟨hc, hn⟩ := hc
      have hZ : Z D = none := s1.keep.none hD
      refine ⟨fun i m H => m = ds.length - i ∧ i ≤ ds.length ∧ ∃ B' g' xs acc, Ext B1 B' ∧ Sat w π B' (upd Z D (.lst xs)) (wipeG g' vs) (wipe σ vs) H ∧ Dens w B' xs acc ∧ xs.length ≤ i ∧
        PostE w W π B' Z σ Q ((compL sg st se vs (ds.drop i) g' acc).bind fun acc g2 => .ok (true, .lst acc) (backG g1 (wipeG g2 vs) vs)), ⟨ds.length, by simp, Nat.zero_le _, B1, g1, [], [], Ext.refl _, (s1.aside hD).wiped vs, .nil, Nat.le_refl _, q1⟩, ?_⟩
      rintro i m H2 ⟨rfl, hi, B2, g2, xs, acc, e2, s2, hx, hl, q2⟩
      by_cases hlt : i < ds.length
      · have hd : ds[i]? = some ds[i] := List.getElem?_eq_getElem hlt
        have hdr : ds.drop i = ds[i] :: ds.drop (i + 1) := List.drop_eq_getElem_cons hlt
        refine .inr ⟨wk.go B2 H2 i _ e2 s2.sub hd, fun H => ∃ B' g' xs acc, Ext B1 B' ∧ Sat w π B' (upd Z D (.lst xs)) (wipeG g' vs) (wipe σ vs) H ∧ Dens w B' xs acc ∧ xs.length ≤ i + 1 ∧
          PostE w W π B' Z σ Q ((compL sg st se vs (ds.drop (i + 1)) g' acc).bind fun acc g2 => .ok (true, .lst acc) (backG g1 (wipeG g2 vs) vs)), fun H' p => ⟨ds.length - (i + 1), by omega, rfl, hlt, p⟩, fun x H3 y => ?_⟩
        obtain ⟨k3, B3, e3, h3, n3, d3⟩ := wk.yld B2 H2 i _ x H3 e2 s2.sub hd y
        have s3 := s2.yielded e3 k3 h3 n3
        have q3 := q2.mono e3
        rw [hdr] at q3
        unfold compL at q3
        refine hw _ _ σ _ _ (wipe_wipe σ vs) (hg π B3 _ (wipeG g2 vs) (wipe σ vs) H3 x false _ _ s3 d3 ?_)
        split at q3
        · exact q3.elim
        · rename_i g4 e4
          rw [e4]
          intro B4 H4 σ4 e5 s4 hσ
          have q4 := q3.mono e5
          have bindA : ∀ {α β γ : Type} (x : O α) (k : α → G → O β) (l : β → G → O γ), (x.bind k).bind l = x.bind fun a g => (k a g).bind l := fun x k l => by cases x <;> rfl
          rw [bindA] at q4
          refine ht π B4 _ g4 σ4 H4 _ s4 (tailE.cL q4 fun b g5 B5 H5 e6 s5 q5 => ?_)
          have tot5 : Ext B2 B5 := e3.trans (e5.trans e6)
          cases b with
          | false =>
            refine ⟨B5, g5, xs, acc, e2.trans tot5, ?_, hx.mono tot5, Nat.le_succ_of_le hl, q5⟩
            have := s5.wiped vs
            rw [hσ] at this
            exact this
          | true =>
            have q5 : PostE w W π B5 Z σ Q (((se g5).bind fun r g3 => compL sg st se vs (ds.drop (i + 1)) g3 (acc ++ [r.2])).bind fun acc g2 => .ok (true, .lst acc) (backG g1 (wipeG g2 vs) vs)) := q5
            rw [bindA] at q5
            refine he π B5 _ g5 σ4 H5 _ s5 (tailE.cE q5 fun o d g6 v B6 H6 e7 s6 r6 q6 => ?_)
            obtain ⟨B7, e8, s7, hv⟩ := r6.freeze s6
            have tot7 : Ext B2 B7 := tot5.trans (e7.trans e8)
            refine ⟨xs, s6.keep D _ upd_same, Nat.lt_trans (by omega) million, B7, g6, xs ++ [v], acc ++ [d], e2.trans tot7, ?_, (hx.mono tot7).app (.cons hv .nil), by rw [List.length_append]; show xs.length + 1 ≤ i + 1; omega, q6.mono e8⟩
            have := (s7.acc (u := .lst (xs ++ [v]))).wiped vs
            rw [hσ] at this
            exact this
      · have : i = ds.length := by omega
        subst this
        refine .inl ⟨wk.stop B2 H2 e2 s2.sub, ?_⟩
        rw [List.drop_length] at q2
        have sb := (s1.aside (o := .lst []) hD).back hc e2 (wipe_wipe σ vs) s2
        obtain ⟨s8, hn8⟩ := sb.unside hZ
        exact q2 _ B2 H2 (Ext.refl _) s8 ⟨D, rfl, s2.dis D _ upd_same, hZ, .lst (s2.keep D _ upd_same) hx, hn8⟩
    · exact q1.elim)
theorem wipe_setv {σ : L2.St} {i : Nat} {x : Option V} {vs : List Nat} (h : i ∈ vs) : wipe (σ.set i x) vs = wipe σ vs := by
  have key : ∀ (vs : List Nat) (j : Nat), (j ∈ vs → (wipe (σ.set i x) vs)[j]? = (wipe σ vs)[j]?) ∧ (j ∉ vs → j ≠ i → (wipe (σ.set i x) vs)[j]? = (wipe σ vs)[j]?) := by
    intro vs
    induction vs with
    | nil => exact fun j => ⟨fun m => by simp at m, fun _ n => List.getElem?_set_ne (fun z => n z.symm)⟩
    | cons v vs ih =>
      intro j
      unfold wipe
      by_cases e : v = j
      · subst e
        have hl : (wipe (σ.set i x) vs).length = (wipe σ vs).length := by rw [wipe_length, wipe_length, List.length_set]
        have : (List.set (wipe (σ.set i x) vs) v none)[v]? = (List.set (wipe σ vs) v none)[v]? := by
          by_cases q : v < (wipe σ vs).length
          · rw [List.getElem?_set_self q, List.getElem?_set_self (by rw [hl]; exact q)]
          · rw [List.getElem?_eq_none_iff.mpr (by rw [List.length_set]; omega), List.getElem?_eq_none_iff.mpr (by rw [List.length_set]; omega)]
        exact ⟨fun _ => this, fun _ _ => this⟩
      · rw [List.getElem?_set_ne e, List.getElem?_set_ne e]
        exact ⟨fun m => (ih j).1 ((List.mem_cons.mp m).elim (fun z => absurd z.symm e) id), fun m => (ih j).2 fun z => m (List.mem_cons_of_mem _ z)⟩
  apply List.ext_getElem?
  intro j
  by_cases m : j ∈ vs
  · exact (key vs j).1 m
  · exact (key vs j).2 m fun z => m (by rw [z]; exact h)
theorem wipes_name {i : Nat} {vs : List Nat} (h : i ∈ vs) : Wipes (gName i) vs := fun v σ σ0 H Q e q => by
  have : wipe (σ.set i (some v)) vs = wipe σ0 vs := (wipe_setv h).trans e
  exact ⟨this, q this⟩
def WipesS (tg : TGs) (vs : List Nat) : Prop := ∀ (v : _) (σ σ0 : L2.St) (H : Hp) (Q : L2.St → Hp → Prop), wipe σ vs = wipe σ0 vs → (tg v σ H fun σ' H' => wipe σ' vs = wipe σ0 vs → Q σ' H') → tg v σ H fun σ' H' => (wipe σ' vs = wipe σ0 vs) ∧ Q σ' H'
theorem wipes_nil {vs : List Nat} : WipesS gNil vs := fun v σ σ0 H Q e q => ⟨q.1, e, q.2 e⟩
theorem wipes_cons {i : Nat} {b : TGs} {vs : List Nat} (h : i ∈ vs) (k : WipesS b vs) : WipesS (gCons (gName i) b) vs := fun v σ σ0 H Q e q => by
  obtain ⟨x, r, rfl, q⟩ := q
  exact ⟨x, r, rfl, k r _ σ0 H Q ((wipe_setv h).trans e) q⟩
theorem wipes_tup {K : PySem.W.Frag} {n : Nat} {b : TGs} {vs : List Nat} (k : WipesS b vs) : Wipes (gSeq K n b) vs := fun v σ σ0 H Q e q => by
  obtain ⟨a, xs, h1, h2, h3, q⟩ := q
  exact ⟨a, xs, h1, h2, h3, k xs σ σ0 H Q e q⟩
theorem rt_yes : RT w W tYes (fun g => .ok true g) := fun π B Z g σ H Q s q => q B H (Ext.refl _) s
end
end M7
namespace M7
open PySem PySem.Spec PyProof.Rows L2
/-- what comes of a call: what is given back, the arguments' data behind it (true: it may still change) -/
inductive FO where
  | ret (o : Bool) (d : D) (bk : List (Bool × D)) | ex (x : XN) (f : Option D) (bk : List (Bool × D)) | fail
abbrev Fn := List (Bool × D) → FO
def argG (as : List (Bool × D)) : G := as.map fun a => some (if a.1 = true then Fl.p else Fl.f, a.2)
def argP (vs : List V) : Nat → V := fun i => (vs[i]?).getD .non
/-- the wish behind a call -/
def PostC (w : WD) (vs : List V) (B Z : Hp) (Q : VK) (E : XK) : FO → Prop
  | .ret o d bk => ∀ v B' H', Ext B B' → Sat w (argP vs) B' Z (argG bk) (vs.map some) H' → Res w B' Z (argG bk) (vs.map some) H' v o d → Q v H'
  | .ex x f bk => w.has x → ∀ dd B' H', Ext B B' → Sat w (argP vs) B' Z (argG bk) (vs.map some) H' → XOk w B' H' f dd → E (.ref (w.exc x)) dd H'
  | .fail => False
/-- the promise of a def that makes φ of its arguments' data -/
def spD (w : WD) (φ : Fn) : Sp := fun vs H Q E => ∃ B Z as, Sat w (argP vs) B Z (argG as) (vs.map some) H ∧ PostC w vs B Z Q E (φ as)
def XHas (w : WD) : FO → Prop
  | .ex x _ _ => w.has x
  | _ => True
section
variable {w : WD} {W : WX} {π : Nat → V} {B B' B1 Z : Hp} {g : G} {σ : L2.St} {H H' : Hp}
/-- an argument as it is handed in: an own object of a slot is lent -/
def argOf (g : G) : Ref → Option (Bool × D)
  | .dt d => some (false, d)
  | .sl i => match g[i]? with
    | some (some (c, d)) => some (c.own, d)
    | _ => none
def argsOf (g : G) : List Ref → Option (List (Bool × D))
  | [] => some []
  | r :: rs => match argOf g r, argsOf g rs with
    | some a, some as => some (a :: as)
    | _, _ => none
def lentOf (g : G) : List Ref → List Nat
  | [] => []
  | .sl i :: rs => match g[i]? with
    | some (some (c, _)) => if c.own = true then i :: lentOf g rs else lentOf g rs
    | _ => lentOf g rs
  | .dt _ :: rs => lentOf g rs
def distinct : List Nat → Bool
  | [] => true
  | i :: is => !is.contains i && distinct is
def giveBack (g : G) : List Ref → List (Bool × D) → G
  | .sl i :: rs, b :: bs => match g[i]? with
    | some (some (c, _)) => if c.own = true then (giveBack g rs bs).set i (some (if b.1 = true then c else c.fz, b.2)) else giveBack g rs bs
    | _ => giveBack g rs bs
  | .dt _ :: rs, _ :: bs => giveBack g rs bs
  | _, _ => g
theorem giveBack_len : ∀ (rs : List Ref) (bs : List (Bool × D)), (giveBack g rs bs).length = g.length
  | .sl i :: rs, b :: bs => by
    unfold giveBack
    split
    · split
      · rw [List.length_set]; exact giveBack_len rs bs
      · exact giveBack_len rs bs
    · exact giveBack_len rs bs
  | .dt _ :: rs, _ :: bs => by unfold giveBack; exact giveBack_len rs bs
  | [], _ => by unfold giveBack; rfl
  | .sl _ :: _, [] => by unfold giveBack; rfl
  | .dt _ :: _, [] => by unfold giveBack; rfl
theorem mem_lent {g : G} {i : Nat} {c : Fl} {d : D} (e : g[i]? = some (some (c, d))) (ho : c.own = true) : ∀ {rs : List Ref}, Ref.sl i ∈ rs → i ∈ lentOf g rs
  | r :: rs, h => by
    rcases List.mem_cons.mp h with z | z
    · subst z
      unfold lentOf
      rw [e]
      simp [ho]
    · have q := mem_lent e ho z
      cases r with
      | dt _ => exact q
      | sl j =>
        unfold lentOf
        split
        · split
          · exact List.mem_cons_of_mem _ q
          · exact q
        · exact q
/-- a slot behind the call -/
theorem giveBack_some {g : G} {i : Nat} {x : Fl × D} : ∀ {rs : List Ref} {bs : List (Bool × D)}, rs.length = bs.length → (giveBack g rs bs)[i]? = some (some x) →
    (∃ (j : Nat) (c : Fl) (d : D) (b : Bool × D), rs[j]? = some (Ref.sl i) ∧ g[i]? = some (some (c, d)) ∧ c.own = true ∧ bs[j]? = some b ∧ x = (if b.1 = true then c else c.fz, b.2)) ∨ (g[i]? = some (some x) ∧ (x.1.own = true → Ref.sl i ∉ rs))
  | [], [], _, h => .inr ⟨h, fun _ z => by simp at z⟩
  | .dt d :: rs, b :: bs, hl, h => by
    unfold giveBack at h
    rcases giveBack_some (by simpa using hl) h with ⟨j, c, d, b, h1, h2⟩ | ⟨h1, h2⟩
    · exact .inl ⟨j + 1, c, d, b, by simpa using h1, by simpa using h2⟩
    · exact .inr ⟨h1, fun o z => (List.mem_cons.mp z).elim (fun y => nomatch y) (h2 o)⟩
  | .sl k :: rs, b :: bs, hl, h => by
    have hl' : rs.length = bs.length := by simpa using hl
    have skip : (giveBack g rs bs)[i]? = some (some x) → (∀ c d, g[k]? = some (some (c, d)) → c.own = true → i ≠ k) → (∃ (j : Nat) (c : Fl) (d : D) (b' : Bool × D), (Ref.sl k :: rs)[j]? = some (Ref.sl i) ∧ g[i]? = some (some (c, d)) ∧ c.own = true ∧ (b :: bs)[j]? = some b' ∧ x = (if b'.1 = true then c else c.fz, b'.2)) ∨ (g[i]? = some (some x) ∧ (x.1.own = true → Ref.sl i ∉ Ref.sl k :: rs)) := fun q nk => by
      rcases giveBack_some hl' q with ⟨j, c, d, b, h1, h2⟩ | ⟨h1, h2⟩
      · exact Or.inl ⟨j + 1, c, d, b, by simpa using h1, by simpa using h2⟩
      · refine Or.inr ⟨h1, fun o z => (List.mem_cons.mp z).elim (fun y => ?_) (h2 o)⟩
        cases y
        exact nk x.1 x.2 h1 o rfl
    unfold giveBack at h
    split at h
    · rename_i c d e
      split at h
      · rename_i ho
        rcases get_set h with ⟨rfl, z⟩ | ⟨n, z⟩
        · cases z
          exact .inl ⟨0, c, d, b, rfl, e, ho, rfl, rfl⟩
        · exact skip z fun _ _ _ _ => n
      · rename_i ho
        exact skip h fun c' d' e' o' => by rw [e] at e'; cases e'; exact absurd o' ho
    · rename_i hn
      exact skip h fun c' d' e' _ => absurd e' (hn c' d')
theorem RefsOk.get {vs : List V} {rs : List Ref} (h : RefsOk w B σ vs rs) : ∀ {j : Nat} {r : Ref}, rs[j]? = some r → ∃ v, vs[j]? = some v ∧ RefOk w B σ v r := by
  induction h with
  | nil => intro j r e; simp at e
  | cons a t ih =>
    intro j r e
    cases j with
    | zero => simp at e; subst e; exact ⟨_, rfl, a⟩
    | succ j => exact ih (by simpa using e)
theorem RefsOk.len {vs : List V} {rs : List Ref} (h : RefsOk w B σ vs rs) : vs.length = rs.length := by
  induction h with
  | nil => rfl
  | cons a t ih => rw [List.length_cons, List.length_cons, ih]
theorem argsOf_get {g : G} : ∀ {rs : List Ref} {as : List (Bool × D)}, argsOf g rs = some as → as.length = rs.length ∧ ∀ (j : Nat) (a : Bool × D), as[j]? = some a → ∃ r, rs[j]? = some r ∧ argOf g r = some a
  | [], as, e => by
    cases e
    exact ⟨rfl, fun j a h => by simp at h⟩
  | r :: rs, as, e => by
    unfold argsOf at e
    split at e
    · rename_i a as' h1 h2
      cases e
      obtain ⟨q1, q2⟩ := argsOf_get h2
      refine ⟨by rw [List.length_cons, List.length_cons, q1], fun j b h => ?_⟩
      cases j with
      | zero => simp at h; subst h; exact ⟨r, rfl, h1⟩
      | succ j =>
        obtain ⟨r', h3, h4⟩ := q2 j b (by simpa using h)
        exact ⟨r', by simpa using h3, h4⟩
    · cases e
theorem lent_nodup {g : G} {i : Nat} {c : Fl} {d : D} (e : g[i]? = some (some (c, d))) (ho : c.own = true) : ∀ {rs : List Ref} {j k : Nat}, distinct (lentOf g rs) = true → rs[j]? = some (Ref.sl i) → rs[k]? = some (Ref.sl i) → j = k
  | [], _, _, _, h, _ => by simp at h
  | r :: rs, j, k, hd, h1, h2 => by
    have tl : distinct (lentOf g rs) = true := by
      cases r with
      | dt _ => exact hd
      | sl m =>
        unfold lentOf at hd
        split at hd
        · split at hd
          · unfold distinct at hd
            exact (Bool.and_eq_true_iff.mp hd).2
          · exact hd
        · exact hd
    have hd0 : ∀ {m : Nat}, r = Ref.sl i → rs[m]? = some (Ref.sl i) → False := fun {m} er q => by
      subst er
      have mm := mem_lent e ho (List.mem_of_getElem? q)
      unfold lentOf at hd
      rw [e] at hd
      simp only [ho, if_true] at hd
      unfold distinct at hd
      have z := (Bool.and_eq_true_iff.mp hd).1
      rw [Bool.not_eq_true', ← Bool.not_eq_true, List.contains_iff_mem] at z
      exact z mm
    cases j with
    | zero =>
      cases k with
      | zero => rfl
      | succ k => exact (hd0 (by simpa using h1) (by simpa using h2)).elim
    | succ j =>
      cases k with
      | zero => exact (hd0 (by simpa using h2) (by simpa using h1)).elim
      | succ k =>
        have h1 : rs[j]? = some (Ref.sl i) := by simpa using h1
        have h2 : rs[k]? = some (Ref.sl i) := by simpa using h2
        rw [lent_nodup e ho tl h1 h2]
open Classical in
/-- what the callee must leave: what we must, and our own objects that are not lent -/
noncomputable def guardZ (Z H : Hp) (g : G) (σ : L2.St) (rs : List Ref) : Hp := fun a => match Z a with
  | some o => some o
  | none => if ∃ (i : Nat) (c : Fl) (d : D), g[i]? = some (some (c, d)) ∧ c.own = true ∧ σ[i]? = some (some (V.ref a)) ∧ Ref.sl i ∉ rs then H a else none
theorem guard_z {rs : List Ref} {a : Addr} {o : HO} (h : Z a = some o) : guardZ Z H g σ rs a = some o := by
  unfold guardZ
  simp only [h]
theorem guard_own {rs : List Ref} {a : Addr} {i : Nat} {c : Fl} {d : D} (hz : Z a = none) (h1 : g[i]? = some (some (c, d))) (h2 : c.own = true) (h3 : σ[i]? = some (some (V.ref a))) (h4 : Ref.sl i ∉ rs) : guardZ Z H g σ rs a = H a := by
  unfold guardZ
  rw [hz]
  exact if_pos ⟨i, c, d, h1, h2, h3, h4⟩
theorem guard_some {rs : List Ref} {a : Addr} {o : HO} (h : guardZ Z H g σ rs a = some o) : Z a = some o ∨ (Z a = none ∧ H a = some o ∧ ∃ (i : Nat) (c : Fl) (d : D), g[i]? = some (some (c, d)) ∧ c.own = true ∧ σ[i]? = some (some (V.ref a)) ∧ Ref.sl i ∉ rs) := by
  unfold guardZ at h
  split at h
  · rename_i e
    cases h
    exact .inl e
  · rename_i e
    split at h
    · rename_i q
      exact .inr ⟨e, h, q⟩
    · cases h
theorem guard_none {rs : List Ref} {a : Addr} (h : guardZ Z H g σ rs a = none) : Z a = none := by
  cases e : Z a with
  | none => rfl
  | some o => rw [guard_z e] at h; cases h
theorem argP_get {vs : List V} {j : Nat} {v : V} (h : vs[j]? = some v) : argP vs j = v := by unfold argP; rw [h]; rfl
theorem argG_get {as : List (Bool × D)} {j : Nat} {c : Fl} {d : D} (h : (argG as)[j]? = some (some (c, d))) : ∃ b, as[j]? = some (b, d) ∧ c = (if b = true then .p else .f) := by
  unfold argG at h
  rw [List.getElem?_map] at h
  cases e : as[j]? with
  | none => rw [e] at h; cases h
  | some a =>
    rw [e] at h
    cases h
    exact ⟨a.1, rfl, rfl⟩
theorem argG_of {as : List (Bool × D)} {j : Nat} {a : Bool × D} (h : as[j]? = some a) : (argG as)[j]? = some (some (if a.1 = true then .p else .f, a.2)) := by
  unfold argG
  rw [List.getElem?_map, h]
  rfl
theorem mapsome_get {vs : List V} {j : Nat} {v : V} : (vs.map some)[j]? = some (some v) ↔ vs[j]? = some v := by
  rw [List.getElem?_map]
  cases vs[j]? with
  | none => simp
  | some u => simp
/-- a callee's state -/
theorem Sat.enter {vs : List V} {rs : List Ref} {as : List (Bool × D)} (s : Sat w π B Z g σ H) (r : RefsOk w B σ vs rs) (ha : argsOf g rs = some as) (hd : distinct (lentOf g rs) = true) :
    Sat w (argP vs) B (guardZ Z H g σ rs) (argG as) (vs.map some) H := by
  obtain ⟨hl, hg⟩ := argsOf_get ha
  have arg : ∀ {j : Nat} {c : Fl} {d : D}, (argG as)[j]? = some (some (c, d)) → ∃ (r : Ref) (v : V), rs[j]? = some r ∧ vs[j]? = some v ∧ RefOk w B σ v r ∧ argOf g r = some (c.own, d) ∧ (c = .p ∨ c = .f) := fun {j c d} q => by
    obtain ⟨b, h1, h2⟩ := argG_get q
    obtain ⟨r', h3, h4⟩ := hg j _ h1
    obtain ⟨v, h5, h6⟩ := r.get h3
    refine ⟨r', v, h3, h5, h6, ?_, ?_⟩
    · rw [h4, h2]
      cases b <;> rfl
    · rw [h2]
      cases b
      · exact .inr rfl
      · exact .inl rfl
  have own : ∀ {j : Nat} {c : Fl} {d : D}, (argG as)[j]? = some (some (c, d)) → c.own = true → ∃ (i : Nat) (c' : Fl) (a : Addr), rs[j]? = some (Ref.sl i) ∧ g[i]? = some (some (c', d)) ∧ c'.own = true ∧ vs[j]? = some (V.ref a) ∧ σ[i]? = some (some (V.ref a)) ∧ B a = none ∧ Z a = none ∧ Own w B H a d := fun {j c d} q z => by
    obtain ⟨r', v, h1, h2, h3, h4, _⟩ := arg q
    cases r' with
    | dt d' =>
      have h4 : some (false, d') = some (c.own, d) := h4
      rw [z] at h4
      cases h4
    | sl i =>
      unfold argOf at h4
      simp only at h4
      split at h4
      · rename_i c' d' e
        have z' : c'.own = true := by
          have := Option.some.inj h4
          rw [z] at this
          exact congrArg Prod.fst this
        have ed : d' = d := congrArg Prod.snd (Option.some.inj h4)
        subst ed
        obtain ⟨a, k1, k2, k3, k4⟩ := s.ow i c' d' e z'
        have h3 : σ[i]? = some (some v) := h3
        rw [k1] at h3
        cases h3
        exact ⟨i, c', a, h1, e, z', h2, k1, k2, k3, k4⟩
      · cases h4
  refine ⟨s.sub, fun a o q => ?_, fun a o q => ?_, ?_, fun j c d q z => ?_, fun j c d q z => ?_, fun j k c c' d e a q1 q2 z1 z2 t1 t2 => ?_, fun j c d q z => ?_⟩
  · rcases guard_some q with z | ⟨_, z, _⟩
    · exact s.keep a o z
    · exact z
  · rcases guard_some q with z | ⟨_, _, i, c, d, h1, h2, h3, _⟩
    · exact s.dis a o z
    · obtain ⟨a', k1, k2, _⟩ := s.ow i c d h1 h2
      rw [h3] at k1
      cases k1
      exact k2
  · unfold argG
    rw [List.length_map, List.length_map, hl, r.len]
  · obtain ⟨r', v, h1, h2, h3, h4, _⟩ := arg q
    refine ⟨v, mapsome_get.mpr h2, ?_⟩
    cases r' with
    | dt d' =>
      have h4 : some (false, d') = some (c.own, d) := h4
      have ed : d' = d := congrArg Prod.snd (Option.some.inj h4)
      subst ed
      exact h3
    | sl i =>
      unfold argOf at h4
      simp only at h4
      split at h4
      · rename_i c' d' e
        have z' : c'.own = false := by
          have := Option.some.inj h4
          rw [z] at this
          exact congrArg Prod.fst this
        have ed : d' = d := congrArg Prod.snd (Option.some.inj h4)
        subst ed
        obtain ⟨u, k1, k2⟩ := s.fz i c' d' e z'
        have h3 : σ[i]? = some (some v) := h3
        rw [k1] at h3
        cases h3
        exact k2
      · cases h4
  · obtain ⟨i, c', a, h1, h2, h3, h4, h5, h6, h7, h8⟩ := own q z
    refine ⟨a, mapsome_get.mpr h4, h6, ?_, h8⟩
    cases e : guardZ Z H g σ rs a with
    | none => rfl
    | some o =>
      rcases guard_some e with y | ⟨_, _, i', c2, d2, k1, k2, k3, k4⟩
      · rw [h7] at y; cases y
      · have := s.dj i i' c' c2 d d2 a h2 k1 h3 k2 h5 k3
        subst this
        exact absurd (List.mem_of_getElem? h1) k4
  · obtain ⟨i, c1, a1, h1, h2, h3, h4, h5, _⟩ := own q1 z1
    obtain ⟨i', c2, a2, k1, k2, k3, k4, k5, _⟩ := own q2 z2
    have e1 := mapsome_get.mp t1
    have e2 := mapsome_get.mp t2
    rw [h4] at e1
    rw [k4] at e2
    cases e1
    cases e2
    have := s.dj i i' c1 c2 d e _ h2 k2 h3 k3 h5 k5
    subst this
    exact lent_nodup h2 h3 hd h1 k1
  · obtain ⟨r', v, h1, h2, _⟩ := arg q
    rw [argP_get h2]
    exact mapsome_get.mpr h2
/-- back in the caller -/
theorem Sat.leave {vs : List V} {rs : List Ref} {as bk : List (Bool × D)} (s : Sat w π B Z g σ H) (r : RefsOk w B σ vs rs) (ha : argsOf g rs = some as) (hd : distinct (lentOf g rs) = true)
    (e : Ext B B') (t : Sat w (argP vs) B' (guardZ Z H g σ rs) (argG bk) (vs.map some) H') :
    Sat w π B' Z (giveBack g rs bk) σ H' ∧ ∀ v o d, Res w B' (guardZ Z H g σ rs) (argG bk) (vs.map some) H' v o d → Res w B' Z (giveBack g rs bk) σ H' v o d := by
  have hlen : rs.length = bk.length := by
    have := t.len
    unfold argG at this
    rw [List.length_map, List.length_map, r.len] at this
    exact this.symm
  have dis : ∀ a o, Z a = some o → B' a = none := fun a o q => t.dis a o (guard_z q)
  -- an own slot behind the call
  have own : ∀ {i : Nat} {x : Fl × D}, (giveBack g rs bk)[i]? = some (some x) → x.1.own = true → ∃ a : Addr, σ[i]? = some (some (V.ref a)) ∧ B' a = none ∧ Z a = none ∧ Own w B' H' a x.2 ∧
      ((∃ (j : Nat) (c0 : Fl) (d0 : D), rs[j]? = some (Ref.sl i) ∧ g[i]? = some (some (c0, d0)) ∧ c0.own = true ∧ (argG bk)[j]? = some (some (Fl.p, x.2)) ∧ (vs.map some)[j]? = some (some (V.ref a)) ∧ guardZ Z H g σ rs a = none) ∨ (g[i]? = some (some x) ∧ Ref.sl i ∉ rs ∧ ∃ o, guardZ Z H g σ rs a = some o)) := fun {i x} q z => by
    rcases giveBack_some hlen q with ⟨j, c, d, b, h1, h2, h3, h4, rfl⟩ | ⟨h1, h2⟩
    · have hb : b.1 = true := by
        cases hb : b.1 with
        | true => rfl
        | false =>
          simp only [hb] at z
          have : c.fz.own = true := z
          rw [Fl.own_fz] at this
          cases this
      have k := argG_of h4
      rw [hb] at k
      obtain ⟨a, k1, k2, k3, k4⟩ := t.ow j .p b.2 k rfl
      obtain ⟨v, m1, m2⟩ := r.get h1
      have m2 : σ[i]? = some (some v) := m2
      have := mapsome_get.mp k1
      rw [m1] at this
      cases this
      exact ⟨a, m2, k2, guard_none k3, k4, .inl ⟨j, c, d, h1, h2, h3, k, k1, k3⟩⟩
    · obtain ⟨a, k1, k2, k3, k4⟩ := s.ow i x.1 x.2 h1 z
      obtain ⟨u, hu⟩ := k4.there
      have gz : guardZ Z H g σ rs a = some u := by rw [guard_own k3 h1 z k1 (h2 z)]; exact hu
      exact ⟨a, k1, t.dis a u gz, k3, (k4.mono e).at ((t.keep a u gz).trans hu.symm), .inr ⟨h1, h2 z, u, gz⟩⟩
  refine ⟨⟨t.sub, fun a o q => t.keep a o (guard_z q), dis, by rw [giveBack_len]; exact s.len, fun i c d q z => ?_, fun i c d q z => ?_, fun i k c c' d d' a q1 q2 z1 z2 t1 t2 => ?_, fun i c d q z => ?_⟩, fun v o d h => ?_⟩
  · rcases giveBack_some hlen q with ⟨j, c0, d0, b, h1, h2, h3, h4, ex⟩ | ⟨h1, h2⟩
    · cases ex
      have hb : b.1 = false := by
        cases hb : b.1 with
        | false => rfl
        | true =>
          rw [hb] at z
          simp only [if_true] at z
          rw [h3] at z
          cases z
      have k := argG_of h4
      rw [hb] at k
      obtain ⟨v, k1, k2⟩ := t.fz j .f b.2 k rfl
      obtain ⟨v', m1, m2⟩ := r.get h1
      have m2 : σ[i]? = some (some v') := m2
      have := mapsome_get.mp k1
      rw [m1] at this
      cases this
      exact ⟨_, m2, k2⟩
    · obtain ⟨v, k1, k2⟩ := s.fz i c d h1 z
      exact ⟨v, k1, k2.mono e⟩
  · obtain ⟨a, h1, h2, h3, h4, _⟩ := own q z
    exact ⟨a, h1, h2, h3, h4⟩
  · obtain ⟨a1, h1, _, _, _, h5⟩ := own q1 z1
    obtain ⟨a2, k1, _, _, _, k5⟩ := own q2 z2
    rw [t1] at h1
    cases h1
    rw [t2] at k1
    cases k1
    rcases h5 with ⟨j1, c1, d1, m1, m2, m3, m4, m5, m6⟩ | ⟨m1, m2, o1, m3⟩
    · rcases k5 with ⟨j2, c2, d2, n1, n2, n3, n4, n5, n6⟩ | ⟨n1, n2, o2, n3⟩
      · have := t.dj j1 j2 .p .p d d' a m4 n4 rfl rfl m5 n5
        subst this
        rw [m1] at n1
        cases n1
        rfl
      · rw [m6] at n3
        cases n3
    · rcases k5 with ⟨j2, c2, d2, n1, n2, n3, n4, n5, n6⟩ | ⟨n1, n2, o2, n3⟩
      · rw [n6] at m3
        cases m3
      · exact s.dj i k c c' d d' a m1 n1 z1 z2 t1 t2
  · rcases giveBack_some hlen q with ⟨j, c0, d0, b, h1, h2, h3, h4, ex⟩ | ⟨h1, h2⟩
    · cases ex
      refine s.pin i c0 d0 h2 ?_
      cases hb : b.1 with
      | true => rw [hb] at z; exact z
      | false =>
        rw [hb] at z
        have z : c0.fz.pin = true := z
        rw [Fl.pin_fz] at z
        exact z
    · exact s.pin i c d h1 z
  · cases o with
    | false => exact h
    | true =>
      obtain ⟨a, rfl, h1, h2, h3, h4⟩ := h
      refine ⟨a, rfl, h1, guard_none h2, h3, fun i c x q z tt => ?_⟩
      obtain ⟨a', k1, _, _, _, k5⟩ := own q z
      rw [tt] at k1
      cases k1
      rcases k5 with ⟨j1, c1, d1, m1, m2, m3, m4, m5, m6⟩ | ⟨m1, m2, o1, m3⟩
      · exact h4 j1 .p x m4 rfl m5
      · rw [h2] at m3
        cases m3
def seCall (φ : Fn) (sa : SA) : SE := fun g => (sa g).bind fun rs g1 => if distinct (lentOf g1 rs) = true then match argsOf g1 rs with
  | some as => match φ as with
    | .ret o d bk => .ok (o, d) (giveBack g1 rs bk)
    | .ex x f bk => .ex x f (giveBack g1 rs bk)
    | .fail => .fail
  | none => .fail else .fail
/-- a call by what the callee promises -/
theorem call_D {φ : Fn} {vs : List V} {rs : List Ref} {Q : VK} {E : XK} (s : Sat w π B Z g σ H) (r : RefsOk w B σ vs rs) (hE : ∀ cls d H', W cls d σ H' → E cls d H')
    (q : PostE w W π B Z σ Q (if distinct (lentOf g rs) = true then match argsOf g rs with
      | some as => match φ as with
        | .ret o d bk => .ok (o, d) (giveBack g rs bk)
        | .ex x f bk => .ex x f (giveBack g rs bk)
        | .fail => .fail
      | none => .fail else .fail)) : spD w φ vs H Q E := by
  split at q
  · rename_i hd
    split at q
    · rename_i as ha
      refine ⟨B, guardZ Z H g σ rs, as, s.enter r ha hd, ?_⟩
      split at q
      · rename_i o d bk e
        rw [e]
        intro v B' H' e' t rs'
        obtain ⟨t1, t2⟩ := s.leave r ha hd e' t
        exact q v B' H' e' t1 (t2 v o d rs')
      · rename_i x f bk e
        rw [e]
        intro hx dd B' H' e' t xo
        obtain ⟨t1, t2⟩ := s.leave r ha hd e' t
        exact hE _ _ _ (q hx dd B' H' σ e' t1 xo)
      · exact q.elim
    · exact q.elim
  · exact q.elim
theorem re_call {φ : Fn} {E : L2.St → XK} {ta : TA} {sa : SA} (hE : ∀ σ cls d H', W cls d σ H' → E σ cls d H') (h : RA w W ta sa) : RE w W (tCallS (spD w φ) E ta) (seCall φ sa) := fun π B Z g σ H Q s q =>
  h π B Z g σ H _ s (tailE.bA q fun rs g1 vs B1 H1 e1 s1 r1 q1 => call_D s1 r1 (hE σ) q1)
end
end M7
namespace M7
open PySem PySem.Spec PyProof.Rows L2
/-! ### a def by its body -/
def endOf (a : Bool × D) (s : Option (Fl × D)) : Option (Bool × D) := if a.1 = false then some (false, a.2) else match s with
  | some (.p, d) => some (true, d)
  | some (.q, d) => some (false, d)
  | _ => none
def endsOf : List (Bool × D) → G → Option (List (Bool × D))
  | [], _ => some []
  | a :: as, s :: g => match endOf a s, endsOf as g with
    | some b, some bs => some (b :: bs)
    | _, _ => none
  | _ :: _, [] => none
def bodyFn (n N : Nat) (ss : SS) : Fn := fun as => if as.length = n then match ss (argG as ++ List.replicate (N - n) none) with
  | .rt o d g => match endsOf as g with
    | some bk => .ret o d bk
    | none => .fail
  | .nx g => match endsOf as g with
    | some bk => .ret false .non bk
    | none => .fail
  | .ex x f g => match endsOf as g with
    | some bk => .ex x f bk
    | none => .fail
  | _ => .fail else .fail
theorem endsOf_get : ∀ {as : List (Bool × D)} {g : G} {bk : List (Bool × D)}, endsOf as g = some bk → bk.length = as.length ∧ ∀ (j : Nat) (b : Bool × D), bk[j]? = some b → ∃ a s, as[j]? = some a ∧ (a.1 = true → g[j]? = some s) ∧ endOf a s = some b
  | [], _, _, e => by
    cases e
    exact ⟨rfl, fun j b h => by simp at h⟩
  | a :: as, s :: g, bk, e => by
    unfold endsOf at e
    split at e
    · rename_i b bs h1 h2
      cases e
      obtain ⟨q1, q2⟩ := endsOf_get h2
      refine ⟨by rw [List.length_cons, List.length_cons, q1], fun j b' h => ?_⟩
      cases j with
      | zero =>
        simp at h
        subst h
        exact ⟨a, s, rfl, fun _ => rfl, h1⟩
      | succ j =>
        obtain ⟨a', s', k1, k2, k3⟩ := q2 j b' (by simpa using h)
        exact ⟨a', s', by simpa using k1, by simpa using k2, k3⟩
    · cases e
  | _ :: _, [], _, e => by cases e
section
variable {w : WD} {W : WX} {π : Nat → V} {B B' B1 Z : Hp} {g : G} {σ σ' : L2.St} {H H' : Hp}
/-- at the end of a def's body -/
theorem Sat.ends {vs : List V} {as bk : List (Bool × D)} (s : Sat w (argP vs) B Z (argG as) (vs.map some) H) (e : Ext B B') (t : Sat w (argP vs) B' Z g σ' H') (h : endsOf as g = some bk) :
    Sat w (argP vs) B' Z (argG bk) (vs.map some) H' ∧ ∀ v o d, Res w B' Z g σ' H' v o d → Res w B' Z (argG bk) (vs.map some) H' v o d := by
  obtain ⟨hl, hg⟩ := endsOf_get h
  have alen : as.length = vs.length := by
    have := s.len
    unfold argG at this
    rw [List.length_map, List.length_map] at this
    exact this
  have val : ∀ {j : Nat} {a : Bool × D}, as[j]? = some a → ∃ v, vs[j]? = some v := fun {j a} q => by
    have := (List.getElem?_eq_some_iff.mp q).1
    exact ⟨vs[j]'(by omega), List.getElem?_eq_getElem _⟩
  -- an own argument that is still one's own
  have own : ∀ {j : Nat} {c : Fl} {d : D}, (argG bk)[j]? = some (some (c, d)) → c.own = true → g[j]? = some (some (.p, d)) ∧ ∃ v, vs[j]? = some v ∧ σ'[j]? = some (some v) := fun {j c d} q z => by
    obtain ⟨b, h1, h2⟩ := argG_get q
    obtain ⟨a, x, k1, k2, k3⟩ := hg j _ h1
    have hb : b = true := by
      cases b
      · rw [h2] at z; cases z
      · rfl
    subst hb
    unfold endOf at k3
    split at k3
    · cases k3
    · rename_i ha
      have ha : a.1 = true := by cases h : a.1 <;> simp_all
      have k2 := k2 ha
      split at k3
      · cases k3
        obtain ⟨v, hv⟩ := val k1
        refine ⟨k2, v, hv, ?_⟩
        rw [t.pin j .p d k2 rfl, argP_get hv]
      · cases k3
      · cases k3
  have fz : ∀ {j : Nat} {c : Fl} {d : D}, (argG bk)[j]? = some (some (c, d)) → c.own = false → ∃ v, vs[j]? = some v ∧ Den w B' v d := fun {j c d} q z => by
    obtain ⟨b, h1, h2⟩ := argG_get q
    obtain ⟨a, x, k1, k2, k3⟩ := hg j _ h1
    have hb : b = false := by
      cases b
      · rfl
      · rw [h2] at z; cases z
    subst hb
    unfold endOf at k3
    split at k3
    · rename_i ha
      cases k3
      have q2 := argG_of k1
      rw [ha] at q2
      obtain ⟨v, m1, m2⟩ := s.fz j .f a.2 q2 rfl
      exact ⟨v, mapsome_get.mp m1, m2.mono e⟩
    · rename_i ha
      have ha : a.1 = true := by cases h : a.1 <;> simp_all
      have k2 := k2 ha
      split at k3
      · cases k3
      · cases k3
        obtain ⟨v, hv⟩ := val k1
        have m := t.pin j .q d k2 rfl
        rw [argP_get hv] at m
        obtain ⟨u, m1, m2⟩ := t.fz j .q d k2 rfl
        rw [m] at m1
        cases m1
        exact ⟨v, hv, m2⟩
      · cases k3
  refine ⟨⟨t.sub, t.keep, t.dis, ?_, fun j c d q z => ?_, fun j c d q z => ?_, fun j k c c' d d' a q1 q2 z1 z2 t1 t2 => ?_, fun j c d q z => ?_⟩, fun v o d r => ?_⟩
  · unfold argG
    rw [List.length_map, List.length_map, hl, alen]
  · obtain ⟨v, h1, h2⟩ := fz q z
    exact ⟨v, mapsome_get.mpr h1, h2⟩
  · obtain ⟨h1, v, h2, h3⟩ := own q z
    obtain ⟨a, k1, k2, k3, k4⟩ := t.ow j .p d h1 rfl
    rw [h3] at k1
    cases k1
    exact ⟨a, mapsome_get.mpr h2, k2, k3, k4⟩
  · obtain ⟨h1, v, h2, h3⟩ := own q1 z1
    obtain ⟨k1, u, k2, k3⟩ := own q2 z2
    have e1 := mapsome_get.mp t1
    have e2 := mapsome_get.mp t2
    rw [h2] at e1
    rw [k2] at e2
    cases e1
    cases e2
    exact t.dj j k .p .p d d' a h1 k1 rfl rfl h3 k3
  · obtain ⟨b, h1, h2⟩ := argG_get q
    obtain ⟨a, x, k1, _⟩ := hg j _ h1
    obtain ⟨v, hv⟩ := val k1
    rw [argP_get hv]
    exact mapsome_get.mpr hv
  · cases o with
    | false => exact r
    | true =>
      obtain ⟨a, rfl, h1, h2, h3, h4⟩ := r
      refine ⟨a, rfl, h1, h2, h3, fun j c x q z tt => ?_⟩
      obtain ⟨k1, u, k2, k3⟩ := own q z
      have e1 := mapsome_get.mp tt
      rw [k2] at e1
      cases e1
      exact h4 j .p x k1 rfl k3
/-- the slots that are not yet set -/
theorem Sat.start {vs : List V} {as : List (Bool × D)} {m : Nat} (s : Sat w π B Z (argG as) (vs.map some) H) : Sat w π B Z (argG as ++ List.replicate m none) (vs.map some ++ List.replicate m none) H := by
  have low : ∀ {j : Nat} {x : Fl × D}, (argG as ++ List.replicate m none)[j]? = some (some x) → (argG as)[j]? = some (some x) ∧ (vs.map some ++ List.replicate m none)[j]? = (vs.map some)[j]? := fun {j x} q => by
    by_cases hj : j < (argG as).length
    · rw [List.getElem?_append_left hj] at q
      exact ⟨q, List.getElem?_append_left (by rw [← s.len]; exact hj)⟩
    · rw [List.getElem?_append_right (by omega), List.getElem?_replicate] at q
      split at q <;> simp at q
  exact ⟨s.sub, s.keep, s.dis, by rw [List.length_append, List.length_append, s.len, List.length_replicate, List.length_replicate], fun j c d q z => by
    obtain ⟨q1, q2⟩ := low q
    rw [q2]
    exact s.fz j c d q1 z, fun j c d q z => by
    obtain ⟨q1, q2⟩ := low q
    rw [q2]
    exact s.ow j c d q1 z, fun j k c c' d d' a q1 q2 z1 z2 t1 t2 => by
    obtain ⟨q1, e1⟩ := low q1
    obtain ⟨q2, e2⟩ := low q2
    rw [e1] at t1
    rw [e2] at t2
    exact s.dj j k c c' d d' a q1 q2 z1 z2 t1 t2, fun j c d q z => by
    obtain ⟨q1, q2⟩ := low q
    rw [q2]
    exact s.pin j c d q1 z⟩
theorem body_D {n : Nat} {N : List Str} {ss : SS} {t : TS} {vs : List V} {Q : VK} {E : XK} (h : spD w (bodyFn n N.length ss) vs H Q E) (r : RS w W t ss) (hW : ∀ cls d σ H, E cls d H → W cls d σ H) : t { nx := fun _ H' => Q .non H', rt := Q } (L2.start N vs) H := by
  obtain ⟨B, Z, as, s, p⟩ := h
  unfold bodyFn at p
  split at p
  · rename_i hn
    have alen : as.length = vs.length := by
      have := s.len
      unfold argG at this
      rw [List.length_map, List.length_map] at this
      exact this
    have st : Sat w (argP vs) B Z (argG as ++ List.replicate (N.length - n) none) (L2.start N vs) H := by
      unfold L2.start
      rw [← alen, hn]
      exact s.start
    refine r (argP vs) B Z _ _ H _ st ?_
    split at p
    · rename_i o d g e
      rw [e]
      split at p
      · rename_i bk hb
        intro v B' H' σ' e' t' rs
        obtain ⟨k1, k2⟩ := s.ends e' t' hb
        exact p v B' H' e' k1 (k2 v o d rs)
      · exact p.elim
    · rename_i g e
      rw [e]
      split at p
      · rename_i bk hb
        intro B' H' σ' e' t'
        obtain ⟨k1, k2⟩ := s.ends e' t' hb
        exact p .non B' H' e' k1 Den.non
      · exact p.elim
    · rename_i x f g e
      rw [e]
      split at p
      · rename_i bk hb
        intro hx dd B' H' σ' e' t' xo
        obtain ⟨k1, k2⟩ := s.ends e' t' hb
        exact hW _ _ _ _ (p hx dd B' H' e' k1 xo)
      · exact p.elim
    · exact p.elim
  · exact p.elim
theorem spD_len {n N : Nat} {ss : SS} {vs : List V} {Q : VK} {E : XK} (h : spD w (bodyFn n N ss) vs H Q E) : vs.length = n := by
  obtain ⟨B, Z, as, s, p⟩ := h
  unfold bodyFn at p
  split at p
  · rename_i hn
    have := s.len
    unfold argG at this
    rw [List.length_map, List.length_map] at this
    omega
  · exact p.elim
end
end M7
namespace M7
open PySem PySem.Spec PyProof.Rows L2
section
variable {w : WD} {W : WX} {π : Nat → V} {B B' B1 Z : Hp} {g : G} {σ : L2.St} {H H' : Hp} {v : V}
/-! ### what a value is, by its datum -/
theorem lk_int {i : Int} (h : Lk w B H v (.int i)) : v = .int i := by
  cases h with
  | den h => cases h; rfl
  | own _ h => cases h
theorem lk_bl {b : Bool} (h : Lk w B H v (.bl b)) : v = .bl b := by
  cases h with
  | den h => cases h; rfl
  | own _ h => cases h
theorem lk_str {x : Str} (h : Lk w B H v (.str x)) : v = .str x := by
  cases h with
  | den h => cases h; rfl
  | own _ h => cases h
theorem lk_non (h : Lk w B H v .non) : v = .non := by
  cases h with
  | den h => cases h; rfl
  | own _ h => cases h
theorem Sub.at {a : Addr} {o : HO} (h : Sub B H) (e : B a = some o) (n : lockable o = false) : H a = some o := by
  rcases h a o e with z | ⟨l, _⟩
  · exact z
  · rw [n] at l; cases l
theorem lk_lst {ds : List D} (s : Sub B H) (h : Lk w B H v (.lst ds)) : ∃ a xs, v = .ref a ∧ H a = some (.lst xs) ∧ Dens w B xs ds := by
  cases h with
  | den h =>
    cases h with
    | lst e r => exact ⟨_, _, rfl, s.at e rfl, r⟩
  | own _ h =>
    cases h with
    | lst e r => exact ⟨_, _, rfl, e, r⟩
theorem lk_scr {ds : List D} (s : Sub B H) (h : Lk w B H v (.scr ds)) : ∃ a xs, v = .ref a ∧ SqL w.K H a xs ∧ Dens w B xs ds := by
  cases h with
  | den h =>
    cases h with
    | scr e r => exact ⟨_, _, rfl, s.sqL e, r⟩
  | own _ h => cases h
theorem lk_tup {ds : List D} (s : Sub B H) (h : Lk w B H v (.tup ds)) : ∃ a xs, v = .ref a ∧ SqT w.K H a xs ∧ Dens w B xs ds := by
  cases h with
  | den h =>
    cases h with
    | tup e r => exact ⟨_, _, rfl, s.sqT e, r⟩
  | own _ h => cases h
/-- what a call, an operation gives: data as they are; a new list; a new tuple -/
theorem fin_d {Q : VK} {d : D} (s : Sat w π B Z g σ H) (q : PostF w π B Z g σ Q (some (false, d))) (h : Den w B v d) : Q v H := q v B H (Ext.refl _) s h
theorem Sat.newB {p : Addr} {o : HO} (s : Sat w π B Z g σ H) (hp : H p = none) : Sat w π (upd B p o) Z g σ (upd H p o) := by
  have s1 := s.grow (Ext.new hp (o := o))
  refine s1.more (Ext.new (s.sub.none hp)) (s1.sub.upd upd_same) (fun a u q => ?_) fun i c d a q z t => ?_
  · rw [upd_ne (ne_of_none q (s.keep.none hp))]
    exact s.dis a u q
  · obtain ⟨b, q1, q2, q3, q4⟩ := s.ow i c d q z
    rw [t] at q1
    cases q1
    obtain ⟨u, hu⟩ := q4.there
    rw [upd_ne (ne_of_none hu hp)]
    exact q2
theorem fin_T {Q : VK} {xs : List V} {ds : List D} {p : Addr} (s : Sat w π B Z g σ H) (q : PostF w π B Z g σ Q (some (false, .tup ds))) (h : Dens w B xs ds) (hp : H p = none) : Q (.ref p) (upd H p (.tup xs)) :=
  q _ (upd B p (.tup xs)) _ (Ext.new (s.sub.none hp)) (s.newB hp) (Den.tup (.inl (.inl upd_same)) (h.mono (Ext.new (s.sub.none hp))))
/-- a new object is one's own -/
theorem Sat.new_res {p : Addr} {o : HO} {d : D} (s : Sat w π B Z g σ H) (hp : H p = none) (n : Own w B (upd H p o) p d) : Res w B Z g σ (upd H p o) (.ref p) true d :=
  ⟨p, rfl, s.sub.none hp, s.keep.none hp, n, fun i c e q z t => by
    obtain ⟨b, q1, q2, q3, q4⟩ := s.ow i c e q z
    rw [t] at q1
    cases q1
    obtain ⟨u, hu⟩ := q4.there
    rw [hp] at hu
    cases hu⟩
theorem fin_L {Q : VK} {xs : List V} {ds : List D} {p : Addr} (s : Sat w π B Z g σ H) (q : PostF w π B Z g σ Q (some (true, .lst ds))) (h : Dens w B xs ds) (hp : H p = none) : Q (.ref p) (upd H p (.lst xs)) :=
  q _ B _ (Ext.refl _) (s.grow (Ext.new hp)) (s.new_res hp (.lst upd_same h))
/-! ### operators -/
instance {i j : Int} : Decidable (CMul i j) := by unfold CMul; infer_instance
instance {i j : Int} : Decidable (CDiv i j) := by unfold CDiv; infer_instance
instance {i j : Int} : Decidable (CPow i j) := by unfold CPow; infer_instance
def i2 (c : Int → Int → Bool) (f : Int → Int → D) : D → D → Option (Bool × D)
  | .int i, .int j => if c i j = true then some (false, f i j) else none
  | _, _ => none
theorem od_i {C : Int → Int → Prop} {c : Int → Int → Bool} {f : Int → Int → D} {g' : Int → Int → V} (hc : ∀ i j, c i j = true → C i j) (hf : ∀ B i j, Den w B (g' i j) (f i j)) : OpD w (rI C g') (i2 c f) := fun π B Z g σ H Q v u d e s h1 h2 q => by
  cases d <;> first | exact q.elim | skip
  cases e <;> first | exact q.elim | skip
  rename_i i j
  unfold i2 at q
  simp only at q
  split at q
  · rename_i hcc
    exact ⟨i, j, lk_int h1, lk_int h2, hc i j hcc, fin_d s q (hf B i j)⟩
  · exact q.elim
theorem od_i0 {f : Int → Int → D} {g' : Int → Int → V} (hf : ∀ B i j, Den w B (g' i j) (f i j)) : OpD w (rI0 g') (i2 (fun _ _ => true) f) := fun π B Z g σ H Q v u d e s h1 h2 q => by
  cases d <;> first | exact q.elim | skip
  cases e <;> first | exact q.elim | skip
  rename_i i j
  exact ⟨i, j, lk_int h1, lk_int h2, fin_d s q (hf B i j)⟩
theorem OpD.or {r r' : R2} {f f' : D → D → Option (Bool × D)} (h : OpD w r f) (h' : OpD w r' f') : OpD w (fun x y H Q => r x y H Q ∨ r' x y H Q) (fun d e => match f d e with
    | some x => some x
    | none => f' d e) := fun π B Z g σ H Q v u d e s h1 h2 q => by
  cases hf : f d e with
  | some x =>
    simp only [hf] at q
    exact .inl (h π B Z g σ H Q v u d e s h1 h2 (by rw [hf]; exact q))
  | none =>
    simp only [hf] at q
    exact .inr (h' π B Z g σ H Q v u d e s h1 h2 q)
def dSub : D → D → Option (Bool × D) := i2 (fun _ _ => true) fun i j => .int (i - j)
theorem od_sub : OpD w (rI0 fun i j => .int (i - j)) dSub := od_i0 fun _ i j => .int _
def dMulI : D → D → Option (Bool × D) := i2 (fun i j => decide (CMul i j)) fun i j => .int (i * j)
theorem od_mulI : OpD w (rI CMul fun i j => .int (i * j)) dMulI := od_i (fun _ _ h => of_decide_eq_true h) fun _ i j => .int _
def dDiv : D → D → Option (Bool × D) := i2 (fun i j => decide (CDiv i j)) fun i j => .int (i / j)
theorem od_div : OpD w (rI CDiv fun i j => .int (i / j)) dDiv := od_i (fun _ _ h => of_decide_eq_true h) fun _ i j => .int _
def dMod : D → D → Option (Bool × D) := i2 (fun _ j => decide (0 < j)) fun i j => .int (i % j)
theorem od_mod : OpD w (rI (fun _ j => 0 < j) fun i j => .int (i % j)) dMod := od_i (fun _ _ h => of_decide_eq_true h) fun _ i j => .int _
def dPow : D → D → Option (Bool × D) := i2 (fun i j => decide (CPow i j)) fun i j => .int (i ^ j.toNat)
theorem od_pow : OpD w (rI CPow fun i j => .int (i ^ j.toNat)) dPow := od_i (fun _ _ h => of_decide_eq_true h) fun _ i j => .int _
/-- + -/
def dCatS : D → D → Option (Bool × D)
  | .str a, .str b => if a.length + b.length ≤ sizeLine then some (false, .str (a ++ b)) else none
  | _, _ => none
theorem od_catS : OpD w (fun x y H Q => ∃ i j, x = .str i ∧ y = .str j ∧ i.length + j.length ≤ sizeLine ∧ Q (.str (i ++ j)) H) dCatS := fun π B Z g σ H Q v u d e s h1 h2 q => by
  cases d <;> first | exact q.elim | skip
  cases e <;> first | exact q.elim | skip
  rename_i i j
  unfold dCatS at q
  simp only at q
  split at q
  · rename_i hc
    exact ⟨i, j, lk_str h1, lk_str h2, hc, fin_d s q (.str _)⟩
  · exact q.elim
def dCatL : D → D → Option (Bool × D)
  | .lst a, .lst b => if a.length + b.length ≤ sizeLine then some (true, .lst (a ++ b)) else none
  | _, _ => none
theorem od_catL : OpD w rCat dCatL := fun π B Z g σ H Q v u d e s h1 h2 q => by
  cases d <;> first | exact q.elim | skip
  cases e <;> first | exact q.elim | skip
  rename_i ds es
  unfold dCatL at q
  simp only at q
  split at q
  · rename_i hc
    obtain ⟨a, xs, rfl, ha, hx⟩ := lk_lst s.sub h1
    obtain ⟨b, ys, rfl, hb, hy⟩ := lk_lst s.sub h2
    exact ⟨a, b, xs, ys, rfl, rfl, ha, hb, by rw [hx.len, hy.len]; exact hc, fun p hp => fin_L s q (hx.app hy) hp⟩
  · exact q.elim
def dCatT : D → D → Option (Bool × D)
  | .tup a, .tup b => if a.length + b.length ≤ sizeLine ∧ a ≠ [] then some (false, .tup (a ++ b)) else none
  | _, _ => none
theorem lk_den_tup {ds : List D} (h : Lk w B H v (.tup ds)) : Den w B v (.tup ds) := by
  cases h with
  | den h => exact h
  | own _ h => cases h
theorem od_catT : OpD w (rCatT w.K) dCatT := fun π B Z g σ H Q v u d e s h1 h2 q => by
  cases d <;> first | exact q.elim | skip
  cases e <;> first | exact q.elim | skip
  rename_i ds es
  unfold dCatT at q
  simp only at q
  split at q
  · rename_i hc
    obtain ⟨a, xs, rfl, ha, hx⟩ := lk_tup s.sub h1
    obtain ⟨b, ys, rfl, hb, hy⟩ := lk_tup s.sub h2
    refine ⟨a, b, xs, ys, rfl, rfl, ha, hb, fun z => hc.2 (by subst z; cases hx; rfl), by rw [hx.len, hy.len]; exact hc.1, fun z => ?_, fun _ p hp => fin_T s q (hx.app hy) hp⟩
    subst z
    cases hy
    rw [List.append_nil] at q
    exact fin_d s q (lk_den_tup h1)
  · exact q.elim
def dAdd : D → D → Option (Bool × D)
  | .int i, .int j => some (false, .int (i + j))
  | .str a, .str b => dCatS (.str a) (.str b)
  | .lst a, .lst b => dCatL (.lst a) (.lst b)
  | .tup a, .tup b => dCatT (.tup a) (.tup b)
  | _, _ => none
def rAddU (K : PySem.W.Frag) : R2 := fun x y H Q => (rI0 fun i j => .int (i + j)) x y H Q ∨ (fun x y H Q => (fun x y H Q => ∃ i j, x = .str i ∧ y = .str j ∧ i.length + j.length ≤ sizeLine ∧ Q (.str (i ++ j)) H) x y H Q ∨ (fun x y H Q => rCat x y H Q ∨ rCatT K x y H Q) x y H Q) x y H Q
theorem op_addU {X : Cx} : OpR X (binaryOp .Add) (rAddU X.K) := OpR.or op_add (OpR.or op_add_str (OpR.or op_cat op_catT))
theorem od_add : OpD w (rAddU w.K) dAdd := fun π B Z g σ H Q v u d e s h1 h2 q => by
  cases d <;> first | exact q.elim | skip
  · cases e <;> first | exact q.elim | skip
    exact .inl ⟨_, _, lk_int h1, lk_int h2, fin_d s q (.int _)⟩
  · cases e <;> first | exact q.elim | skip
    exact .inr (.inl (od_catS π B Z g σ H Q v u _ _ s h1 h2 q))
  · cases e <;> first | exact q.elim | skip
    exact .inr (.inr (.inl (od_catL π B Z g σ H Q v u _ _ s h1 h2 q)))
  · cases e <;> first | exact q.elim | skip
    exact .inr (.inr (.inr (od_catT π B Z g σ H Q v u _ _ s h1 h2 q)))
/-! ### order -/
def dCmp (p : Int → Int → Bool) (r : Str → Str → Bool) : D → D → Option (Bool × D)
  | .int i, .int j => some (false, .bl (p i j))
  | .str a, .str b => some (false, .bl (r a b))
  | _, _ => none
theorem od_cmp {p : Int → Int → Bool} {r : Str → Str → Bool} : OpD w (fun x y H Q => (rI0 fun i j => .bl (p i j)) x y H Q ∨ (∃ i j, x = .str i ∧ y = .str j ∧ Q (.bl (r i j)) H)) (dCmp p r) := fun π B Z g σ H Q v u d e s h1 h2 q => by
  cases d <;> first | exact q.elim | skip
  · cases e <;> first | exact q.elim | skip
    exact .inl ⟨_, _, lk_int h1, lk_int h2, fin_d s q (.bl _)⟩
  · cases e <;> first | exact q.elim | skip
    exact .inr ⟨_, _, lk_str h1, lk_str h2, fin_d s q (.bl _)⟩
def dLt := dCmp (fun i j => decide (i < j)) fun a b => decide (a.cps.toList < b.cps.toList)
def dLe := dCmp (fun i j => decide (i ≤ j)) fun a b => !decide (b.cps.toList < a.cps.toList)
def dGt := dCmp (fun i j => decide (j < i)) fun a b => decide (b.cps.toList < a.cps.toList)
def dGe := dCmp (fun i j => decide (j ≤ i)) fun a b => !decide (a.cps.toList < b.cps.toList)
theorem op_ltU {X : Cx} : OpR X (compareOp .Lt) (fun x y H Q => (rI0 fun i j => .bl (decide (i < j))) x y H Q ∨ (∃ i j, x = .str i ∧ y = .str j ∧ Q (.bl (decide (i.cps.toList < j.cps.toList))) H)) := OpR.or op_lt op_lt_str
theorem op_leU {X : Cx} : OpR X (compareOp .LtE) (fun x y H Q => (rI0 fun i j => .bl (decide (i ≤ j))) x y H Q ∨ (∃ i j, x = .str i ∧ y = .str j ∧ Q (.bl (!decide (j.cps.toList < i.cps.toList))) H)) := OpR.or op_le op_le_str
theorem op_gtU {X : Cx} : OpR X (compareOp .Gt) (fun x y H Q => (rI0 fun i j => .bl (decide (j < i))) x y H Q ∨ (∃ i j, x = .str i ∧ y = .str j ∧ Q (.bl (decide (j.cps.toList < i.cps.toList))) H)) := OpR.or op_gt op_gt_str
theorem op_geU {X : Cx} : OpR X (compareOp .GtE) (fun x y H Q => (rI0 fun i j => .bl (decide (j ≤ i))) x y H Q ∨ (∃ i j, x = .str i ∧ y = .str j ∧ Q (.bl (!decide (i.cps.toList < j.cps.toList))) H)) := OpR.or op_ge op_ge_str
end
/-! ### equality -/
mutual
def D.py : D → PyData
  | .non => .none
  | .bl b => .bool b
  | .int i => .int i
  | .str x => .str x
  | .lst ds => .list (D.pys ds)
  | .scr ds => .list (D.pys ds)
  | .tup ds => .tuple (D.pys ds)
  | .dct kvs => .dict (D.pyk kvs)
  | .obj _ _ => .none
  | .cls _ => .none
def D.pys : List D → List PyData
  | [] => []
  | d :: ds => D.py d :: D.pys ds
def D.pyk : List (Key × D) → List (PyData × PyData)
  | [] => []
  | (k, d) :: ds => (R7.keyD k, D.py d) :: D.pyk ds
/-- no dict, no object within -/
def D.flat : D → Bool
  | .lst ds => D.flats ds
  | .scr ds => D.flats ds
  | .tup ds => D.flats ds
  | .dct _ => false
  | .obj _ _ => false
  | .cls _ => false
  | _ => true
def D.flats : List D → Bool
  | [] => true
  | d :: ds => D.flat d && D.flats ds
end
section
variable {w : WD} {W : WX} {π : Nat → V} {B B' B1 Z : Hp} {g : G} {σ : L2.St} {H H' : Hp} {v : V}
mutual
theorem Den.dp (s : Sub B H) : ∀ {v : V} {d : D}, Den w B v d → d.flat = true → Dp w.K H v d.py
  | _, _, .non, _ => .non
  | _, _, .bl b, _ => .bl b
  | _, _, .int i, _ => .int i
  | _, _, .str x, _ => .str x
  | _, _, .lst e r, h => .lst (.inl (.inl (s.at e rfl))) (Dens.dp s r h)
  | _, _, .scr e r, h => .lst (s.sqL e) (Dens.dp s r h)
  | _, _, .tup e r, h => .tup (s.sqT e) (Dens.dp s r h)
  | _, _, .dct _ _ _, h => nomatch h
  | _, _, .obj _ _ _, h => nomatch h
  | _, _, .cls _, h => nomatch h
theorem Dens.dp (s : Sub B H) : ∀ {vs : List V} {ds : List D}, Dens w B vs ds → D.flats ds = true → DpAll w.K H vs (D.pys ds)
  | _, _, .nil, _ => .nil
  | _, _, .cons r t, h => by
    unfold D.flats at h
    obtain ⟨h1, h2⟩ := Bool.and_eq_true_iff.mp h
    exact .cons (Den.dp s r h1) (Dens.dp s t h2)
end
theorem Lk.dp {d : D} (s : Sub B H) (h : Lk w B H v d) (f : d.flat = true) : Dp w.K H v d.py := by
  cases h with
  | den h => exact h.dp s f
  | own _ h =>
    cases h with
    | lst e r => exact .lst (.inl (.inl e)) (r.dp s f)
    | dct e l r => cases f
    | obj e l r => cases f
def D.cmpable (d : D) : Bool := d.flat && SeqAt.shaped d.py
def dEq (d e : D) : Option (Bool × D) := if (d.cmpable && e.cmpable) = true then some (false, .bl (PyData.eqv d.py e.py)) else none
def dNe (d e : D) : Option (Bool × D) := if (d.cmpable && e.cmpable) = true then some (false, .bl (!PyData.eqv d.py e.py)) else none
theorem od_eq : OpD w (rEqD w.K) dEq := fun π B Z g σ H Q v u d e s h1 h2 q => by
  unfold dEq at q
  split at q
  · rename_i hc
    unfold D.cmpable at hc
    simp only [Bool.and_eq_true] at hc
    exact ⟨d.py, e.py, h1.dp s.sub hc.1.1, h2.dp s.sub hc.2.1, hc.1.2, hc.2.2, fin_d s q (.bl _)⟩
  · exact q.elim
theorem od_ne : OpD w (rNeD w.K) dNe := fun π B Z g σ H Q v u d e s h1 h2 q => by
  unfold dNe at q
  split at q
  · rename_i hc
    unfold D.cmpable at hc
    simp only [Bool.and_eq_true] at hc
    exact ⟨d.py, e.py, h1.dp s.sub hc.1.1, h2.dp s.sub hc.2.1, hc.1.2, hc.2.2, fin_d s q (.bl _)⟩
  · exact q.elim
/-! ### subscripts, len -/
def dIx : D → D → Option (Bool × D)
  | .lst ds, .int i => (atI ds i).map fun d => (false, d)
  | .scr ds, .int i => (atI ds i).map fun d => (false, d)
  | .tup ds, .int i => (atI ds i).map fun d => (false, d)
  | .str z, .int i => if z.length ≤ sizeLine then (atI z.cps.toList i).map fun c => (false, .str ⟨#[c]⟩) else none
  | _, _ => none
theorem Dens.atI {xs : List V} {ds : List D} {i : Int} {d : D} (h : Dens w B xs ds) (e : atI ds i = some d) : ∃ v, L2.atI xs i = some v ∧ Den w B v d := by
  unfold L2.atI at e ⊢
  rw [h.len]
  cases hn : ixN ds.length i with
  | none => rw [hn] at e; cases e
  | some j =>
    rw [hn] at e
    exact h.get e
theorem od_ix : OpD w (rIx w.K) dIx := fun π B Z g σ H Q v u d e s h1 h2 q => by
  cases d <;> first | exact q.elim | skip
  all_goals (cases e <;> first | exact q.elim | skip)
  · rename_i z i
    unfold dIx at q
    simp only at q
    split at q
    · rename_i hz
      cases hc : L2.atI z.cps.toList i with
      | none => rw [hc] at q; exact q.elim
      | some c =>
        rw [hc] at q
        exact .inr (.inr ⟨z, i, c, lk_str h1, lk_int h2, hz, hc, fin_d s q (.str _)⟩)
    · exact q.elim
  · rename_i ds i
    obtain ⟨a, xs, rfl, ha, hx⟩ := lk_lst s.sub h1
    have q : PostF w π B Z g σ Q ((L2.atI ds i).map fun d => (false, d)) := q
    cases hc : L2.atI ds i with
    | none => rw [hc] at q; exact q.elim
    | some d =>
      rw [hc] at q
      obtain ⟨y, hy, hd⟩ := hx.atI hc
      exact .inl ⟨a, xs, i, y, rfl, lk_int h2, .inl (.inl ha), hy, fin_d s q hd⟩
  · rename_i ds i
    obtain ⟨a, xs, rfl, ha, hx⟩ := lk_scr s.sub h1
    have q : PostF w π B Z g σ Q ((L2.atI ds i).map fun d => (false, d)) := q
    cases hc : L2.atI ds i with
    | none => rw [hc] at q; exact q.elim
    | some d =>
      rw [hc] at q
      obtain ⟨y, hy, hd⟩ := hx.atI hc
      exact .inl ⟨a, xs, i, y, rfl, lk_int h2, ha, hy, fin_d s q hd⟩
  · rename_i ds i
    obtain ⟨a, xs, rfl, ha, hx⟩ := lk_tup s.sub h1
    have q : PostF w π B Z g σ Q ((L2.atI ds i).map fun d => (false, d)) := q
    cases hc : L2.atI ds i with
    | none => rw [hc] at q; exact q.elim
    | some d =>
      rw [hc] at q
      obtain ⟨y, hy, hd⟩ := hx.atI hc
      exact .inr (.inl ⟨a, xs, i, y, rfl, lk_int h2, ha, hy, fin_d s q hd⟩)
def dLen : List D → Option (Bool × D)
  | [.lst ds] => some (false, .int ds.length)
  | [.scr ds] => some (false, .int ds.length)
  | [.tup ds] => some (false, .int ds.length)
  | [.str z] => if z.length ≤ sizeLine then some (false, .int z.length) else none
  | _ => none
theorem cd_len : CallD w (fun xs H Q => ∃ x n, xs = [x] ∧ LenV w.K x H n ∧ Q (.int n) H) dLen := fun π B Z g σ H Q vs ds s h q => by
  cases h with
  | nil => exact q.elim
  | cons a t =>
    cases t with
    | cons _ _ => rename_i d _ _ _ _ _ _; cases d <;> exact q.elim
    | nil =>
      rename_i v d
      cases d <;> first | exact q.elim | skip
      · rename_i z
        unfold dLen at q
        simp only at q
        split at q
        · rename_i hz
          rw [lk_str a]
          exact ⟨_, z.length, rfl, ⟨hz, rfl⟩, fin_d s q (.int _)⟩
        · exact q.elim
      · obtain ⟨p, xs, rfl, hp, hx⟩ := lk_lst s.sub a
        exact ⟨_, xs.length, rfl, .inl ⟨xs, .inl (.inl hp), rfl⟩, by rw [hx.len]; exact fin_d s q (.int _)⟩
      · obtain ⟨p, xs, rfl, hp, hx⟩ := lk_scr s.sub a
        exact ⟨_, xs.length, rfl, .inl ⟨xs, hp, rfl⟩, by rw [hx.len]; exact fin_d s q (.int _)⟩
      · obtain ⟨p, xs, rfl, hp, hx⟩ := lk_tup s.sub a
        exact ⟨_, xs.length, rfl, .inr ⟨xs, hp, rfl⟩, by rw [hx.len]; exact fin_d s q (.int _)⟩
end
end M7
namespace M7
open PySem PySem.Spec PyProof.Rows L2
section
variable {w : WD} {W : WX} {π : Nat → V} {B B' B1 Z : Hp} {g : G} {σ : L2.St} {H H' : Hp} {v : V}
/-! ### displays: the items are data -/
def datas : List Ref → Option (List D)
  | [] => some []
  | .dt d :: rs => (datas rs).map (d :: ·)
  | .sl _ :: _ => none
theorem RefsOk.datas {vs : List V} {rs : List Ref} (h : RefsOk w B σ vs rs) : ∀ {ds : List D}, datas rs = some ds → Dens w B vs ds := by
  induction h with
  | nil =>
    intro ds e
    cases e
    exact .nil
  | cons a t ih =>
    rename_i v vs r rs
    intro ds e
    cases r with
    | sl i => cases e
    | dt d =>
      unfold M7.datas at e
      cases hd : M7.datas rs with
      | none => rw [hd] at e; cases e
      | some ds' =>
        rw [hd] at e
        cases e
        exact .cons a (ih hd)
def sized (n : Nat) (x : O (Bool × D)) : O (Bool × D) := if n ≤ sizeLine then x else .fail
def seLst (sa : SA) : SE := fun g => (sa g).bind fun rs g1 => match datas rs with
  | some ds => sized ds.length (.ok (true, .lst ds) g1)
  | none => .fail
def seTup (sa : SA) : SE := fun g => (sa g).bind fun rs g1 => match datas rs with
  | some ds => sized ds.length (.ok (false, .tup ds) g1)
  | none => .fail
theorem re_lst {ta : TA} {sa : SA} (h : RA w W ta sa) : RE w W (tLst ta) (seLst sa) := fun π B Z g σ H Q s q =>
  h π B Z g σ H _ s (tailE.bA q fun rs g1 vs B1 H1 e1 s1 r1 q1 => by
    split at q1
    · rename_i ds hd
      unfold sized at q1
      split at q1
      · rename_i hz
        have dn := r1.datas hd
        exact ⟨by rw [dn.len]; exact hz, fun p hp => fin_L (Q := Q) s1 q1 dn hp⟩
      · exact q1.elim
    · exact q1.elim)
theorem re_tup {ta : TA} {sa : SA} (h : RA w W ta sa) : RE w W (tTup ta) (seTup sa) := fun π B Z g σ H Q s q =>
  h π B Z g σ H _ s (tailE.bA q fun rs g1 vs B1 H1 e1 s1 r1 q1 => by
    split at q1
    · rename_i ds hd
      unfold sized at q1
      split at q1
      · rename_i hz
        have dn := r1.datas hd
        exact ⟨by rw [dn.len]; exact hz, fun p hp => fin_T (Q := Q) s1 q1 dn hp⟩
      · exact q1.elim
    · exact q1.elim)
/-! ### slices -/
def cutD (ds : List D) (lo hi : Option Int) : List D := (ds.drop (HT.sIx ds.length 0 lo)).take (HT.sIx ds.length ds.length hi - HT.sIx ds.length 0 lo)
theorem Dens.cut {xs : List V} {ds : List D} (h : Dens w B xs ds) (lo hi : Option Int) : Dens w B (cutV xs lo hi) (cutD ds lo hi) := by
  unfold cutV cutD
  rw [h.len]
  exact (h.drop _).take _
def dSl : D → Option Int → Option Int → Option (Bool × D)
  | .lst ds, lo, hi => some (true, .lst (cutD ds lo hi))
  | .tup ds, lo, hi => some (false, .tup (cutD ds lo hi))
  | .str z, lo, hi => if z.length ≤ sizeLine then some (false, .str (cutS z lo hi)) else none
  | _, _, _ => none
def rSlU (K : PySem.W.Frag) : V → Option Int → Option Int → Hp → VK → Prop := fun x lo hi H Q => rSlL K x lo hi H Q ∨ (fun x lo hi H Q => rSlA K x lo hi H Q ∨ rSlS x lo hi H Q) x lo hi H Q
theorem sl_U {X : Cx} : SlR X (rSlU X.K) := SlR.or sl_list (SlR.or sl_tupA sl_str)
def SlD (w : WD) (r : V → Option Int → Option Int → Hp → VK → Prop) (f : D → Option Int → Option Int → Option (Bool × D)) : Prop := ∀ π B Z g σ H Q v d lo hi, Sat w π B Z g σ H → Lk w B H v d → PostF w π B Z g σ Q (f d lo hi) → r v lo hi H Q
theorem cut_all {ds : List D} {lo hi : Option Int} (h : HT.sIx ds.length 0 lo = 0 ∧ HT.sIx ds.length ds.length hi = ds.length) : cutD ds lo hi = ds := by
  unfold cutD
  rw [h.1, h.2, List.drop_zero, Nat.sub_zero, List.take_length]
theorem sd_U : SlD w (rSlU w.K) dSl := fun π B Z g σ H Q v d lo hi s h q => by
  cases d <;> first | exact q.elim | skip
  · rename_i z
    unfold dSl at q
    simp only at q
    split at q
    · rename_i hz
      exact .inr (.inr ⟨z, lk_str h, hz, fin_d s q (.str _)⟩)
    · exact q.elim
  · obtain ⟨a, xs, rfl, ha, hx⟩ := lk_lst s.sub h
    exact .inl ⟨a, xs, rfl, .inl (.inl ha), fun p hp => fin_L s q (hx.cut lo hi) hp⟩
  · obtain ⟨a, xs, rfl, ha, hx⟩ := lk_tup s.sub h
    refine .inr (.inl ⟨a, xs, rfl, ha, fun e => ?_, fun _ p hp => fin_T s q (hx.cut lo hi) hp⟩)
    rw [hx.len] at e
    have q : PostF w π B Z g σ Q (some (false, .tup (cutD _ lo hi))) := q
    rw [cut_all e] at q
    exact fin_d s q (lk_den_tup h)
def soNone : SO := fun g => .ok none g
def soSome (se : SE) : SO := fun g => (se g).bind fun r g1 => match r.2 with
  | .int i => .ok (some i) g1
  | _ => .fail
theorem ro_none : RO w W tNoPart soNone := fun π B Z g σ H Q s q => q B H (Ext.refl _) s
theorem res_int {o : Bool} {i : Int} (r : Res w B Z g σ H v o (.int i)) : v = .int i := by
  cases o with
  | false =>
    have r : Den w B v (.int i) := r
    cases r
    rfl
  | true =>
    obtain ⟨a, _, _, _, ho, _⟩ := r
    cases ho
theorem ro_some {te : TE} {se : SE} (h : RE w W te se) : RO w W (tPart te) (soSome se) := fun π B Z g σ H Q s q =>
  h π B Z g σ H _ s (tailL.bE q fun o d g1 v B1 H1 e s1 r q1 => by
    cases d with
    | int i => exact ⟨i, res_int r, q1 B1 H1 (Ext.refl _) s1⟩
    | _ => exact q1.elim)
def seSl (f : D → Option Int → Option Int → Option (Bool × D)) (sb : SB) (lo hi : SO) : SE := fun g => (sb g).bind fun r g1 => (lo g1).bind fun l g2 => (hi g2).bind fun u g3 => match r.get g3 with
  | some d => ofOpt g3 (f d l u)
  | none => .fail
theorem re_sl {r : V → Option Int → Option Int → Hp → VK → Prop} {f : D → Option Int → Option Int → Option (Bool × D)} {te : TE} {tl th : TO} {sb : SB} {lo hi : SO} (hf : SlD w r f) (h : RB w W te sb) (h1 : RO w W tl lo) (h2 : RO w W th hi) : RE w W (tSl r te tl th) (seSl f sb lo hi) := fun π B Z g σ H Q s q =>
  h π B Z g σ H _ s (tailE.bB q fun a g1 v B1 H1 e1 s1 r1 q1 => h1 π B1 Z g1 σ H1 _ s1 (tailE.bL q1 fun l g2 B2 H2 e2 s2 q2 => h2 π B2 Z g2 σ H2 _ s2 (tailE.bL q2 fun u g3 B3 H3 e3 s3 q3 => by
    split at q3
    · rename_i d hd
      exact hf π B3 Z g3 σ H3 Q v d l u s3 (s3.lk (r1.mono (e2.trans e3)) hd) (postE_opt q3)
    · exact q3.elim)))
/-! ### an own object of a name is changed by a method -/
/-- what a method makes of the object and its arguments: what it returns, what the object is then -/
def MutD (w : WD) (r : V → List V → Hp → VK → Prop) (f : D → List D → Option (D × D)) : Prop := ∀ B H a d vs ds (Q : VK), Sub B H → Own w B H a d → Lks w B H vs ds →
  (match f d ds with
    | some (res, d') => ∀ v o, Own w B (upd H a o) a d' → Den w B v res → Q v (upd H a o)
    | none => False) → r (.ref a) vs H Q
/-- .. whose arguments become part of it -/
def MutV (w : WD) (r : V → List V → Hp → VK → Prop) (f : D → List D → Option (D × D)) : Prop := ∀ B H a d vs ds (Q : VK), Sub B H → Own w B H a d → Dens w B vs ds →
  (match f d ds with
    | some (res, d') => ∀ v o, Own w B (upd H a o) a d' → Den w B v res → Q v (upd H a o)
    | none => False) → r (.ref a) vs H Q
def ownAt (g : G) (i : Nat) : Option (Fl × D) := match g[i]? with
  | some (some (c, d)) => if c.own = true then some (c, d) else none
  | _ => none
theorem ownAt_some {i : Nat} {c : Fl} {d : D} (h : ownAt g i = some (c, d)) : g[i]? = some (some (c, d)) ∧ c.own = true := by
  unfold ownAt at h
  split at h
  · rename_i c' d' e
    split at h
    · rename_i ho
      cases h
      exact ⟨e, ho⟩
    · cases h
  · cases h
def isLst : D → Bool
  | .lst _ => true
  | _ => false
def isDct : D → Bool
  | .dct _ => true
  | _ => false
def seMut (ty : D → Bool) (i : Nat) (sel : G → List Ref → Option (List D)) (f : D → List D → Option (D × D)) (sa : SA) : SE := fun g => match ownAt g i with
  | some (_, d0) => if ty d0 = true then (sa g).bind fun rs g1 => match ownAt g1 i, sel g1 rs with
    | some (c, d), some ds => match f d ds with
      | some (res, d') => .ok (false, res) (g1.set i (some (c, d')))
      | none => .fail
    | _, _ => .fail else .fail
  | none => .fail
def seMutD (ty : D → Bool) (i : Nat) (f : D → List D → Option (D × D)) (sa : SA) : SE := seMut ty i refsGet f sa
def seMutV (ty : D → Bool) (i : Nat) (f : D → List D → Option (D × D)) (sa : SA) : SE := seMut ty i (fun _ => datas) f sa
theorem own_list {a : Addr} {d : D} (h : Own w B H a d) (t : isLst d = true) : tyV w.K "list" (.ref a) H := by
  cases h with
  | lst e r => exact .inl ⟨rfl, _, .inl (.inl e)⟩
  | dct => cases t
  | obj => cases t
theorem own_dict {a : Addr} {d : D} (h : Own w B H a d) (t : isDct d = true) : tyV w.K "dict" (.ref a) H := by
  cases h with
  | dct e _ r => exact .inr (.inr (.inl ⟨rfl, .inl ⟨_, e⟩⟩))
  | lst => cases t
  | obj => cases t
theorem re_mutD {ty : D → Bool} {T : String} {i : Nat} {r : V → List V → Hp → VK → Prop} {f : D → List D → Option (D × D)} {ta : TA} {sa : SA} (hT : ∀ B H a d, Own w B H a d → ty d = true → tyV w.K T (.ref a) H) (hf : MutD w r f) (h : RA w W ta sa) :
    RE w W (tBM w.K T r (tVar i) ta) (seMutD ty i f sa) := fun π B Z g σ H Q s q => by
  unfold seMutD seMut at q
  split at q
  · rename_i c0 d0 e0
    obtain ⟨e0, o0⟩ := ownAt_some e0
    split at q
    · rename_i ht
      obtain ⟨a, h1, h2, h3, h4⟩ := s.ow i c0 d0 e0 o0
      refine ⟨.ref a, h1, hT B H a d0 h4 ht, h π B Z g σ H _ s (tailE.bA q fun rs g1 vs B1 H1 e1 s1 r1 q1 => ?_)⟩
      split at q1
      · rename_i c d ds k1 k2
        obtain ⟨k1, o1⟩ := ownAt_some k1
        obtain ⟨a', m1, m2, m3, m4⟩ := s1.ow i c d k1 o1
        rw [h1] at m1
        cases m1
        refine hf B1 H1 a d vs ds Q s1.sub m4 (s1.lks r1 k2) ?_
        split at q1
        · exact fun v o n dn => q1 v B1 _ (Ext.refl _) (s1.write k1 o1 h1 n) dn
        · exact q1.elim
      · exact q1.elim
    · exact q.elim
  · exact q.elim
theorem re_mutV {ty : D → Bool} {T : String} {i : Nat} {r : V → List V → Hp → VK → Prop} {f : D → List D → Option (D × D)} {ta : TA} {sa : SA} (hT : ∀ B H a d, Own w B H a d → ty d = true → tyV w.K T (.ref a) H) (hf : MutV w r f) (h : RA w W ta sa) :
    RE w W (tBM w.K T r (tVar i) ta) (seMutV ty i f sa) := fun π B Z g σ H Q s q => by
  unfold seMutV seMut at q
  split at q
  · rename_i c0 d0 e0
    obtain ⟨e0, o0⟩ := ownAt_some e0
    split at q
    · rename_i ht
      obtain ⟨a, h1, h2, h3, h4⟩ := s.ow i c0 d0 e0 o0
      refine ⟨.ref a, h1, hT B H a d0 h4 ht, h π B Z g σ H _ s (tailE.bA q fun rs g1 vs B1 H1 e1 s1 r1 q1 => ?_)⟩
      split at q1
      · rename_i c d ds k1 k2
        obtain ⟨k1, o1⟩ := ownAt_some k1
        obtain ⟨a', m1, m2, m3, m4⟩ := s1.ow i c d k1 o1
        rw [h1] at m1
        cases m1
        refine hf B1 H1 a d vs ds Q s1.sub m4 (r1.datas k2) ?_
        split at q1
        · exact fun v o n dn => q1 v B1 _ (Ext.refl _) (s1.write k1 o1 h1 n) dn
        · exact q1.elim
      · exact q1.elim
    · exact q.elim
  · exact q.elim
/-- append -/
def fAppend : D → List D → Option (D × D)
  | .lst ds, [d] => if ds.length < sizeLine then some (.non, .lst (ds ++ [d])) else none
  | _, _ => none
theorem mv_append : MutV w rAppend fAppend := fun B H a d vs ds Q s ho hd q => by
  cases hd with
  | nil => cases ho <;> exact q.elim
  | cons r t =>
    cases t with
    | cons _ _ => cases ho <;> exact q.elim
    | nil =>
      cases ho with
      | dct => exact q.elim
      | obj => exact q.elim
      | lst e hx =>
        rename_i v d xs es
        unfold fAppend at q
        simp only at q
        split at q
        · rename_i res d' hq
          split at hq
          · rename_i hz
            cases hq
            exact ⟨a, xs, v, rfl, rfl, e, by rw [hx.len]; exact hz, q .non _ (.lst upd_same (hx.app (.cons r .nil))) .non⟩
          · cases hq
        · exact q.elim
/-- extend -/
def fExtend : D → List D → Option (D × D)
  | .lst ds, [.lst es] => if ds.length + es.length ≤ sizeLine then some (.non, .lst (ds ++ es)) else none
  | _, _ => none
theorem md_extend : MutD w rExtend fExtend := fun B H a d vs ds Q s ho hd q => by
  cases hd with
  | nil => cases ho <;> exact q.elim
  | cons r t =>
    rename_i v vs d' ds
    cases t with
    | cons _ _ => cases ho <;> cases d' <;> exact q.elim
    | nil =>
      cases ho with
      | dct => cases d' <;> exact q.elim
      | obj => cases d' <;> exact q.elim
      | lst e hx =>
        rename_i xs es
        cases d' <;> first | exact q.elim | skip
        obtain ⟨b, ys, rfl, hb, hy⟩ := lk_lst s r
        unfold fExtend at q
        simp only at q
        split at q
        · rename_i res d' hq
          split at hq
          · rename_i hz
            cases hq
            exact ⟨a, b, xs, ys, rfl, rfl, e, hb, by rw [hx.len, hy.len]; exact hz, q .non _ (.lst upd_same (hx.app hy)) .non⟩
          · cases hq
        · exact q.elim
/-- pop(i) -/
def fPopAt : D → List D → Option (D × D)
  | .lst ds, [.int i] => if -(2 ^ 63) ≤ i ∧ i < 2 ^ 63 then (match seqIndex? i ds.length with
    | some k => match ds[k]? with
      | some d => some (d, .lst (ds.eraseIdx k))
      | none => none
    | none => none) else none
  | _, _ => none
theorem Dens.erase : ∀ {vs : List V} {ds : List D} (n : Nat), Dens w B vs ds → Dens w B (vs.eraseIdx n) (ds.eraseIdx n)
  | _, _, _, .nil => .nil
  | _, _, 0, .cons _ t => t
  | _, _, n + 1, .cons r t => .cons r (t.erase n)
theorem md_popAt : MutD w rPopAt fPopAt := fun B H a d vs ds Q s ho hd q => by
  cases hd with
  | nil => cases ho <;> exact q.elim
  | cons r t =>
    rename_i v vs d' ds
    cases t with
    | cons _ _ => cases ho <;> cases d' <;> exact q.elim
    | nil =>
      cases ho with
      | dct => cases d' <;> exact q.elim
      | obj => cases d' <;> exact q.elim
      | lst e hx =>
        rename_i xs es
        cases d' <;> first | exact q.elim | skip
        rename_i i
        unfold fPopAt at q
        simp only at q
        split at q
        · rename_i res d' hq
          split at hq
          · rename_i hi
            split at hq
            · rename_i k hk
              split at hq
              · rename_i d hd
                cases hq
                obtain ⟨y, hy, dy⟩ := hx.get hd
                exact ⟨a, xs, i, k, y, rfl, by rw [lk_int r], e, hi.1, hi.2, by rw [hx.len]; exact hk, hy, q y _ (.lst upd_same (hx.erase k)) dy⟩
              · cases hq
            · cases hq
          · cases hq
        · exact q.elim
/-- x[i] = e, x a name with a list of one's own -/
def ssSetL (i : Nat) (sv : SE) (si : SE) : SS := fun g => ofO (sv g) fun r g1 => match ownAt g1 i with
  | some _ => ofO (si g1) fun k g2 => match ownAt g2 i, k.2 with
    | some (c, .lst ds), .int j => match ixN ds.length j with
      | some n => .nx (g2.set i (some (c, .lst (ds.set n r.2))))
      | none => .fail
    | _, _ => .fail
  | none => .fail
theorem rs_setL {i : Nat} {tv ti : TE} {sv si : SE} (hv : RE w W tv sv) (hi : RE w W ti si) : RS w W (tAsg tv (gSub (tVar i) ti rSetL)) (ssSetL i sv si) := fun π B Z g σ H D s q =>
  hv π B Z g σ H _ s (postS_E q fun o d g1 v B1 H1 e1 s1 r q1 => by
    obtain ⟨B2, e2, s2, hd⟩ := r.freeze s1
    split at q1
    · rename_i x e0
      obtain ⟨c0, d0⟩ := x
      obtain ⟨e0, o0⟩ := ownAt_some e0
      obtain ⟨a, h1, h2, h3, h4⟩ := s2.ow i c0 d0 e0 o0
      refine ⟨.ref a, h1, hi π B2 Z g1 σ H1 _ s2 (postS_E (q1.mono e2) fun o' k g2 u B3 H3 e3 s3 r3 q3 => ?_)⟩
      split at q3
      · rename_i c ds j k1 hj
        obtain ⟨k1, o1⟩ := ownAt_some k1
        obtain ⟨a', m1, m2, m3, m4⟩ := s3.ow i c _ k1 o1
        rw [h1] at m1
        cases m1
        split at q3
        · rename_i n hn
          cases m4 with
          | lst e hx =>
            rename_i xs
            have hj : k = .int j := hj
            subst hj
            refine ⟨a, xs, j, n, rfl, res_int r3, e, by rw [hx.len]; exact hn, q3 B3 _ σ (Ext.refl _) (s3.write k1 o1 h1 (.lst upd_same (hx.set n (hd.mono e3))))⟩
        · exact q3.elim
      · exact q3.elim
    · exact q1.elim)
end
end M7
namespace M7
open PySem PySem.Spec PyProof.Rows L2
section
variable {w : WD} {W : WX} {π : Nat → V} {B B' B1 Z : Hp} {g : G} {σ : L2.St} {H H' : Hp} {v : V}
/-! ### what a loop walks -/
theorem walks_of {J : It} {n : Nat} {Gd : Hp → Prop} {Y : Nat → Hp → V → Hp → Prop} {ds : List D} (wk : Walk J n Gd Y) (hn : n = ds.length) (hg : ∀ B1 H, Ext B B1 → Sub B1 H → Gd H)
    (hy : ∀ B1 i d H x H', Ext B B1 → Sub B1 H → ds[i]? = some d → Y i H x H' → Ext H H' ∧ ∃ B2, Ext B1 B2 ∧ Sub B2 H' ∧ (∀ a o, H a = some o → B1 a = none → B2 a = none) ∧ Den w B2 x d) : Walks w B J ds := by
  subst hn
  refine ⟨fun B1 H e s => wk.stops H (hg B1 H e s), fun B1 H i d e s q => wk.goes i H (List.getElem?_eq_some_iff.mp q).1 (hg B1 H e s), fun B1 H i d x H' e s q y => ?_⟩
  exact hy B1 i d H x H' e s q (wk.yields i H x H' (List.getElem?_eq_some_iff.mp q).1 (hg B1 H e s) y)
/-- an item that stands as it is -/
theorem yat {xs : List V} {ds : List D} (hx : Dens w B xs ds) : ∀ B1 (i : Nat) (d : D) (H : Hp) (x : V) (H' : Hp), Ext B B1 → Sub B1 H → ds[i]? = some d → YAt xs i H x H' → Ext H H' ∧ ∃ B2, Ext B1 B2 ∧ Sub B2 H' ∧ (∀ a o, H a = some o → B1 a = none → B2 a = none) ∧ Den w B2 x d := fun B1 i d H x H' e s q y => by
  obtain ⟨rfl, y⟩ := y
  obtain ⟨v, h1, h2⟩ := hx.get q
  rw [y] at h1
  cases h1
  exact ⟨Ext.refl _, B1, Ext.refl _, s, fun _ _ _ z => z, h2.mono e⟩
/-- a new pair -/
theorem ypair {xs ys : Nat → Option V} {ds es : Nat → Option D} (hx : ∀ i d, ds i = some d → ∃ v, xs i = some v ∧ Den w B v d) (hy : ∀ i d, es i = some d → ∃ v, ys i = some v ∧ Den w B v d) : ∀ B1 (i : Nat) (d e : D) (H : Hp) (x : V) (H' : Hp), Ext B B1 → Sub B1 H → ds i = some d → es i = some e → YPair xs ys i H x H' →
    Ext H H' ∧ ∃ B2, Ext B1 B2 ∧ Sub B2 H' ∧ (∀ a o, H a = some o → B1 a = none → B2 a = none) ∧ Den w B2 x (.tup [d, e]) := fun B1 i d e H x H' ex s q1 q2 y => by
  obtain ⟨T, u, v, rfl, hT, rfl, h1, h2⟩ := y
  obtain ⟨u', k1, k2⟩ := hx i d q1
  obtain ⟨v', k3, k4⟩ := hy i e q2
  rw [h1] at k1
  cases k1
  rw [h2] at k3
  cases k3
  have hB : B1 T = none := s.none hT
  refine ⟨Ext.new hT, upd B1 T (.tup [u, v]), Ext.new hB, (s.same (Ext.new hT)).upd upd_same, fun a o z n => ?_, .tup (.inl (.inl upd_same)) (.cons ((k2.mono ex).mono (Ext.new hB)) (.cons ((k4.mono ex).mono (Ext.new hB)) .nil))⟩
  rw [upd_ne (ne_of_none z hT)]
  exact n
def chars (z : Str) : List D := z.cps.toList.map fun c => .str ⟨#[c]⟩
def itemsOf : D → Option (List D)
  | .lst ds => some ds
  | .scr ds => some ds
  | .tup ds => some ds
  | .str z => some (chars z)
  | _ => none
def siOf (se : SE) : SI := fun g => (se g).bind fun r g1 => match itemsOf r.2 with
  | some ds => .ok ds g1
  | none => .fail
def iU (K : PySem.W.Frag) (te : TE) : TI := fun σ H R => iList K te σ H R ∨ iTup K te σ H R ∨ iStr te σ H R
theorem pi_U {X : Cx} {tg e : Expr} {te : TE} (h : PE X e te) : PI X tg e (iU X.K te) := ⟨fun pins s σ H R I q => by
  rcases q with q | q | q
  · exact (pi_list h).run pins s σ H R I q
  · exact (pi_tup h).run pins s σ H R I q
  · exact (pi_str h).run pins s σ H R I q⟩
theorem chars_get {z : Str} {i : Nat} {d : D} (h : (chars z)[i]? = some d) : ∃ c, z.cps[i]? = some c ∧ d = .str ⟨#[c]⟩ := by
  unfold chars at h
  rw [List.getElem?_map] at h
  cases e : z.cps.toList[i]? with
  | none => rw [e] at h; cases h
  | some c =>
    rw [e] at h
    cases h
    rw [Array.getElem?_toList] at e
    exact ⟨c, e, rfl⟩
theorem ri_U {te : TE} {se : SE} (h : RE w W te se) : RI w W (iU w.K te) (siOf se) := fun π B Z g σ H R s q => by
  unfold siOf at q
  cases e : se g with
  | fail => rw [e] at q; exact q.elim
  | ex x f g1 =>
    rw [e] at q
    exact .inl (h π B Z g σ H _ s (by rw [e]; exact q))
  | ok r g1 =>
    obtain ⟨o, d⟩ := r
    rw [e] at q
    have q : PostI w W π B Z σ R (match itemsOf d with
      | some ds => .ok ds g1
      | none => .fail) := q
    cases d with
    | lst ds =>
      refine .inl (h π B Z g σ H _ s ?_)
      rw [e]
      intro v B1 H1 e1 s1 r1
      obtain ⟨B2, e2, s2, hd⟩ := r1.freeze s1
      obtain ⟨a, xs, rfl, ha, hx⟩ := lk_lst s2.sub (.den hd)
      refine ⟨a, rfl, ⟨xs, .inl (.inl ha)⟩, q _ B2 H1 (e1.trans e2) s2 ?_⟩
      cases hd with
      | lst hb hx' => exact walks_of (walk_list (xs := _)) hx'.len (fun B3 H3 e3 s3 => .inl (.inl (s3.at (e3 _ _ hb) rfl))) (yat hx')
    | scr ds =>
      refine .inl (h π B Z g σ H _ s ?_)
      rw [e]
      intro v B1 H1 e1 s1 r1
      obtain ⟨B2, e2, s2, hd⟩ := r1.freeze s1
      obtain ⟨a, xs, rfl, ha, hx⟩ := lk_scr s2.sub (.den hd)
      refine ⟨a, rfl, ⟨xs, ha⟩, q _ B2 H1 (e1.trans e2) s2 ?_⟩
      cases hd with
      | scr hb hx' => exact walks_of (walk_list (xs := _)) hx'.len (fun B3 H3 e3 s3 => s3.sqL (e3.sqL hb)) (yat hx')
    | tup ds =>
      refine .inr (.inl (h π B Z g σ H _ s ?_))
      rw [e]
      intro v B1 H1 e1 s1 r1
      obtain ⟨B2, e2, s2, hd⟩ := r1.freeze s1
      obtain ⟨a, xs, rfl, ha, hx⟩ := lk_tup s2.sub (.den hd)
      refine ⟨a, rfl, ⟨xs, ha⟩, q _ B2 H1 (e1.trans e2) s2 ?_⟩
      cases hd with
      | tup hb hx' => exact walks_of (walk_tup (xs := _)) hx'.len (fun B3 H3 e3 s3 => s3.sqT (e3.sqT hb)) (yat hx')
    | str z =>
      refine .inr (.inr (h π B Z g σ H _ s ?_))
      rw [e]
      intro v B1 H1 e1 s1 r1
      obtain ⟨B2, e2, s2, hd⟩ := r1.freeze s1
      refine ⟨z, lk_str (H := H1) (.den hd), q _ B2 H1 (e1.trans e2) s2 ?_⟩
      refine walks_of walk_str (by unfold chars; rw [List.length_map, Array.length_toList]) (fun _ _ _ _ => True.intro) fun B3 i d H3 x H4 e3 s3 q3 y => ?_
      obtain ⟨rfl, c, hc, rfl⟩ := y
      obtain ⟨c', hc', rfl⟩ := chars_get q3
      rw [hc] at hc'
      cases hc'
      exact ⟨Ext.refl _, B3, Ext.refl _, s3, fun _ _ _ n => n, .str _⟩
    | _ => exact q.elim
/-- range -/
def rangeD (lo : Int) (n : Nat) : List D := (List.range n).map fun i : Nat => D.int (lo + (i : Int))
theorem rangeD_get {lo : Int} {n i : Nat} {d : D} (h : (rangeD lo n)[i]? = some d) : d = .int (lo + (i : Int)) := by
  unfold rangeD at h
  rw [List.getElem?_map] at h
  cases e : (List.range n)[i]? with
  | none => rw [e] at h; cases h
  | some j =>
    rw [e] at h
    cases h
    have := List.getElem?_eq_some_iff.mp e
    obtain ⟨h1, h2⟩ := this
    rw [List.getElem_range] at h2
    rw [h2]
theorem walks_range {lo : Int} {n : Nat} : Walks w B (Itr lo n) (rangeD lo n) :=
  walks_of walk_range (by unfold rangeD; rw [List.length_map, List.length_range]) (fun _ _ _ _ => True.intro) fun B3 i d H3 x H4 e3 s3 q3 y => by
    obtain ⟨rfl, rfl⟩ := y
    rw [rangeD_get q3]
    exact ⟨Ext.refl _, B3, Ext.refl _, s3, fun _ _ _ n => n, .int _⟩
def rg1 : List D → Option (List D)
  | [.int j] => if -(2 ^ 62) ≤ j ∧ j < 2 ^ 62 then some (rangeD 0 j.toNat) else none
  | _ => none
def rg2 : List D → Option (List D)
  | [.int i, .int j] => if -(2 ^ 62) ≤ i ∧ i < 2 ^ 62 ∧ -(2 ^ 62) ≤ j ∧ j < 2 ^ 62 then some (rangeD i (j - i).toNat) else none
  | _ => none
def siA (f : List D → Option (List D)) (sa : SA) : SI := fun g => (sa g).bind fun rs g1 => match refsGet g1 rs with
  | some ds => match f ds with
    | some es => .ok es g1
    | none => .fail
  | none => .fail
theorem Tail.bAI {x : O (List Ref)} {k : List Ref → G → O (List D)} {R : It → Hp → Prop} {Q1 : List V → Hp → Prop} (h : PostI w W π B Z σ R (x.bind k))
    (K : ∀ r g1 v B1 H1, Ext B B1 → Sat w π B1 Z g1 σ H1 → RefsOk w B1 σ v r → PostI w W π B1 Z σ R (k r g1) → Q1 v H1) : PostA w W π B Z σ Q1 x := by
  cases x with
  | ok a g1 =>
    intro v B1 H1 e s r
    refine K a g1 v B1 H1 e s r ?_
    have h : PostI w W π B Z σ R (k a g1) := h
    cases hk : k a g1 with
    | ok ds g2 => rw [hk] at h; exact fun J B2 H2 e2 => h J B2 H2 (e.trans e2)
    | ex x f g2 => rw [hk] at h; exact PostX.mono e h
    | fail => rw [hk] at h; exact h
  | ex x f g => exact h
  | fail => exact h
theorem lks1 {vs : List V} {d : D} (h : Lks w B H vs [d]) : ∃ v, vs = [v] ∧ Lk w B H v d := by
  cases h with
  | cons a t => cases t; exact ⟨_, rfl, a⟩
theorem lks2 {vs : List V} {d e : D} (h : Lks w B H vs [d, e]) : ∃ v u, vs = [v, u] ∧ Lk w B H v d ∧ Lk w B H u e := by
  cases h with
  | cons a t =>
    obtain ⟨u, rfl, h⟩ := lks1 t
    exact ⟨_, _, rfl, a, h⟩
theorem ri_range1 {ta : TA} {sa : SA} (h : RA w W ta sa) : RI w W (iRng1 ta) (siA rg1 sa) := fun π B Z g σ H R s q =>
  h π B Z g σ H _ s (Tail.bAI q fun rs g1 vs B1 H1 e1 s1 r1 q1 => by
    split at q1
    · rename_i ds hr
      have hl := s1.lks r1 hr
      split at q1
      · rename_i es he
        unfold rg1 at he
        split at he
        · rename_i j
          split at he
          · rename_i hj
            cases he
            obtain ⟨v, rfl, hv⟩ := lks1 hl
            exact ⟨j, by rw [lk_int hv], hj.1, hj.2, q1 _ B1 H1 (Ext.refl _) s1 walks_range⟩
          · cases he
        · cases he
      · exact q1.elim
    · exact q1.elim)
theorem ri_range2 {ta : TA} {sa : SA} (h : RA w W ta sa) : RI w W (iRng2 ta) (siA rg2 sa) := fun π B Z g σ H R s q =>
  h π B Z g σ H _ s (Tail.bAI q fun rs g1 vs B1 H1 e1 s1 r1 q1 => by
    split at q1
    · rename_i ds hr
      have hl := s1.lks r1 hr
      split at q1
      · rename_i es he
        unfold rg2 at he
        split at he
        · rename_i i j
          split at he
          · rename_i hj
            cases he
            obtain ⟨v, u, rfl, hv, hu⟩ := lks2 hl
            exact ⟨i, j, by rw [lk_int hv, lk_int hu], hj, q1 _ B1 H1 (Ext.refl _) s1 walks_range⟩
          · cases he
        · cases he
      · exact q1.elim
    · exact q1.elim)
end
end M7
/-! Pieces of syntax over families of contexts: what they do to data. -/
namespace M7
open PySem PySem.Spec PyProof.Rows L2
section
variable {ι : Type} (XS : ι → Cx) (w : WD) (W : WX)
def DE (e : Expr) (se : SE) : Prop := ∃ t, (∀ i, PE (XS i) e t) ∧ RE w W t se
def DB (e : Expr) (sb : SB) : Prop := ∃ t, (∀ i, PE (XS i) e t) ∧ RB w W t sb
def DT (e : Expr) (st : ST) : Prop := ∃ t, (∀ i, PT (XS i) e t) ∧ RT w W t st
def DW (e : Expr) (st : ST) : Prop := ∃ t, (∀ i, PW (XS i) e t) ∧ RT w W t st
def DTs (es : List Expr) (st : ST) : Prop := ∃ t, (∀ i, PTs (XS i) es t) ∧ RT w W t st
def DA (es : List Expr) (sa : SA) : Prop := ∃ t, (∀ i, PA (XS i) es t) ∧ RA w W t sa
def DO (e : Option Expr) (so : SO) : Prop := ∃ t, (∀ i, PO (XS i) e t) ∧ RO w W t so
def DI (tg e : Expr) (si : SI) : Prop := ∃ t, (∀ i, PI (XS i) tg e t) ∧ RI w W t si
def DG (vs : List Nat) (e : Expr) (sg : SG) : Prop := ∃ t, (∀ i, PG (XS i) e t) ∧ RG w t sg ∧ Wipes t vs
def DGs (vs : List Nat) (es : List Expr) (sg : SGs) : Prop := ∃ t, (∀ i, PGs (XS i) es t) ∧ RGs w t sg ∧ WipesS t vs ∧ ∀ i, (assignEach es (XS i).env).length = es.length
def DS (st : Stmt) (ss : SS) : Prop := ∃ t, (∀ i, PS (XS i) st t) ∧ RS w W t ss
def DSs (sts : List Stmt) (ss : SS) : Prop := ∃ t, (∀ i, PSs (XS i) sts t) ∧ RS w W t ss
end
section
variable {ι : Type} {XS : ι → Cx} {w : WD} {W : WX} {e a b c o : Expr} {es : List Expr} {se sa' sb' : SE} {sa sb sc : SB} {args : SA} {st su : ST} {ss su' : SS} {pos p apos pos' : Pos} {x : Str}
theorem de_int {i j} : DE XS w W (.Constant (.int i) j pos) (seC (.int i)) := ⟨_, fun _ => pe_int, re_int⟩
theorem de_bl {b j} : DE XS w W (.Constant (.bool b) j pos) (seC (.bl b)) := ⟨_, fun _ => pe_bl, re_bl⟩
theorem de_non {j} : DE XS w W (.Constant .none j pos) (seC .non) := ⟨_, fun _ => pe_non, re_non⟩
theorem de_str {x j} : DE XS w W (.Constant (.str x) j pos) (seC (.str x)) := ⟨_, fun _ => pe_str, re_str⟩
theorem db_var (k : Nat) (hN : ∀ i, (XS i).N[k]? = some x := by intro _; rfl) (hv : ∀ i, Vis (XS i).env.scope x := by intro _; first | exact Or.inl rfl | exact Or.inr (Or.inl rfl) | exact Or.inr (Or.inr rfl)) (hd : (x == ("__debug__" : Str)) = false := by decide)
    (hcd : (x == ("__classdict__" : Str)) = false := by decide) : DB XS w W (.Name x pos) (sbVar k) := ⟨_, fun i => pe_var (hN i) (hv i) hd hcd, rb_var⟩
theorem de_var (k : Nat) (hN : ∀ i, (XS i).N[k]? = some x := by intro _; rfl) (hv : ∀ i, Vis (XS i).env.scope x := by intro _; first | exact Or.inl rfl | exact Or.inr (Or.inl rfl) | exact Or.inr (Or.inr rfl)) (hd : (x == ("__debug__" : Str)) = false := by decide)
    (hcd : (x == ("__classdict__" : Str)) = false := by decide) : DE XS w W (.Name x pos) (seVar k) := ⟨_, fun i => pe_var (hN i) (hv i) hd hcd, re_var⟩
theorem de_move (k : Nat) (hN : ∀ i, (XS i).N[k]? = some x := by intro _; rfl) (hv : ∀ i, Vis (XS i).env.scope x := by intro _; first | exact Or.inl rfl | exact Or.inr (Or.inl rfl) | exact Or.inr (Or.inr rfl)) (hd : (x == ("__debug__" : Str)) = false := by decide)
    (hcd : (x == ("__classdict__" : Str)) = false := by decide) : DE XS w W (.Name x pos) (seMove k) := ⟨_, fun i => pe_var (hN i) (hv i) hd hcd, re_move⟩
theorem db_of (h : DE XS w W e se) : DB XS w W e (sbOf se) := let ⟨t, h1, h2⟩ := h; ⟨t, h1, rb_of h2⟩
theorem da_nil : DA XS w W [] saNil := ⟨_, fun _ => pa_nil, ra_nil⟩
theorem da_cons (h : DB XS w W e sb) (k : DA XS w W es args) (hs : ∀ i, starEach (e :: es) (XS i).env = (false, eval e (XS i).env) :: starEach es (XS i).env := by intro _; rfl) : DA XS w W (e :: es) (saCons sb args) := by
  obtain ⟨t, h1, h2⟩ := h
  obtain ⟨u, k1, k2⟩ := k
  exact ⟨_, fun i => pa_cons (h1 i) (k1 i) (hs i), ra_cons h2 k2⟩
/-! operators -/
theorem de_bin {op} {r : R2} {f : D → D → Option (Bool × D)} (ho : ∀ i, OpR (XS i) (binaryOp op) r) (hf : OpD w r f) (ha : DB XS w W a sa) (hb : DB XS w W b sb) : DE XS w W (.BinOp a op b pos) (seOp f sa sb) := by
  obtain ⟨t, h1, h2⟩ := ha
  obtain ⟨u, k1, k2⟩ := hb
  exact ⟨_, fun i => pe_op (ho i) (h1 i) (k1 i), re_op hf h2 k2⟩
theorem de_cmp {op : CmpOp} {r : R2} {f : D → D → Option (Bool × D)} (ho : ∀ i, OpR (XS i) (compareOp op) r) (hf : OpD w r f) (ha : DB XS w W a sa) (hb : DB XS w W b sb) (hm : behindInMarks op b = false := by first | exact nobehind _ (by decide) (by decide) | rfl) :
    DE XS w W (.Compare a [op] [b] pos) (seOp f sa sb) := by
  obtain ⟨t, h1, h2⟩ := ha
  obtain ⟨u, k1, k2⟩ := hb
  exact ⟨_, fun i => pe_cmpR (ho i) (h1 i) (k1 i) hm, re_op hf h2 k2⟩
theorem rt_test {te : TE} (h : RE w W te se) : RT w W (tTest te) (stB se) := rt_b h
theorem dt_cmp {op : CmpOp} {r : R2} {f : D → D → Option (Bool × D)} (ho : ∀ i, OpR (XS i) (compareOp op) r) (hf : OpD w r f) (ha : DB XS w W a sa) (hb : DB XS w W b sb) (hm : behindInMarks op b = false := by first | exact nobehind _ (by decide) (by decide) | rfl) :
    DT XS w W (.Compare a [op] [b] pos) (stB (seOp f sa sb)) := by
  obtain ⟨t, h1, h2⟩ := ha
  obtain ⟨u, k1, k2⟩ := hb
  exact ⟨_, fun i => pt_cmpR (ho i) (h1 i) (k1 i) hm, rt_test (re_op hf h2 k2)⟩
theorem dt_val (h : DE XS w W e se) (he : ∀ i whole, isTrue e (XS i).env whole = (do let v ← whole; standAt e.pos; holding [v] (truthy v)) := by intro _ _; rfl) : DT XS w W e (stB se) := by
  obtain ⟨t, h1, h2⟩ := h
  exact ⟨_, fun i => pt_val (h1 i) (he i), rt_b h2⟩
theorem dt_not (h : DT XS w W a st) : DT XS w W (.UnaryOp .Not a pos) (stNot st) := let ⟨t, h1, h2⟩ := h; ⟨_, fun i => pt_not (h1 i), rt_not h2⟩
theorem dt_of (h : DW XS w W e st) : DT XS w W e st := let ⟨t, h1, h2⟩ := h; ⟨t, fun i => (h1 i).pt, h2⟩
theorem dw_and1 (h : DT XS w W a st) : DW XS w W (.BoolOp .And [a] pos) st := let ⟨t, h1, h2⟩ := h; ⟨t, fun i => pw_and1 (h1 i), h2⟩
theorem dw_or1 (h : DT XS w W a st) : DW XS w W (.BoolOp .Or [a] pos) st := let ⟨t, h1, h2⟩ := h; ⟨t, fun i => pw_or1 (h1 i), h2⟩
theorem dw_and {rest : List Expr} (h : DT XS w W a st) (k : DW XS w W (.BoolOp .And (b :: rest) pos) su) : DW XS w W (.BoolOp .And (a :: b :: rest) pos) (stAnd st su) := by
  obtain ⟨t, h1, h2⟩ := h
  obtain ⟨u, k1, k2⟩ := k
  exact ⟨_, fun i => pw_and (h1 i) (k1 i), rt_and h2 k2⟩
theorem dw_or {rest : List Expr} (h : DT XS w W a st) (k : DW XS w W (.BoolOp .Or (b :: rest) pos) su) : DW XS w W (.BoolOp .Or (a :: b :: rest) pos) (stOr st su) := by
  obtain ⟨t, h1, h2⟩ := h
  obtain ⟨u, k1, k2⟩ := k
  exact ⟨_, fun i => pw_or (h1 i) (k1 i), rt_or h2 k2⟩
theorem de_one {op} (h : DE XS w W a se) : DE XS w W (.BoolOp op [a] pos) se := let ⟨t, h1, h2⟩ := h; ⟨t, fun i => pe_one (h1 i), h2⟩
theorem de_and {rest : List Expr} (h : DE XS w W a sa') (k : DE XS w W (.BoolOp .And (b :: rest) pos) sb') : DE XS w W (.BoolOp .And (a :: b :: rest) pos) (seAnd sa' sb') := by
  obtain ⟨t, h1, h2⟩ := h
  obtain ⟨u, k1, k2⟩ := k
  exact ⟨_, fun i => pe_and (h1 i) (k1 i), re_and h2 k2⟩
theorem de_or {rest : List Expr} (h : DE XS w W a sa') (k : DE XS w W (.BoolOp .Or (b :: rest) pos) sb') : DE XS w W (.BoolOp .Or (a :: b :: rest) pos) (seOr sa' sb') := by
  obtain ⟨t, h1, h2⟩ := h
  obtain ⟨u, k1, k2⟩ := k
  exact ⟨_, fun i => pe_or (h1 i) (k1 i), re_or h2 k2⟩
theorem de_not (h : DE XS w W a se) : DE XS w W (.UnaryOp .Not a pos) (seNot se) := let ⟨t, h1, h2⟩ := h; ⟨_, fun i => pe_not (h1 i), re_not h2⟩
theorem de_if (hc : DT XS w W c st) (ha : DE XS w W a sa') (hb : DE XS w W b sb') : DE XS w W (.IfExp c a b pos) (seIf st sa' sb') := by
  obtain ⟨t, h1, h2⟩ := hc
  obtain ⟨u, k1, k2⟩ := ha
  obtain ⟨v, l1, l2⟩ := hb
  exact ⟨_, fun i => pe_ifExp (h1 i) (k1 i) (l1 i), re_if h2 k2 l2⟩
/-- a op b op' c, the second compared only if the first holds -/
def seChain (f f' : D → D → Option (Bool × D)) (sa sb sc : SB) : SE := fun g => (sa g).bind fun ra g1 => (sb g1).bind fun rb g2 => match ra.get g2, rb.get g2 with
  | some d, some e => match f d e with
    | some (_, .bl true) => (sc g2).bind fun rc g3 => match rb.get g3, rc.get g3 with
      | some e', some h => ofOpt g3 (f' e' h)
      | _, _ => .fail
    | some (_, .bl false) => .ok (false, .bl false) g2
    | _ => .fail
  | _, _ => .fail
/-- a comparison that gives a bool and leaves everything -/
def BoolD (f : D → D → Option (Bool × D)) : Prop := ∀ d e o r, f d e = some (o, r) → o = false
theorem re_chain {r r' : R2} {f f' : D → D → Option (Bool × D)} {ta tb tc : TE} (hf : OpD w r f) (hf' : OpD w r' f') (hb : BoolD f) (ha : RB w W ta sa) (hb' : RB w W tb sb) (hc : RB w W tc sc) : RE w W (tChain r r' ta tb tc) (seChain f f' sa sb sc) := fun π B Z g σ H Q s q =>
  ha π B Z g σ H _ s (tailE.bB q fun a g1 v B1 H1 e1 s1 r1 q1 => hb' π B1 Z g1 σ H1 _ s1 (tailE.bB q1 fun b g2 u B2 H2 e2 s2 r2 q2 => by
    split at q2
    · rename_i d e h1 h2
      refine hf π B2 Z g2 σ H2 _ v u d e s2 (s2.lk (r1.mono e2) h1) (s2.lk r2 h2) ?_
      split at q2
      · rename_i o hd
        rw [hd]
        have := hb d e o _ hd
        subst this
        intro z B3 H3 e3 s3 r3
        refine ⟨true, res_bl r3, ?_⟩
        rw [if_pos rfl]
        refine hc π B3 Z g2 σ H3 _ s3 (tailE.bB (q2.mono e3) fun cc g3 y B4 H4 e4 s4 r4 q4 => ?_)
        split at q4
        · rename_i e' h k1 k2
          exact hf' π B4 Z g3 σ H4 Q u y e' h s4 (s4.lk (r2.mono (e3.trans e4)) k1) (s4.lk r4 k2) (postE_opt q4)
        · exact q4.elim
      · rename_i o hd
        rw [hd]
        have := hb d e o _ hd
        subst this
        intro z B3 H3 e3 s3 r3
        refine ⟨false, res_bl r3, ?_⟩
        rw [if_neg Bool.false_ne_true]
        exact q2 _ B3 H3 e3 s3 (.bl false)
      · exact q2.elim
    · exact q2.elim))
theorem i2_bool {cc : Int → Int → Bool} {f : Int → Int → D} : BoolD (i2 cc f) := fun d e o r h => by
  unfold i2 at h
  split at h
  · split at h
    · cases h; rfl
    · cases h
  · cases h
theorem dCmp_bool {p : Int → Int → Bool} {r : Str → Str → Bool} : BoolD (dCmp p r) := fun d e o r h => by
  unfold dCmp at h
  split at h <;> cases h <;> rfl
theorem dEq_bool : BoolD dEq := fun d e o r h => by
  unfold dEq at h
  split at h <;> cases h
  rfl
theorem dNe_bool : BoolD dNe := fun d e o r h => by
  unfold dNe at h
  split at h <;> cases h
  rfl
theorem de_chain {op op' : CmpOp} {r r' : R2} {f f' : D → D → Option (Bool × D)} (ho : ∀ i, OpR (XS i) (compareOp op) r) (hf : OpD w r f) (hb : BoolD f) (ho' : ∀ i, OpR (XS i) (compareOp op') r') (hf' : OpD w r' f') (ha : DB XS w W a sa) (hb' : DB XS w W b sb) (hc : DB XS w W c sc) (hm : lastMarks [op, op'] [b, c] = false := by with_unfolding_all rfl) :
    DE XS w W (.Compare a [op, op'] [b, c] pos) (seChain f f' sa sb sc) := by
  obtain ⟨t, h1, h2⟩ := ha
  obtain ⟨u, k1, k2⟩ := hb'
  obtain ⟨v, l1, l2⟩ := hc
  exact ⟨_, fun i => pe_chain (ho i) (ho' i) (h1 i) (k1 i) (l1 i) hm, re_chain hf hf' hb h2 k2 l2⟩
theorem dt_chain {op op' : CmpOp} {r r' : R2} {f f' : D → D → Option (Bool × D)} (ho : ∀ i, OpR (XS i) (compareOp op) r) (hf : OpD w r f) (hb : BoolD f) (ho' : ∀ i, OpR (XS i) (compareOp op') r') (hf' : OpD w r' f') (ha : DB XS w W a sa) (hb' : DB XS w W b sb) (hc : DB XS w W c sc) (hm : lastMarks [op, op'] [b, c] = false := by with_unfolding_all rfl) :
    DT XS w W (.Compare a [op, op'] [b, c] pos) (stB (seChain f f' sa sb sc)) := by
  obtain ⟨t, h1, h2⟩ := ha
  obtain ⟨u, k1, k2⟩ := hb'
  obtain ⟨v, l1, l2⟩ := hc
  exact ⟨_, fun i => pt_chain (ho i) (ho' i) (h1 i) (k1 i) (l1 i) hm, rt_test (re_chain hf hf' hb h2 k2 l2)⟩
/-! subscripts, slices, displays -/
theorem de_ix {r : R2} {f : D → D → Option (Bool × D)} (hr : ∀ i, IxR (XS i) r) (hf : OpD w r f) (ha : DB XS w W a sa) (hb : DB XS w W b sb) (hs : PlainIx b := by intro _ _; rfl) : DE XS w W (.Subscript a b pos) (seOp f sa sb) := by
  obtain ⟨t, h1, h2⟩ := ha
  obtain ⟨u, k1, k2⟩ := hb
  exact ⟨_, fun i => pe_ix (hr i) (h1 i) (k1 i) hs, re_op hf h2 k2⟩
theorem do_none : DO XS w W none soNone := ⟨_, fun _ => po_none, ro_none⟩
theorem do_some (h : DE XS w W e se) : DO XS w W (some e) (soSome se) := let ⟨t, h1, h2⟩ := h; ⟨_, fun i => po_some (h1 i), ro_some h2⟩
theorem de_sl {lo hi : Option Expr} {p2} {slo shi : SO} (ha : DB XS w W a sa) (h1 : DO XS w W lo slo) (h2 : DO XS w W hi shi) (hK : ∀ i, (XS i).K = w.K := by intro _; rfl) : DE XS w W (.Subscript a (.Slice lo hi none p2) pos) (seSl dSl sa slo shi) := by
  obtain ⟨t, k1, k2⟩ := ha
  obtain ⟨u, l1, l2⟩ := h1
  obtain ⟨v, m1, m2⟩ := h2
  exact ⟨_, fun i => pe_slice (by rw [← hK i]; exact sl_U) (k1 i) (l1 i) (m1 i), re_sl sd_U k2 l2 m2⟩
theorem de_lst (h : DA XS w W es args) : DE XS w W (.List es pos) (seLst args) := let ⟨t, h1, h2⟩ := h; ⟨_, fun i => pe_lst (h1 i), re_lst h2⟩
theorem de_tup {k} (h : DA XS w W es args) : DE XS w W (.Tuple es k pos) (seTup args) := let ⟨t, h1, h2⟩ := h; ⟨_, fun i => pe_tup (h1 i), re_tup h2⟩
/-! calls of built-in functions and types -/
theorem de_callB {id : String} {r : List V → Hp → VK → Prop} {f : List D → Option (Bool × D)} (hc : ∀ i, CallR (XS i) (.builtin id) r) (hf : CallD w r f) (hm : ∀ i, (XS i).mg x = none) (hv : bootBuiltins x = some (.builtin id)) (ha : DA XS w W (e :: es) args) (hg : ∀ i, Gl (XS i) x := by intro _; rfl)
    (hn : x ≠ "__name__" := by decide) (hdb : (x == ("__debug__" : Str)) = false := by decide)
    (he : ∀ i, starEach (e :: es) (XS i).env = (false, eval e (XS i).env) :: starEach es (XS i).env := by intro _; rfl) (hpl : ∀ i, (backTo pos (starEach es (XS i).env)).any (·.1) = false := by intro _; rfl) : DE XS w W (.Call (.Name x p) (e :: es) [] pos) (seCB f args) := by
  obtain ⟨t, h1, h2⟩ := ha
  exact ⟨_, fun i => pe_callB (hc i) (hg i) (hm i) hv (h1 i) hn hdb (he i) (hpl i), re_cb hf h2⟩
theorem de_callTy {T : String} {r : List V → Hp → VK → Prop} {f : List D → Option (Bool × D)} (hc : ∀ i, CallR (XS i) (.type T) r) (hf : CallD w r f) (hm : ∀ i, (XS i).mg x = none) (hv : bootBuiltins x = some (.type T)) (ha : DA XS w W (e :: es) args) (hg : ∀ i, Gl (XS i) x := by intro _; rfl)
    (hn : x ≠ "__name__" := by decide) (hdb : (x == ("__debug__" : Str)) = false := by decide)
    (he : ∀ i, starEach (e :: es) (XS i).env = (false, eval e (XS i).env) :: starEach es (XS i).env := by intro _; rfl) (hpl : ∀ i, (backTo pos (starEach es (XS i).env)).any (·.1) = false := by intro _; rfl) : DE XS w W (.Call (.Name x p) (e :: es) [] pos) (seCB f args) := by
  obtain ⟨t, h1, h2⟩ := ha
  exact ⟨_, fun i => pe_callTy (hc i) (hg i) (hm i) hv (h1 i) hn hdb (he i) (hpl i), re_cb hf h2⟩
/-! methods that change an own object of a name -/
theorem de_mutD {ty : D → Bool} {T id : String} {name y : Str} (k : Nat) {r : V → List V → Hp → VK → Prop} {f : D → List D → Option (D × D)} (hT : ∀ B H a d, Own w B H a d → ty d = true → tyV w.K T (.ref a) H) (pa : PlainAttrs T) (slot : Slot T name id) (hty : typeOf (.builtin id) = pure (.type "method_descriptor"))
    (hm : ∀ i, MtR (XS i) id r) (hf : MutD w r f) (ha : DA XS w W (e :: es) args) (hN : ∀ i, (XS i).N[k]? = some y := by intro _; rfl) (hv : ∀ i, Vis (XS i).env.scope y := by intro _; first | exact Or.inl rfl | exact Or.inr (Or.inl rfl) | exact Or.inr (Or.inr rfl)) (hd : (y == ("__debug__" : Str)) = false := by decide)
    (hcd : (y == ("__classdict__" : Str)) = false := by decide) (hb : ∀ i, attributeBase (.Name y pos') name (XS i).env (eval (.Name y pos') (XS i).env) = eval (.Name y pos') (XS i).env := by intro _; rfl) (hfew : ∀ i, ((backTo pos (starEach (e :: es) (XS i).env)).all (fun x => !x.1) && (backToKw pos (keywordEach [] (XS i).env)).all (fun x => x.1.isSome) && decide ((e :: es).length + ([] : List Keyword).length + (if ([] : List Keyword).isEmpty then 0 else 1) < 30)) = true := by intro _; rfl) (hline : (apos.endLine == pos.line) = true := by rfl)
    (hs : ∀ i, starEach (e :: es) (XS i).env = (false, eval e (XS i).env) :: starEach es (XS i).env := by intro _; rfl) (hpl : ∀ i, (backTo pos (starEach es (XS i).env)).any (·.1) = false := by intro _; rfl) (hK : ∀ i, (XS i).K = w.K := by intro _; rfl) :
    DE XS w W (.Call (.Attribute (.Name y pos') name apos) (e :: es) [] pos) (seMutD ty k f args) := by
  obtain ⟨t, h1, h2⟩ := ha
  refine ⟨_, fun i => ?_, re_mutD hT hf h2⟩
  have z := pe_bm pa slot hty (hm i) (pe_var (hN i) (hv i) hd hcd) (h1 i) (hb i) (hfew i) hline (hs i) (hpl i)
  rw [hK i] at z
  exact z
theorem de_mutV {ty : D → Bool} {T id : String} {name y : Str} (k : Nat) {r : V → List V → Hp → VK → Prop} {f : D → List D → Option (D × D)} (hT : ∀ B H a d, Own w B H a d → ty d = true → tyV w.K T (.ref a) H) (pa : PlainAttrs T) (slot : Slot T name id) (hty : typeOf (.builtin id) = pure (.type "method_descriptor"))
    (hm : ∀ i, MtR (XS i) id r) (hf : MutV w r f) (ha : DA XS w W (e :: es) args) (hN : ∀ i, (XS i).N[k]? = some y := by intro _; rfl) (hv : ∀ i, Vis (XS i).env.scope y := by intro _; first | exact Or.inl rfl | exact Or.inr (Or.inl rfl) | exact Or.inr (Or.inr rfl)) (hd : (y == ("__debug__" : Str)) = false := by decide)
    (hcd : (y == ("__classdict__" : Str)) = false := by decide) (hb : ∀ i, attributeBase (.Name y pos') name (XS i).env (eval (.Name y pos') (XS i).env) = eval (.Name y pos') (XS i).env := by intro _; rfl) (hfew : ∀ i, ((backTo pos (starEach (e :: es) (XS i).env)).all (fun x => !x.1) && (backToKw pos (keywordEach [] (XS i).env)).all (fun x => x.1.isSome) && decide ((e :: es).length + ([] : List Keyword).length + (if ([] : List Keyword).isEmpty then 0 else 1) < 30)) = true := by intro _; rfl) (hline : (apos.endLine == pos.line) = true := by rfl)
    (hs : ∀ i, starEach (e :: es) (XS i).env = (false, eval e (XS i).env) :: starEach es (XS i).env := by intro _; rfl) (hpl : ∀ i, (backTo pos (starEach es (XS i).env)).any (·.1) = false := by intro _; rfl) (hK : ∀ i, (XS i).K = w.K := by intro _; rfl) :
    DE XS w W (.Call (.Attribute (.Name y pos') name apos) (e :: es) [] pos) (seMutV ty k f args) := by
  obtain ⟨t, h1, h2⟩ := ha
  refine ⟨_, fun i => ?_, re_mutV hT hf h2⟩
  have z := pe_bm pa slot hty (hm i) (pe_var (hN i) (hv i) hd hcd) (h1 i) (hb i) (hfew i) hline (hs i) (hpl i)
  rw [hK i] at z
  exact z
/-! what is walked, targets -/
theorem di_U {tg : Expr} (h : DE XS w W e se) (hK : ∀ i, (XS i).K = w.K := by intro _; rfl) : DI XS w W tg e (siOf se) := by
  obtain ⟨t, h1, h2⟩ := h
  exact ⟨_, fun i => by rw [← hK i]; exact pi_U (h1 i), ri_U h2⟩
theorem di_range1 {tg : Expr} (hm : ∀ i, (XS i).mg "range" = none) (ha : DA XS w W [a] args) (hg : ∀ i, Gl (XS i) "range" := by intro _; rfl) (hs : ∀ i, starEach [a] (XS i).env = [(false, eval a (XS i).env)] := by intro _; rfl) : DI XS w W tg (.Call (.Name "range" p) [a] [] pos) (siA rg1 args) := by
  obtain ⟨t, h1, h2⟩ := ha
  exact ⟨_, fun i => pi_range1 (hg i) (hm i) (h1 i) (hs i), ri_range1 h2⟩
theorem di_range2 {tg : Expr} (hm : ∀ i, (XS i).mg "range" = none) (ha : DA XS w W [a, b] args) (hg : ∀ i, Gl (XS i) "range" := by intro _; rfl) (hs : ∀ i, starEach [a, b] (XS i).env = [(false, eval a (XS i).env), (false, eval b (XS i).env)] := by intro _; rfl) (hs2 : ∀ i, starEach [b] (XS i).env = [(false, eval b (XS i).env)] := by intro _; rfl) :
    DI XS w W tg (.Call (.Name "range" p) [a, b] [] pos) (siA rg2 args) := by
  obtain ⟨t, h1, h2⟩ := ha
  exact ⟨_, fun i => pi_range2 (hg i) (hm i) (h1 i) (hs i) (hs2 i), ri_range2 h2⟩
theorem dg_name {vs : List Nat} (k : Nat) (hk : k ∈ vs := by decide) (hnd : ∀ i, (XS i).N.Nodup) (hi : ∀ i, (XS i).N[k]? = some x := by intro _; rfl) (hx : ∀ i, Loc (XS i).env.scope x := by intro _; first | exact .inl rfl | exact .inr rfl) (hf : ∀ i, (XS i).fn x = true ∨ (XS i).env.scope.names.lookup x = some .local := by intro _; first | exact .inl rfl | exact .inr rfl) :
    DG XS w vs (.Name x pos) (sgName k) := ⟨_, fun i => pg_name (hnd i) (hi i) (hx i) (hf i), rg_name, wipes_name hk⟩
theorem dgs_nil {vs : List Nat} : DGs XS w vs [] sgNil := ⟨_, fun _ => pgs_nil, rg_nil, wipes_nil, fun _ => rfl⟩
theorem dgs_cons {vs : List Nat} {sg : SGs} (k : Nat) (hk : k ∈ vs := by decide) (hnd : ∀ i, (XS i).N.Nodup) (t : DGs XS w vs es sg) (hi : ∀ i, (XS i).N[k]? = some x := by intro _; rfl) (hx : ∀ i, Loc (XS i).env.scope x := by intro _; first | exact .inl rfl | exact .inr rfl) (hf : ∀ i, (XS i).fn x = true ∨ (XS i).env.scope.names.lookup x = some .local := by intro _; first | exact .inl rfl | exact .inr rfl)
    (hs : ∀ i, (assignEach (.Name x pos :: es) (XS i).env).map (·.2) = assign (.Name x pos) (XS i).env :: (assignEach es (XS i).env).map (·.2) := by intro _; rfl) (hl : ∀ i, (assignEach (.Name x pos :: es) (XS i).env).length = (assignEach es (XS i).env).length + 1 := by intro _; rfl) : DGs XS w vs (.Name x pos :: es) (sgCons (sgName k) sg) := by
  obtain ⟨u, k1, k2, k3, k4⟩ := t
  exact ⟨_, fun i => pgs_cons (pg_name (hnd i) (hi i) (hx i) (hf i)) (k1 i) (hs i), rg_cons rg_name k2, wipes_cons hk k3, fun i => by rw [hl i, k4 i]; rfl⟩
theorem dg_tup {vs : List Nat} {k} {sg : SGs} (t : DGs XS w vs es sg) (hc : ∀ i, (XS i).calm = true := by intro _; rfl) (hst : ∀ i, (assignEach es (XS i).env).findIdx? (·.1) = none := by intro _; rfl) (hK : ∀ i, (XS i).K = w.K := by intro _; rfl) : DG XS w vs (.Tuple es k pos) (sgTup es.length sg) := by
  obtain ⟨u, k1, k2, k3, k4⟩ := t
  refine ⟨_, fun i => ?_, rg_tup k2, wipes_tup k3⟩
  have z := pg_seq (k := k) (pos := pos) (hc i) (k1 i) (k4 i) (hst i)
  rw [hK i] at z
  exact z
/-! statements -/
theorem ds_set (k : Nat) (hnd : ∀ i, (XS i).N.Nodup) (h : DE XS w W e se) (hi : ∀ i, (XS i).N[k]? = some x := by intro _; rfl) (hx : ∀ i, Loc (XS i).env.scope x := by intro _; first | exact .inl rfl | exact .inr rfl) (hs : ∀ i, swapsWith e (some (.Name x pos')) pos.line (XS i).env = pure false := by intro _; rfl) (hf : ∀ i, (XS i).fn x = true ∨ (XS i).env.scope.names.lookup x = some .local := by intro _; first | exact .inl rfl | exact .inr rfl) :
    DS XS w W (.Assign [.Name x pos'] e pos) (ssAsg se (sgName k)) := by
  obtain ⟨t, h1, h2⟩ := h
  exact ⟨_, fun i => ps_set (hnd i) (hi i) (hx i) (h1 i) (hs i) (hf i), rs_asg h2 rg_name⟩
theorem ds_asg {vs : List Nat} {tg : Expr} {sg : SG} (h : DE XS w W e se) (hg : DG XS w vs tg sg) (hs : ∀ i, swapsWithSole [tg] e pos.line (XS i).env = pure false := by intro _; rfl) (hw : ∀ i, swappedStores [tg] e (XS i).env = pure none := by intro _; rfl) (h1 : ∀ i, (assignEach [tg] (XS i).env).map (·.2) = [assign tg (XS i).env] := by intro _; rfl) :
    DS XS w W (.Assign [tg] e pos) (ssAsg se sg) := by
  obtain ⟨t, k1, k2⟩ := h
  obtain ⟨u, l1, l2, _⟩ := hg
  exact ⟨_, fun i => ps_asg (k1 i) (l1 i) (hs i) (hw i) (h1 i), rs_asg k2 l2⟩
theorem ds_par {x y : Str} {px py pt : Pos} {kt k2 pt2} (k l : Nat) (hnd : ∀ i, (XS i).N.Nodup) (ha : DE XS w W a sa') (hb : DE XS w W b sb') (hij : k ≠ l := by decide) (hc : ∀ i, (XS i).calm = true := by intro _; rfl) (hi : ∀ i, (XS i).N[k]? = some x := by intro _; rfl) (hj : ∀ i, (XS i).N[l]? = some y := by intro _; rfl)
    (hx : ∀ i, (XS i).env.scope.names.lookup x = some .local := by intro _; rfl) (hy : ∀ i, (XS i).env.scope.names.lookup y = some .local := by intro _; rfl) (hw : ∀ i, swappedStores [.Tuple [.Name x px, .Name y py] kt pt] (.Tuple [a, b] k2 pt2) (XS i).env = pure (some [x, y]) := by intro _; rfl)
    (hs : ∀ i, swapsWithSole [.Tuple [.Name x px, .Name y py] kt pt] (.Tuple [a, b] k2 pt2) pos.line (XS i).env = pure false := by intro _; rfl) (hs1 : ∀ i, starEach [a, b] (XS i).env = (false, eval a (XS i).env) :: starEach [b] (XS i).env := by intro _; rfl) (hs2 : ∀ i, starEach [b] (XS i).env = (false, eval b (XS i).env) :: starEach [] (XS i).env := by intro _; rfl) :
    DS XS w W (.Assign [.Tuple [.Name x px, .Name y py] kt pt] (.Tuple [a, b] k2 pt2) pos) (ssPar k l sa' sb') := by
  obtain ⟨t, h1, h2⟩ := ha
  obtain ⟨u, k1, k2'⟩ := hb
  exact ⟨_, fun i => ps_par (hc i) (hnd i) (hi i) (hj i) hij (hx i) (hy i) (pa_cons (h1 i) (pa_cons (k1 i) pa_nil (hs2 i)) (hs1 i)) (hw i) (hs i), rs_par h2 k2'⟩
theorem ds_expr (h : DE XS w W e se) (hs : ∀ i, swapsWith e none pos.line (XS i).env = pure false := by intro _; rfl) : DS XS w W (.Expr e pos) (ssDrop se) := let ⟨t, h1, h2⟩ := h; ⟨_, fun i => ps_expr (h1 i) (hs i), rs_drop h2⟩
theorem ds_ret (h : DE XS w W e se) : DS XS w W (.Return (some e) pos) (ssRet se) := let ⟨t, h1, h2⟩ := h; ⟨_, fun i => ps_ret (h1 i), rs_ret h2⟩
theorem ds_retN : DS XS w W (.Return none pos) ssRetN := ⟨_, fun _ => ps_retN, rs_retN⟩
theorem ds_pass : DS XS w W (.Pass pos) ssNext := ⟨_, fun _ => ps_pass, rs_next⟩
theorem ds_doc {x j} : DS XS w W (.Expr (.Constant (.str x) j pos) pos') ssNext := ⟨_, fun _ => ps_doc, rs_next⟩
theorem ds_if {u v : List Stmt} (hc : DT XS w W c st) (hu : DSs XS w W u ss) (hv : DSs XS w W v su') : DS XS w W (.If c u v pos) (ssIf st ss su') := by
  obtain ⟨t, h1, h2⟩ := hc
  obtain ⟨tu, k1, k2⟩ := hu
  obtain ⟨tv, l1, l2⟩ := hv
  exact ⟨_, fun i => ps_if (h1 i) (k1 i) (l1 i), rs_if h2 k2 l2⟩
theorem dss_nil : DSs XS w W [] ssNext := ⟨_, fun _ => pss_nil, rs_next⟩
theorem dss_one {s : Stmt} (h : DS XS w W s ss) : DSs XS w W [s] ss := let ⟨t, h1, h2⟩ := h; ⟨t, fun i => pss_one (h1 i), h2⟩
theorem dss_cons {s : Stmt} {r : List Stmt} (h : DS XS w W s ss) (k : DSs XS w W r su') : DSs XS w W (s :: r) (ssSeq ss su') := by
  obtain ⟨t, h1, h2⟩ := h
  obtain ⟨u, k1, k2⟩ := k
  exact ⟨_, fun i => pss_cons (h1 i) (k1 i), rs_seq h2 k2⟩
theorem ds_for {vs : List Nat} {tg : Expr} {body : List Stmt} {si : SI} {sg : SG} (hp : ∀ i, PassesOwn (model (XS i).prog (XS i).w) (XS i).A (XS i).env (XS i).xe) (hi : DI XS w W tg e si) (hg : DG XS w vs tg sg) (hb : DSs XS w W body ss) (hc : ∀ i, (XS i).calm = true := by intro _; rfl) (hs : ∀ i x, foldedSetIterable e (XS i).env x = pure x := by intro _ _; rfl) :
    DS XS w W (.For tg e body [] pos) (ssFor si sg ss) := by
  obtain ⟨t, h1, h2⟩ := hi
  obtain ⟨u, k1, k2, _⟩ := hg
  obtain ⟨v, l1, l2⟩ := hb
  exact ⟨_, fun i => ps_for (hp i) (hc i) (h1 i) (k1 i) (l1 i) (hs i), rs_for h2 k2 l2⟩
theorem ds_while {body : List Stmt} (n : Nat) (hp : ∀ i, PassesOwn (model (XS i).prog (XS i).w) (XS i).A (XS i).env (XS i).xe) (hc : DT XS w W c st) (hb : DSs XS w W body ss) : DS XS w W (.While c body [] pos) (loopW st ss n) := by
  obtain ⟨t, h1, h2⟩ := hc
  obtain ⟨v, l1, l2⟩ := hb
  exact ⟨_, fun i => ps_while (hp i) (h1 i) (l1 i), rs_while n h2 l2⟩
/-! comprehensions -/
abbrev BI (ι : Type) := ι × Shared × Hp × Addr × List (Str × Addr) × List Addr
def blkS (XS : ι → Cx) (scope : Scope) : BI ι → Cx := fun q => (XS q.1).blk q.2.1 q.2.2.1 scope (compEnvC scope q.2.2.2.2.1 q.2.2.2.1 (XS q.1).env) q.2.2.2.2.2
theorem dts_nil : DTs XS w W [] (fun g => .ok true g) := ⟨_, fun _ => pts_nil, rt_yes⟩
theorem dts_one (h : DT XS w W c st) : DTs XS w W [c] st := let ⟨t, h1, h2⟩ := h; ⟨t, fun i => pts_one (h1 i), h2⟩
theorem de_lc {elt tg iter : Expr} {ifs : List Expr} {scope : Scope} (own : List (Str × Nat)) {si : SI} {sg : SG} (hnd : ∀ i, (XS i).N.Nodup) (ok : ∀ i, BlkOk (XS i).N (XS i).env.scope scope own) (hi : DI XS w W tg iter si) (hg : DG (blkS XS scope) w (own.map (·.2)) tg sg) (ht : DTs (blkS XS scope) w WT ifs st) (he : DE (blkS XS scope) w WT elt se)
    (hc : ∀ i, (XS i).calm = true := by intro _; rfl) (hs : ∀ i x, foldedSetIterable iter (XS i).env x = pure x := by intro _ _; rfl) : DE XS w W (.ListComp elt [⟨tg, iter, ifs, 0⟩] scope pos) (seLc si sg st se (own.map (·.2))) := by
  obtain ⟨t, h1, h2⟩ := hi
  obtain ⟨u, k1, k2, k3⟩ := hg
  obtain ⟨v, l1, l2⟩ := ht
  obtain ⟨te, m1, m2⟩ := he
  exact ⟨_, fun i => pe_lc (hc i) (hnd i) (h1 i) (ok i) (fun s H C cl fp => k1 (i, s, H, C, cl, fp)) (fun s H C cl fp => l1 (i, s, H, C, cl, fp)) (fun s H C cl fp => m1 (i, s, H, C, cl, fp)) (hs i), re_lc h2 k2 k3 l2 m2⟩
/-! defs -/
/-- how exceptions leave a def: b: it may raise -/
def CXb (b : Bool) (P : Program) (wl : World) : CXT := if b = true then L2.CX P wl else L2.CX0
/-- no repr runs (where gb says so) -/
def Gd (gb : Bool) (A : Around) : Prop := gb = true → A.guards = some []
/-- a def's promise for callers (gb: only while no repr runs) -/
structure FnX (gb : Bool) (P : Program) (w : World) (K : PySem.W.Frag) (mg : Str → Option Value) (base : Heap) (CX : CXT) (k : Nat) (f : Addr) (fd : FuncData) (ps : List Str) (sp : Sp) : Prop where
  len : ∀ vs H Q E, sp vs H Q E → vs.length = ps.length
  go : ∀ (A : Around) (outer : List Env) (s : Shared) (H : Hp) (args : Args) (us : List Value) (vs : List V) (Q : VK) (E : XK), Gd gb A → Room k A → Env0 P w K mg base A outer s H →
    BindsTo s fd args (ps.zip us) → Vals vs us → sp vs H Q E → codeAny (model P w) A (.call (.ref f) args) (CR CX outer P w H s Q E) s
theorem FnX.ok {P : Program} {w : World} {K : PySem.W.Frag} {mg : Str → Option Value} {base : Heap} {CX : CXT} {k : Nat} {f : Addr} {fd : FuncData} {ps : List Str} {sp : Sp} (F : FnX false P w K mg base CX k f fd ps sp) : FnOk P w K mg base CX k f fd ps sp :=
  ⟨F.len, fun A outer s H args us vs Q E => F.go A outer s H args us vs Q E (fun z => nomatch z)⟩
theorem FnX.g {gb : Bool} {P : Program} {w : World} {K : PySem.W.Frag} {mg : Str → Option Value} {base : Heap} {CX : CXT} {k : Nat} {f : Addr} {fd : FuncData} {ps : List Str} {sp : Sp} (F : FnX gb P w K mg base CX k f fd ps sp) : R7.FnG P w K mg base CX k f fd ps sp :=
  ⟨F.len, fun A outer s H args us vs Q E hg => F.go A outer s H args us vs Q E (fun _ => hg)⟩
theorem fun_X {gb : Bool} {P : Program} {wl : World} {K : PySem.W.Frag} {mg : Str → Option Value} {base : Heap} {CX : CXT} {x qual : Str} {st : Stmt} {f : Addr} {fd : FuncData} {N ps : List Str} {k : Nat} {sp : Sp} (F : Fun K x qual st f fd) (S : FnScope N ps (defScope st)) (len : ∀ vs H Q E, sp vs H Q E → vs.length = ps.length)
    (hb : ∀ (cdv : Value) (A : Around) (outer : List Env) (s : Shared) (H : Hp) (vs : List V) (Q : VK) (E : XK), Gd gb A → Room k (A.deeper (envOfC qual (defScope st) s.heap.objs.size f cdv)) → sp vs H Q E →
      ∃ t, PSs (cxOf CX P wl K mg base N qual (defScope st) f cdv A outer s H E) (defBody st) t ∧ t { nx := fun _ H' => Q .non H', rt := Q } (L2.start N vs) H) : FnX gb P wl K mg base CX (k + 1) f fd ps sp := by
  obtain ⟨oc, od, kV, doc, pm, an, cdv, ct, osl, rfl, lk, hcd⟩ := F.ex
  refine ⟨len, fun A outer s H args us vs Q E hg hr e0 hbd r h => ?_⟩
  exact LamX.run_ofS lk hcd S hr e0 hbd r (len _ _ _ _ h) fun hr' => hb cdv A outer s H vs Q E hg hr' h
/-- a def at f -/
def Def (P : Program) (wl : World) (mg : Str → Option Value) (base : Heap) (w : WD) (gb b : Bool) (k : Nat) (f : Addr) (φ : Fn) : Prop :=
  ∃ fd ps, FnX gb P wl w.K mg base (CXb b P wl) k f fd ps (spD w φ) ∧ Binds w.K fd ps [] ∧ PySem.W.keepIn w.K (.ref f) = true
/-- a def that is called by its name -/
def Cal (P : Program) (wl : World) (mg : Str → Option Value) (base : Heap) (w : WD) (gb b : Bool) (k : Nat) (x : Str) (φ : Fn) : Prop :=
  ∃ f, Def P wl mg base w gb b k f φ ∧ mg x = some (.ref f)
theorem pe_callM {X : Cx} {gb : Bool} {CX : CXT} {k : Nat} {f : Addr} {fd : FuncData} {ps : List Str} {sp : Sp} {E : L2.St → XK} {t : TA} (F : FnX gb X.prog X.w X.K X.mg X.base CX k f fd ps sp) (hgd : Gd gb X.A) (hr : Room k X.A) (hg : Gl X x) (hm : X.mg x = some (.ref f)) (hk : PySem.W.keepIn X.K (.ref f) = true) (hb : Binds X.K fd ps [])
    (hx : ∀ σ, PassesAt CX X σ (E σ)) (ha : PA X (e :: es) t) (hdb : (x == ("__debug__" : Str)) = false) (he : starEach (e :: es) X.env = (false, eval e X.env) :: starEach es X.env)
    (hpl : (backTo pos (starEach es X.env)).any (·.1) = false) : PE X (.Call (.Name x p) (e :: es) [] pos) (tCallS sp E t) := by
  constructor
  intro pins s σ H Q I h
  apply wpAny_Call_Name_kw
  refine ld_glob I hg hm ?_ hdb
  refine PySem.W.callWith_K (h₀ := X.base) I.ok.mod.kin hk ?_ he hpl
  refine thn (ha.run pos pins s σ H _ I h) fun us s1 z => ?_
  obtain ⟨vs, H1, J, r, q⟩ := z
  have hl : (us ++ []).length = ps.length := by rw [List.append_nil, ← r.length]; exact F.len _ _ _ _ q
  refine ⟨J.kIn, wpAny_call (codeAny_mono (F.go X.A X.stack s1 H1 ⟨us, []⟩ us vs Q (E σ) hgd hr J.env0 ?_ r q) fun res s2 hq => ?_)⟩
  · have := hb s1 us J.kIn hl
    rwa [List.append_nil] at this
  · cases res with
    | error e => exact hx σ pins H1 s1 e s2 J hq
    | ok fl =>
      cases fl with
      | ret u => exact J.after hq
      | next => exact hq.elim
      | brk => exact hq.elim
      | cont => exact hq.elim
section
variable {P : Program} {wl : World} {mg : Str → Option Value} {base : Heap}
/-- what a family must be for calls -/
structure Fam (P : Program) (wl : World) (mg : Str → Option Value) (base : Heap) (w : WD) (gb : Bool) (n : Nat) (XS : ι → Cx) : Prop where
  prog : ∀ i, (XS i).prog = P
  wl : ∀ i, (XS i).w = wl
  K : ∀ i, (XS i).K = w.K
  mg : ∀ i, (XS i).mg = mg
  base : ∀ i, (XS i).base = base
  gd : ∀ i, Gd gb (XS i).A
  room : ∀ i, Room n (XS i).A
theorem Fam.blk {gb : Bool} {n : Nat} (F : Fam P wl mg base w gb n XS) (scope : Scope) : Fam P wl mg base w gb n (blkS XS scope) :=
  ⟨fun q => F.prog q.1, fun q => F.wl q.1, fun q => F.K q.1, fun q => F.mg q.1, fun q => F.base q.1, fun q => F.gd q.1, fun q => F.room q.1⟩
/-- how a callee's exceptions are wished for: b: it may raise -/
def WEb (b : Bool) (W : WX) : L2.St → XK := fun σ => if b = true then WE W σ else fun _ _ _ => True
/-- .. and taken -/
def Tk (b : Bool) (XS : ι → Cx) (W : WX) : Prop := b = true → ∀ i, Takes (XS i) W
theorem Tk.no : Tk false XS W := fun z => nomatch z
theorem Tk.of (h : ∀ i, Takes (XS i) W) {b : Bool} : Tk b XS W := fun _ => h
theorem Tk.at {b : Bool} (tk : Tk b XS W) (i : ι) (σ : L2.St) : PassesAt (CXb b (XS i).prog (XS i).w) (XS i) σ (WEb b W σ) := by
  cases b with
  | false => exact fun _ _ _ _ _ _ h => h.elim
  | true => exact passAt (tk rfl i) σ
theorem WEb.of {b : Bool} : ∀ (σ : L2.St) cls d H', W cls d σ H' → WEb b W σ cls d H' := fun σ cls d H' h => by
  cases b with
  | false => exact trivial
  | true => exact h
theorem de_call {gb gb' b : Bool} {n k : Nat} {φ : Fn} (F : Fam P wl mg base w gb n XS) (tk : Tk b XS W) (c : Cal P wl mg base w gb' b k x φ) (ha : DA XS w W (e :: es) args) (hgb : gb' = true → gb = true := by decide) (hk : k ≤ n := by decide) (hg : ∀ i, Gl (XS i) x := by intro _; rfl) (hdb : (x == ("__debug__" : Str)) = false := by decide) (he : ∀ i, starEach (e :: es) (XS i).env = (false, eval e (XS i).env) :: starEach es (XS i).env := by intro _; rfl)
    (hpl : ∀ i, (backTo pos (starEach es (XS i).env)).any (·.1) = false := by intro _; rfl) : DE XS w W (.Call (.Name x p) (e :: es) [] pos) (seCall φ args) := by
  obtain ⟨t, h1, h2⟩ := ha
  obtain ⟨f, ⟨fd, ps, c1, c2, c4⟩, c3⟩ := c
  refine ⟨_, fun i => ?_, re_call (E := WEb b W) WEb.of h2⟩
  have t1 := tk.at i
  rw [F.prog i, F.wl i] at t1
  exact pe_callM (CX := CXb b P wl) (by rw [F.prog i, F.wl i, F.K i, F.mg i, F.base i]; exact c1) (fun z => F.gd i (hgb z)) ((F.room i).mono hk) (hg i) (by rw [F.mg i]; exact c3) (by rw [F.K i]; exact c4) (by rw [F.K i]; exact c2) t1 (h1 i) hdb (he i) (hpl i)
/-- a def by its body -/
theorem def_D {gb bx : Bool} {y qual : Str} {s : Stmt} {f : Addr} {fd : FuncData} {N ps : List Str} {k : Nat} (Fd : Fun w.K y qual s f fd) (S : FnScope N ps (defScope s)) (hbd : Binds w.K fd ps [])
    (hb : ∀ (cdv : Value) (A : Around) (outer : List Env) (sh : Shared) (H : Hp) (E : XK), Gd gb A → Room k (A.deeper (envOfC qual (defScope s) sh.heap.objs.size f cdv)) →
      DSs (fun _ : Unit => cxOf (CXb bx P wl) P wl w.K mg base N qual (defScope s) f cdv A outer sh H E) w (fun cls d _ H => E cls d H) (defBody s) ss) : Def P wl mg base w gb bx (k + 1) f (bodyFn ps.length N.length ss) := by
  refine ⟨fd, ps, fun_X Fd S (fun vs H Q E h => spD_len h) fun cdv A outer sh H vs Q E hg hr h => ?_, hbd, Fd.kp⟩
  obtain ⟨t, h1, h2⟩ := hb cdv A outer sh H E hg hr
  exact ⟨t, h1 (), body_D h h2 fun _ _ _ _ z => z⟩
end
end
end M7
namespace M7
open PySem PySem.Spec PyProof.Rows L2
/-- a scalar's value -/
def D.vv : D → V
  | .bl b => .bl b
  | .int i => .int i
  | .str x => .str x
  | _ => .non
def D.sc : D → Bool
  | .non => true
  | .bl _ => true
  | .int _ => true
  | .str _ => true
  | _ => false
section
variable {w : WD} {W : WX} {π : Nat → V} {B B' B1 Z : Hp} {g : G} {σ : L2.St} {H H' : Hp} {v : V}
theorem lk_sc {d : D} (h : Lk w B H v d) (s : d.sc = true) : v = d.vv ∧ flatV v = true := by
  cases d <;> first | (cases s; done) | skip
  · rw [lk_non h]; exact ⟨rfl, rfl⟩
  · rw [lk_bl h]; exact ⟨rfl, rfl⟩
  · rw [lk_int h]; exact ⟨rfl, rfl⟩
  · rw [lk_str h]; exact ⟨rfl, rfl⟩
theorem dens_sc {xs : List V} {ds : List D} (h : Dens w B xs ds) (s : ds.all D.sc = true) : xs = ds.map D.vv ∧ xs.all flatV = true := by
  induction ds generalizing xs with
  | nil => cases h; exact ⟨rfl, rfl⟩
  | cons d ds ih =>
    cases h with
    | cons r t =>
      simp only [List.all_cons, Bool.and_eq_true] at s ⊢
      obtain ⟨h1, h2⟩ := ih t s.2
      obtain ⟨k1, k2⟩ := lk_sc (H := B) (.den r) s.1
      exact ⟨by rw [h1, k1]; rfl, k2, h2⟩
def inD (x : D) (ds : List D) : Bool := ds.any fun y => eqV y.vv x.vv
theorem inV_inD (x : D) (ds : List D) : inV x.vv (ds.map D.vv) = inD x ds := by
  unfold inV inD
  rw [List.any_map]
  rfl
/-- x in y: a list, a tuple of scalars; a text in a text -/
def dIn (neg : Bool) : D → D → Option (Bool × D)
  | x, .lst ds => if x.sc = true ∧ ds.all D.sc = true then some (false, .bl (if neg then !inD x ds else inD x ds)) else none
  | x, .tup ds => if x.sc = true ∧ ds.all D.sc = true then some (false, .bl (if neg then !inD x ds else inD x ds)) else none
  | .str a, .str b => some (false, .bl (if neg then !(!(Builtin.Str.occurrences b a 0 b.length 1).isEmpty) else !(Builtin.Str.occurrences b a 0 b.length 1).isEmpty))
  | _, _ => none
def rInU (K : PySem.W.Frag) (neg : Bool) : R2 := fun x y H Q => rIn K neg x y H Q ∨ (∃ i j, x = .str i ∧ y = .str j ∧ Q (.bl (if neg then !(!(Builtin.Str.occurrences j i 0 j.length 1).isEmpty) else !(Builtin.Str.occurrences j i 0 j.length 1).isEmpty)) H)
theorem op_inU {X : Cx} : OpR X (compareOp .In) (rInU X.K false) := OpR.or op_in_seq op_in_str
theorem op_notInU {X : Cx} : OpR X (compareOp .NotIn) (rInU X.K true) := OpR.or op_notIn_seq op_notin_str
theorem od_in {neg : Bool} : OpD w (rInU w.K neg) (dIn neg) := fun π B Z g σ H Q v u d e s h1 h2 q => by
  cases e <;> first | (cases d <;> exact q.elim) | skip
  · cases d <;> first | exact q.elim | skip
    exact .inr ⟨_, _, lk_str h1, lk_str h2, fin_d s q (.bl _)⟩
  · rename_i ds
    have q : PostF w π B Z g σ Q (if d.sc = true ∧ ds.all D.sc = true then some (false, .bl (if neg then !inD d ds else inD d ds)) else none) := by cases d <;> exact q
    split at q
    · rename_i hc
      obtain ⟨a, xs, rfl, ha, hx⟩ := lk_lst s.sub h2
      obtain ⟨k1, k2⟩ := lk_sc h1 hc.1
      obtain ⟨k3, k4⟩ := dens_sc hx hc.2
      refine .inl ⟨a, xs, rfl, .inl (.inl (.inl ha)), k2, k4, ?_⟩
      rw [k1, k3, inV_inD]
      exact fin_d s q (.bl _)
    · exact q.elim
  · rename_i ds
    have q : PostF w π B Z g σ Q (if d.sc = true ∧ ds.all D.sc = true then some (false, .bl (if neg then !inD d ds else inD d ds)) else none) := by cases d <;> exact q
    split at q
    · rename_i hc
      obtain ⟨a, xs, rfl, ha, hx⟩ := lk_tup s.sub h2
      obtain ⟨k1, k2⟩ := lk_sc h1 hc.1
      obtain ⟨k3, k4⟩ := dens_sc hx hc.2
      refine .inl ⟨a, xs, rfl, .inr ha, k2, k4, ?_⟩
      rw [k1, k3, inV_inD]
      exact fin_d s q (.bl _)
    · exact q.elim
theorem CallRor {X : Cx} {f : Value} {r r' : List V → Hp → VK → Prop} (h : CallR X f r) (h' : CallR X f r') : CallR X f (fun xs H Q => r xs H Q ∨ r' xs H Q) := fun pins s σ H xs us Q I rv q => q.elim (h pins s σ H xs us Q I rv) (h' pins s σ H xs us Q I rv)
/-- str(x) -/
def dStr : List D → Option (Bool × D)
  | [.int i] => if i.natAbs.log2 < 1920 then some (false, .str (toString i)) else none
  | [.str a] => some (false, .str a)
  | _ => none
def rStrU : List V → Hp → VK → Prop := fun xs H Q => (∃ i, xs = [.int i] ∧ i.natAbs.log2 < 1920 ∧ Q (.str (toString i)) H) ∨ (∃ a, xs = [.str a] ∧ Q (.str a) H)
theorem call_strU {X : Cx} : CallR X (.type "str") rStrU := CallRor call_str_int SkE.call_str_str
theorem cd_str : CallD w rStrU dStr := fun π B Z g σ H Q vs ds s h q => by
  unfold dStr at q
  split at q
  · obtain ⟨v, rfl, hv⟩ := lks1 h
    split at q
    · rename_i hz
      exact .inl ⟨_, by rw [lk_int hv], hz, fin_d s q (.str _)⟩
    · exact q.elim
  · obtain ⟨v, rfl, hv⟩ := lks1 h
    exact .inr ⟨_, by rw [lk_str hv], fin_d s q (.str _)⟩
  · exact q.elim
/-- tuple(x), list(x) -/
def dTuple : List D → Option (Bool × D)
  | [.lst ds] => some (false, .tup ds)
  | [.tup ds] => some (false, .tup ds)
  | _ => none
theorem cd_tuple : CallD w (fun xs H Q => ∃ p ys, xs = [.ref p] ∧ ((SqL w.K H p ys ∧ ∀ l, H l = none → Q (.ref l) (upd H l (.tup ys))) ∨ (SqT w.K H p ys ∧ Q (.ref p) H))) dTuple := fun π B Z g σ H Q vs ds s h q => by
  unfold dTuple at q
  split at q
  · obtain ⟨v, rfl, hv⟩ := lks1 h
    obtain ⟨a, xs, rfl, ha, hx⟩ := lk_lst s.sub hv
    exact ⟨a, xs, rfl, .inl ⟨.inl (.inl ha), fun p hp => fin_T s q hx hp⟩⟩
  · obtain ⟨v, rfl, hv⟩ := lks1 h
    obtain ⟨a, xs, rfl, ha, hx⟩ := lk_tup s.sub hv
    exact ⟨a, xs, rfl, .inr ⟨ha, fin_d s q (lk_den_tup hv)⟩⟩
  · exact q.elim
def dList : List D → Option (Bool × D)
  | [.lst ds] => some (true, .lst ds)
  | [.tup ds] => some (true, .lst ds)
  | _ => none
theorem cd_list : CallD w (fun xs H Q => ∃ p ys, xs = [.ref p] ∧ (SqL w.K H p ys ∨ SqT w.K H p ys) ∧ ∀ l, H l = none → Q (.ref l) (upd H l (.lst ys))) dList := fun π B Z g σ H Q vs ds s h q => by
  unfold dList at q
  split at q
  · obtain ⟨v, rfl, hv⟩ := lks1 h
    obtain ⟨a, xs, rfl, ha, hx⟩ := lk_lst s.sub hv
    exact ⟨a, xs, rfl, .inl (.inl (.inl ha)), fun p hp => fin_L s q hx hp⟩
  · obtain ⟨v, rfl, hv⟩ := lks1 h
    obtain ⟨a, xs, rfl, ha, hx⟩ := lk_tup s.sub hv
    exact ⟨a, xs, rfl, .inr ha, fun p hp => fin_L s q hx hp⟩
  · exact q.elim
/-- max, min of two ints -/
def dMax2 : List D → Option (Bool × D)
  | [.int i, .int j] => some (false, .int (if j > i then j else i))
  | _ => none
def dMin2 : List D → Option (Bool × D)
  | [.int i, .int j] => some (false, .int (if j < i then j else i))
  | _ => none
theorem cd_max2 : CallD w (fun xs H Q => ∃ i j, xs = [.int i, .int j] ∧ Q (.int (if j > i then j else i)) H) dMax2 := fun π B Z g σ H Q vs ds s h q => by
  unfold dMax2 at q
  split at q
  · obtain ⟨v, u, rfl, hv, hu⟩ := lks2 h
    exact ⟨_, _, by rw [lk_int hv, lk_int hu], fin_d s q (.int _)⟩
  · exact q.elim
theorem cd_min2 : CallD w (fun xs H Q => ∃ i j, xs = [.int i, .int j] ∧ Q (.int (if j < i then j else i)) H) dMin2 := fun π B Z g σ H Q vs ds s h q => by
  unfold dMin2 at q
  split at q
  · obtain ⟨v, u, rfl, hv, hu⟩ := lks2 h
    exact ⟨_, _, by rw [lk_int hv, lk_int hu], fin_d s q (.int _)⟩
  · exact q.elim
/-- all, any of a list of bools -/
def boolsOf : List D → Option (List Bool)
  | [] => some []
  | .bl b :: ds => (boolsOf ds).map (b :: ·)
  | _ => none
theorem boolsOf_map (bs : List Bool) : boolsOf (bs.map D.bl) = some bs := by
  induction bs with
  | nil => rfl
  | cons b bs ih => show (boolsOf (bs.map D.bl)).map (b :: ·) = _; rw [ih]; rfl
theorem dens_bools {xs : List V} {ds : List D} {bs : List Bool} (h : Dens w B xs ds) (e : boolsOf ds = some bs) : xs = bs.map V.bl := by
  induction ds generalizing xs bs with
  | nil => cases e; cases h; rfl
  | cons d ds ih =>
    cases d <;> first | (cases e; done) | skip
    rename_i b
    have e : (boolsOf ds).map (b :: ·) = some bs := e
    cases hb : boolsOf ds with
    | none => rw [hb] at e; cases e
    | some cs =>
      rw [hb] at e
      cases e
      cases h with
      | cons r t =>
        rw [ih t hb, lk_bl (H := B) (.den r)]
        rfl
def dAll : List D → Option (Bool × D)
  | [.lst ds] => (boolsOf ds).map fun bs => (false, .bl (bs.all id))
  | _ => none
def dAny : List D → Option (Bool × D)
  | [.lst ds] => (boolsOf ds).map fun bs => (false, .bl (bs.any id))
  | _ => none
theorem cd_all : CallD w (rAll w.K) dAll := fun π B Z g σ H Q vs ds s h q => by
  unfold dAll at q
  split at q
  · rename_i ds
    obtain ⟨v, rfl, hv⟩ := lks1 h
    obtain ⟨a, xs, rfl, ha, hx⟩ := lk_lst s.sub hv
    cases hb : boolsOf ds with
    | none => rw [hb] at q; exact q.elim
    | some bs =>
      rw [hb] at q
      rw [dens_bools hx hb] at ha
      exact ⟨a, bs, rfl, .inl (.inl ha), fin_d s q (.bl _)⟩
  · exact q.elim
theorem cd_any : CallD w (rAny w.K) dAny := fun π B Z g σ H Q vs ds s h q => by
  unfold dAny at q
  split at q
  · rename_i ds
    obtain ⟨v, rfl, hv⟩ := lks1 h
    obtain ⟨a, xs, rfl, ha, hx⟩ := lk_lst s.sub hv
    cases hb : boolsOf ds with
    | none => rw [hb] at q; exact q.elim
    | some bs =>
      rw [hb] at q
      rw [dens_bools hx hb] at ha
      exact ⟨a, bs, rfl, .inl (.inl ha), fin_d s q (.bl _)⟩
  · exact q.elim
/-- is None -/
def isNonD : D → Bool
  | .non => true
  | _ => false
def dIsN (neg : Bool) : D → D → Option (Bool × D)
  | d, .non => some (false, .bl (if neg then !isNonD d else isNonD d))
  | _, _ => none
theorem lk_isnon {d : D} (h : Lk w B H v d) : decide (v = .non) = isNonD d := by
  cases h with
  | den h => cases h <;> rfl
  | own _ h => cases h <;> rfl
theorem od_isN : OpD w (fun x y H Q => y = .non ∧ Q (.bl (decide (x = .non))) H) (dIsN false) := fun π B Z g σ H Q v u d e s h1 h2 q => by
  cases e <;> first | exact q.elim | skip
  refine ⟨lk_non h2, ?_⟩
  rw [lk_isnon h1]
  exact fin_d s q (.bl _)
theorem od_notN : OpD w (fun x y H Q => y = .non ∧ Q (.bl (!decide (x = .non))) H) (dIsN true) := fun π B Z g σ H Q v u d e s h1 h2 q => by
  cases e <;> first | exact q.elim | skip
  refine ⟨lk_non h2, ?_⟩
  rw [lk_isnon h1]
  exact fin_d s q (.bl _)
/-- -x -/
def seNeg (sb : SB) : SE := fun g => (sb g).bind fun r g1 => match r.get g1 with
  | some (.int i) => .ok (false, .int (-i)) g1
  | _ => .fail
theorem re_neg {ta : TE} {sb : SB} (h : RB w W ta sb) : RE w W (tUn (rU fun i => .int (-i)) ta) (seNeg sb) := fun π B Z g σ H Q s q =>
  h π B Z g σ H _ s (tailE.bB q fun r g1 v B1 H1 e1 s1 r1 q1 => by
    split at q1
    · rename_i i hi
      exact ⟨i, lk_int (s1.lk r1 hi), q1 _ B1 H1 (Ext.refl _) s1 (.int _)⟩
    · exact q1.elim)
theorem de_neg {ι : Type} {XS : ι → Cx} {a : Expr} {pos : Pos} {sb : SB} (h : DB XS w W a sb) : DE XS w W (.UnaryOp .USub a pos) (seNeg sb) := let ⟨t, h1, h2⟩ := h; ⟨_, fun i => pe_un un_neg (h1 i), re_neg h2⟩
/-- x = [.. for ..] -/
theorem ds_setLc {ι : Type} {XS : ι → Cx} {st : ST} {se : SE} {y : Str} {py pos spos : Pos} {elt tg iter : Expr} {ifs : List Expr} {scope : Scope} (k : Nat) (own : List (Str × Nat)) {si : SI} {sg : SG} (hnd : ∀ i, (XS i).N.Nodup) (ok : ∀ i, BlkOk (XS i).N (XS i).env.scope scope own) (hi : DI XS w W tg iter si) (hg : DG (blkS XS scope) w (own.map (·.2)) tg sg) (ht : DTs (blkS XS scope) w WT ifs st) (he : DE (blkS XS scope) w WT elt se)
    (hk : ∀ i, (XS i).env.scope.kind = .function := by intro _; rfl) (hy : ∀ i, (XS i).N[k]? = some y := by intro _; rfl) (hyl : ∀ i, (XS i).env.scope.names.lookup y = some .local := by intro _; rfl) (hl : (py.line == pos.line) = true := by rfl) (ha : (scope.names.any fun (n, k) => n == y && (k == .local || k == .cell)) = false := by rfl)
    (hc : ∀ i, (XS i).calm = true := by intro _; rfl) (hs : ∀ i x, foldedSetIterable iter (XS i).env x = pure x := by intro _ _; rfl) : DS XS w W (.Assign [.Name y py] (.ListComp elt [⟨tg, iter, ifs, 0⟩] scope pos) spos) (ssAsg (seLc si sg st se (own.map (·.2))) (sgName k)) := by
  obtain ⟨t, h1, h2⟩ := hi
  obtain ⟨u, k1, k2, k3⟩ := hg
  obtain ⟨v, l1, l2⟩ := ht
  obtain ⟨te, m1, m2⟩ := he
  exact ⟨_, fun i => ps_setLc (hc i) (hnd i) (hy i) (hyl i) (sw_true (hk i) (hyl i) hl ha) (h1 i) (ok i) (fun s H C cl fp => k1 (i, s, H, C, cl, fp)) (fun s H C cl fp => l1 (i, s, H, C, cl, fp)) (fun s H C cl fp => m1 (i, s, H, C, cl, fp)) (hs i), rs_asg (re_lc h2 k2 k3 l2 m2) rg_name⟩
/-- enumerate(list) -/
def enumD (i : Nat) : List D → List D
  | [] => []
  | d :: ds => .tup [.int (i : Nat), d] :: enumD (i + 1) ds
theorem enumD_get : ∀ {ds : List D} {k i : Nat} {d : D}, (enumD k ds)[i]? = some d → ∃ e, ds[i]? = some e ∧ d = .tup [.int ((k + i : Nat) : Int), e]
  | [], _, _, _, h => by cases h
  | e :: ds, k, 0, d, h => by
    cases h
    exact ⟨e, rfl, rfl⟩
  | e :: ds, k, i + 1, d, h => by
    obtain ⟨e', h1, h2⟩ := enumD_get (k := k + 1) (i := i) h
    exact ⟨e', h1, by rw [h2, Nat.add_right_comm, Nat.add_assoc]⟩
theorem enumD_len : ∀ (k : Nat) (ds : List D), (enumD k ds).length = ds.length
  | _, [] => rfl
  | k, d :: ds => by show (enumD (k + 1) ds).length + 1 = _; rw [enumD_len]; rfl
def en1 : List D → Option (List D)
  | [.lst ds] => some (enumD 0 ds)
  | _ => none
/-- a frozen argument -/
theorem lks_den {vs : List V} {rs : List Ref} (h : RefsOk w B σ vs rs) : ∀ {ds : List D}, datas rs = some ds → Dens w B vs ds := fun e => h.datas e
def siV (f : List D → Option (List D)) (sa : SA) : SI := fun g => (sa g).bind fun rs g1 => match datas rs with
  | some ds => match f ds with
    | some es => .ok es g1
    | none => .fail
  | none => .fail
theorem ri_enum {ta : TA} {sa : SA} (h : RA w W ta sa) : RI w W (iEnum w.K ta) (siV en1 sa) := fun π B Z g σ H R s q =>
  h π B Z g σ H _ s (Tail.bAI q fun rs g1 vs B1 H1 e1 s1 r1 q1 => by
    split at q1
    · rename_i ds hr
      have hd := r1.datas hr
      split at q1
      · rename_i es he
        unfold en1 at he
        split at he
        · rename_i ds
          cases he
          cases hd with
          | cons a t =>
            cases t
            cases a with
            | lst hb hx =>
              refine ⟨_, _, rfl, .inl (.inl (s1.sub.at hb rfl)), q1 _ B1 H1 (Ext.refl _) s1 ?_⟩
              refine walks_of walk_enum (by rw [enumD_len, hx.len]) (fun B2 H2 e2 s2 => .inl (.inl (s2.at (e2 _ _ hb) rfl))) fun B2 i d H2 x H3 e2 s2 q2 y => ?_
              obtain ⟨e, k1, rfl⟩ := enumD_get q2
              rw [Nat.zero_add]
              exact ypair (B := B1) (ds := fun i => some (.int (i : Nat))) (es := fun i => ds[i]?) (fun i d q => by cases q; exact ⟨_, rfl, .int _⟩) (fun i d q => hx.get q) B2 i _ e H2 x H3 e2 s2 rfl k1 y
        · cases he
      · exact q1.elim
    · exact q1.elim)
theorem di_enum {ι : Type} {XS : ι → Cx} {elts : List Expr} {kk : Nat} {tpos p pos : Pos} {e : Expr} {args : SA} (hm : ∀ i, (XS i).mg "enumerate" = none) (ha : DA XS w W [e] args) (hg : ∀ i, Gl (XS i) "enumerate" := by intro _; rfl) (hs : ∀ i, starEach [e] (XS i).env = [(false, eval e (XS i).env)] := by intro _; rfl) (hK : ∀ i, (XS i).K = w.K := by intro _; rfl) :
    DI XS w W (.Tuple elts kk tpos) (.Call (.Name "enumerate" p) [e] [] pos) (siV en1 args) := by
  obtain ⟨t, h1, h2⟩ := ha
  exact ⟨_, fun i => by rw [← hK i]; exact pi_enum (hg i) (hm i) (h1 i) (hs i), ri_enum h2⟩
/-- y[i] = v, y a name with a list of one's own -/
theorem ds_setL {ι : Type} {XS : ι → Cx} {ev ei : Expr} {y : Str} {pos pos' py : Pos} {sv si : SE} (k : Nat) (hv : DE XS w W ev sv) (hi : DE XS w W ei si) (hN : ∀ i, (XS i).N[k]? = some y := by intro _; rfl) (hvis : ∀ i, Vis (XS i).env.scope y := by intro _; first | exact Or.inl rfl | exact Or.inr (Or.inl rfl) | exact Or.inr (Or.inr rfl)) (hd : (y == ("__debug__" : Str)) = false := by decide) (hcd : (y == ("__classdict__" : Str)) = false := by decide)
    (ha : ∀ i v, assign (.Subscript (.Name y py) ei pos') (XS i).env v = (do
      let ov ← holding [v] (eval (.Name y py) (XS i).env)
      let iv ← holding [v, ov] (eval ei (XS i).env)
      standAt pos'
      holding [v, ov, iv] (setItem ov iv v)
      release [v, ov, iv] []) := by intro _ _; rfl)
    (hs : ∀ i, swapsWithSole [.Subscript (.Name y py) ei pos'] ev pos.line (XS i).env = pure false := by intro _; rfl) (hw : ∀ i, swappedStores [.Subscript (.Name y py) ei pos'] ev (XS i).env = pure none := by intro _; rfl) (h1 : ∀ i, (assignEach [.Subscript (.Name y py) ei pos'] (XS i).env).map (·.2) = [assign (.Subscript (.Name y py) ei pos') (XS i).env] := by intro _; rfl) :
    DS XS w W (.Assign [.Subscript (.Name y py) ei pos'] ev pos) (ssSetL k sv si) := by
  obtain ⟨t, k1, k2⟩ := hv
  obtain ⟨u, l1, l2⟩ := hi
  exact ⟨_, fun i => ps_asg (k1 i) (pg_sub (pe_var (hN i) (hvis i) hd hcd) (l1 i) set_list (ha i)) (hs i) (hw i) (h1 i), rs_setL k2 l2⟩
end
end M7
/-! Pieces at the library's level. -/
namespace R7
open PySem PySem.Spec PyProof.Rows L2
/-! ### a static method called off its class -/
structure SMet (K : PySem.W.Frag) (C : Addr) (mc : Value) (m : Str) (p g : Addr) : Prop where
  at_ : PySem.W.findCls K (.ref C) mc m = some (.get (.builtin "staticmethod.__get__") (.ref p) .none (.ref C))
  rc : ∃ rest, PySem.W.recIn K p "staticmethod" = some (.ref g :: rest)
  kp : PySem.W.keepIn K (.ref g) = true
/-- C.m(e, ..) -/
def tSMeth (C : Addr) (sp : Sp) (E : XK) (ta : TE) (t : TA) : TE := fun σ H Q => ta σ H fun x H1 => x = .ref C ∧ t σ H1 fun vs H2 => sp vs H2 Q E
section
variable {X : Cx} {CX : CXT} {k : Nat} {C p g : Addr} {mc : Value} {fd : FuncData} {ps : List Str} {sp : Sp} {E : XK} {o e : Expr} {es : List Expr} {m : Str} {pos apos : Pos} {ta : TE} {t : TA} {pl : Sem Bool}
theorem pe_smeth (he : PE X o ta) (r : ClX.CRead X.K C mc) (c : SMet X.K C mc m p g) (F : FnOk X.prog X.w X.K X.mg X.base CX k g fd ps sp) (hr : Room k X.A) (hb : Binds X.K fd ps []) (hx : Passes CX X E) (ha : PA X (e :: es) t)
    (hst : starEach (e :: es) X.env = (false, eval e X.env) :: starEach es X.env := by rfl) (hpl : (backTo pos (starEach es X.env)).any (·.1) = false := by rfl)
    (ht : eval (.Call (.Attribute o m apos) (e :: es) [] pos) X.env = (do
      let ov ← eval o X.env
      standAt apos.atName
      let (f, first) ← holding [ov] (getMethod ov m pl)
      callWith pos f first (backTo pos (starEach (e :: es) X.env)) (backToKw pos (keywordEach [] X.env))) := by rfl) :
    PE X (.Call (.Attribute o m apos) (e :: es) [] pos) (tSMeth C sp E ta t) := by
  constructor
  intro pins s σ H Q I h
  refine PySem.W.methodCall_KW (pl := pl) (thn (he.run pins s σ H _ I h) fun u s1 z => ?_) ht
  obtain ⟨x, H1, J, rx, ex, q⟩ := z
  subst ex
  obtain rfl : u = Value.ref C := rx
  obtain ⟨rest, hp⟩ := c.rc
  refine PySem.W.method_cls J.kIn r.ga ?_
  refine PySem.W.cls_bind J.kIn r.rd c.at_ (wpAny_call ?_)
  refine PySem.W.sm_get (s := { s1 with toks := s1.toks + 1 }) J.kIn hp (PySem.W.handed_on rfl ?_)
  have J2 : Inv X pins σ H1 { s1 with toks := s1.toks + 1 } := J.tok _
  refine PySem.W.callWith_K (first := []) (h₀ := X.base) I.ok.mod.kin c.kp ?_ hst hpl
  refine thn (ha.run pos pins _ σ H1 _ J2 q) fun us s3 z => ?_
  obtain ⟨vs, H3, J3, r3, q3⟩ := z
  exact ⟨J3.kIn, run_fn F hr hb .nil hx J3 r3 (by rw [List.append_nil]; exact q3)⟩
end
def gFld (K : PySem.W.Frag) (ta : TE) (f : Str) : TG := fun v σ H Q => ta σ H fun x H1 => ∃ a C dx fs, x = .ref a ∧ H1 a = some (.ins C dx fs) ∧ Cls K C ∧ NoAttr K C f ∧ fs.length < 1000 ∧ Q σ (upd H1 a (.ins C dx (putF f v fs)))
theorem pg_fld {X : Cx} {o : Expr} {ta : TE} {f : Str} {pos : Pos} (ha : PE X o ta) : PG X (.Attribute o f pos) (gFld X.K ta f) := by
  refine ⟨fun pins s σ H v u Q I r h => ?_⟩
  rw [arm_assign_Attribute]
  refine wpAny_bind (wpAny_holding (thn (ha.run pins s σ H _ I h) fun ov s1 ⟨x, H1, I1, rx, a, C, dx, fs, ex, ea, c, n, l, q⟩ => ?_))
  subst ex
  obtain rfl : ov = Value.ref a := rx
  refine wpAny_bind (wpAny_standAt (wpAny_bind (wpAny_holding (setattr_ok I1 ea c n l r fun s3 I3 => ?_))))
  exact wpAny_release ⟨σ, _, I3, q⟩
end R7
set_option maxHeartbeats 2000000
/-! defs `f(self, *rest, k = d, ..)`: a promise with keywords; a class called with keywords; `C.m(e, *y, k = v, ..)`. -/
namespace R7
open PySem PySem.Spec PyProof.Rows L2
/-! ### calls with a star and keywords -/
section
variable {M : Model} {A : Around} {E : Value → Shared → Prop} {s : Shared}
theorem ks_callKW {f : Value} {first : List Value} {pos : Pos} {Q : Value → Shared → Prop} {P : Heap → Prop} {args : List (Bool × Sem Value)} {kws : List (Option Str × Sem Value)} (hst : (args.any (·.1) || kws.any (·.1.isNone)) = true)
    (hk : ∀ h, P h → ∃ k, (k = Keeper.frame ∨ k = Keeper.machine ∨ k = Keeper.boundFrame) ∧ PySem.W.Looks M h (keeperOf f) k)
    (h : wpAny M A (evalArgs f true args kws) (fun a s₁ => P s₁.heap ∧ wpAny M A (call f (first ++ a.pos) a.kw) Q E s₁) E s) : wpAny M A (callWith pos f first args kws) Q E s := by
  unfold callWith
  refine wpAny_bind (wpAny_holding (wpAny_mono h (fun a s₁ h₁ => wpAny_bind (wpAny_standAt ?_)) fun _ _ x => x))
  obtain ⟨k, hk', L⟩ := hk _ h₁.1
  simp only [hst]
  refine wpAny_bind (L.here ?_)
  have tail : ∀ {t : Sem Value}, wpAny M A t Q E s₁ → wpAny M A (t >>= fun r => holding [r] point >>= fun _ => pure r) Q E s₁ :=
    fun ht => wpAny_bind (wpAny_mono ht (fun r s₂ hr => wpAny_bind (wpAny_holding (wpAny_point (wpAny_pure hr)))) fun _ _ x => x)
  have marked (mk : Value) : wpAny M A (callMarked mk f (first ++ a.pos) a.kw) Q E s₁ := by unfold callMarked; exact Calls.wpAny_keep h₁.2
  rcases hk' with rfl | rfl | rfl <;> dsimp only <;> first | exact tail (marked _) | exact tail (wpAny_operating h₁.2)
theorem starcallKW_of {env : Env} {o e1 e2 : Expr} {m : Str} {kws : List Keyword} {p apos pos : Pos} {Q : Value → Shared → Prop} (hbase : attributeBase o m env (eval o env) = eval o env)
    (hst : starEach [e1, .Starred e2 p] env = [(false, eval e1 env), (true, eval e2 env)])
    (h : wpAny M A (eval o env) (fun ov s₁ => wpAny M A (getAttr ov m true) (fun f s₂ => wpAny M A (callWith pos f [] (backTo pos [(false, eval e1 env), (true, eval e2 env)]) (backToKw pos (keywordEach kws env))) Q E s₂) E s₁) E s) :
    wpAny M A (eval (.Call (.Attribute o m apos) [e1, .Starred e2 p] kws pos) env) Q E s := by
  have hform : methodCallForm ([e1, Expr.Starred e2 p].length + kws.length) (backTo pos [(false, eval e1 env), (true, eval e2 env)]) (backToKw pos (keywordEach kws env)) = false := rfl
  have hpos : methodCallPos false o env apos pos = pure pos := rfl
  have hcal : ∀ ov, calleeOf false o env ov m = (getAttr ov m true >>= fun v => pure (v, [])) := fun _ => rfl
  rw [arm_eval_Call, hbase, hst]
  refine wpAny_bind (wpAny_mono h (fun ov s₁ h₁ => ?_) fun _ _ x => x)
  refine wpAny_bind (wpAny_standAt ?_)
  unfold methodCall
  rw [hform, hpos, hcal]
  refine wpAny_bind (wpAny_holding (wpAny_bind (wpAny_mono h₁ (fun f s₂ h₂ => wpAny_pure ?_) fun _ _ x => x)))
  exact wpAny_bind (wpAny_pure h₂)
end
/-! ### a promise with keywords -/
abbrev Sp2 : Type := List V → List V → Hp → VK → XK → Prop
def FnK (P : Program) (w : World) (K : PySem.W.Frag) (mg : Str → Option Value) (base : Heap) (CX : CXT) (k : Nat) (f : Addr) (ks : List Str) (sp : Sp2) : Prop :=
  ∀ (A : Around) (outer : List Env) (s : Shared) (H : Hp) (us ws : List Value) (vs zs : List V) (Q : VK) (E : XK), Room k A → Env0 P w K mg base A outer s H → Vals vs us → Vals zs ws → zs.length = ks.length → sp vs zs H Q E →
    codeAny (model P w) A (.call (.ref f) ⟨us, ks.zip ws⟩) (CR CX outer P w H s Q E) s
section
variable {P : Program} {w : World} {K : PySem.W.Frag} {mg : Str → Option Value} {base : Heap} {CX : CXT} {k : Nat} {f : Addr} {ks : List Str} {sp : Sp2}
theorem FnK.fnR (F : FnK P w K mg base CX k f [] sp) : FnR P w K mg base CX k f (fun vs H Q E => sp vs [] H Q E) :=
  fun A outer s H us vs Q E hr e0 r h => F A outer s H us [] vs [] Q E hr e0 r .nil rfl h
theorem FnR.fnK {sp : Sp} (F : FnR P w K mg base CX k f sp) : FnK P w K mg base CX k f [] (fun vs _ H Q E => sp vs H Q E) :=
  fun A outer s H us ws vs zs Q E hr e0 r _ _ h => by
    rw [List.zip_nil_left]
    exact F A outer s H us vs Q E hr e0 r h
end
/-! ### binding -/
/-- t looks names up in the dict at D, one behind another, and goes on as t' -/
def KwTo {α : Type} (D : Addr) : List (Str × Value) → Sem α → Sem α → Prop
  | [], t, t' => t = t'
  | q :: l, t, t' => ∃ (β γ : Type) (k1 : Option Value → Sem β) (k2 : β → Sem γ) (k3 : γ → Sem α) (a : β), t = ((nsGet D q.1 >>= k1) >>= k2) >>= k3 ∧ k1 (some q.2) = pure a ∧ KwTo D l (k2 a >>= k3) t'
theorem KwTo.run {α : Type} {K : PySem.W.Frag} {M : Model} {A : Around} {D : Addr} {E : Value → Shared → Prop} {Q : α → Shared → Prop} {s : Shared} (X : K.In s.heap) : ∀ {l : List (Str × Value)} {t t' : Sem α}, KwTo D l t t' →
    (∀ q ∈ l, PySem.W.nsIn K D q.1 = some (some q.2)) → wpAny M A t' Q E s → wpAny M A t Q E s
  | [], t, t', e, _, h => by
    obtain rfl : t = t' := e
    exact h
  | q :: l, t, t', e, hl, h => by
    obtain ⟨β, γ, k1, k2, k3, a, rfl, e2, e3⟩ := e
    have z := KwTo.run (M := M) (A := A) X e3 (fun p hp => hl p (List.mem_cons_of_mem _ hp)) h
    rw [bind_assoc, bind_assoc]
    refine wpAny_bind ((PySem.W.looks_nsIn X (hl q List.mem_cons_self)).here ?_)
    rw [e2, pure_bind]
    exact z
section
variable {P : Program} {w : World} {K : PySem.W.Frag} {mg : Str → Option Value} {base : Heap} {CX : CXT} {k : Nat} {f : Addr} {name qual : Str} {params : Arguments} {body : List Stmt} {scope : Scope} {dV kV doc pm cdv ct oc : Value} {an od : Option Addr}
  {osl : Array (Option Value)} {N opts ks : List Str} {sp : Sp} {p1 pv : Str} {g : List Value → List Value} {gV : List V → List V}
/-- def f(a, *v, k = d, ..), called with keywords ks -/
theorem fn_starK (lk : K.lookup f = some ⟨oc, od, .func (PySem.W.fnOf name qual params body scope dV kV doc pm an cdv ct), osl⟩) (hcd : PySem.W.codeIn K cdv qual = true) (S : FnScope N (p1 :: (opts ++ [pv])) scope) (hCX : StX.CXUp CX)
    (hrel : ∀ {zs : List V} {ws : List Value}, Vals zs ws → zs.length = ks.length → Vals (gV zs) (g ws)) (hlen : ∀ zs : List V, zs.length = ks.length → (gV zs).length = opts.length)
    (hb : ∀ (M : Model) (A : Around) (Q : List (Str × Value) → Shared → Prop) (Ex : Value → Shared → Prop) (s : Shared) (a : Value) (rest ws : List Value), K.In s.heap → ws.length = ks.length →
      wpAny M A (newTuple rest >>= fun t => pure ((p1 :: opts).zip (a :: g ws) ++ [(pv, t)])) Q Ex s → wpAny M A (bindArgs (PySem.W.fnOf name qual params body scope dV kV doc pm an cdv ct) ⟨a :: rest, ks.zip ws⟩) Q Ex s)
    (hbody : ∀ (A : Around) (outer : List Env) (s : Shared) (H : Hp) (vs : List V) (Q : VK) (E : XK), Room k (A.deeper (envOfC qual scope s.heap.objs.size f cdv)) → sp vs H Q E →
      ∃ t, PSs (cxOf CX P w K mg base N qual scope f cdv A outer s H E) body t ∧ t { nx := fun _ H' => Q .non H', rt := Q } (start N vs) H) :
    FnK P w K mg base CX (k + 1) f ks (fun vs zs H Q E => ∃ a rest, vs = a :: rest ∧ rest.length ≤ sizeLine ∧ ∀ p, H p = Option.none → sp (a :: (gV zs ++ [V.ref p])) (upd H p (.tup rest)) Q E) := by
  intro A outer s H us ws vs zs Q E hr e0 r rz lz hsp
  obtain ⟨a, rest, rfl, hz, hq⟩ := hsp
  obtain ⟨u, u2, rfl, ru, r2⟩ : ∃ u u2, us = u :: u2 ∧ RelV a u ∧ Vals rest u2 := by
    cases r with
    | cons h t => exact ⟨_, _, rfl, h, t⟩
  have hn : H s.heap.objs.size = Option.none := e0.hok.fresh (Nat.le_refl _)
  have hl2 : u2.length ≤ sizeLine := by rw [← r2.length]; exact hz
  have lw : ws.length = ks.length := rz.length.symm.trans lz
  have rg := hrel rz lz
  refine StX.run_bnd (ps := p1 :: (opts ++ [pv])) lk hcd S hr e0 (G := fun xs H2 => ∃ p, H p = Option.none ∧ xs = a :: (gV zs ++ [V.ref p]) ∧ H2 = upd H p (.tup rest)) (fun A' Ex Q' h => ?_) fun s2 H2 xs ⟨p, hp, ex, eH⟩ hr' => ?_
  · refine hb _ _ _ _ _ _ _ _ (e0.mod.kin.keeps fun b o e => (e0.bs b o e).1) lw ?_
    refine wpAny_bind (wpAny_newTuple (wpAny_pure ?_) hl2)
    have new : ObjOk P w (upd H s.heap.objs.size (.tup rest)) (s.heap.push ({ cls := .type "tuple", data := .seq u2.toArray } : Obj)) s.heap.objs.size (.tup rest) := ⟨hz, u2, r2, ⟨_, Heap.get?_push_size _ rfl, rfl, _, rfl⟩⟩
    have un := StX.un_laid (fs := frs outer) (s := s) (o := ({ cls := .type "tuple", data := .seq u2.toArray } : Obj)) (u := .tup rest) hn
    have z := h _ _ (a :: (gV zs ++ [V.ref s.heap.objs.size])) (u :: (g ws ++ [Value.ref s.heap.objs.size])) (StX.env0_laid e0 new) un rfl (fun e s' => hCX outer s H _ _ E e s' un (fun b o q => Heap.get?_push_of_some _ q) rfl) (.cons ru (rg.append (.cons rfl .nil)))
      (by rw [List.length_cons, List.length_cons, List.length_append, List.length_append, hlen zs lz] <;> rfl) ⟨_, hn, rfl, rfl⟩
    have hl1 : opts.length = (g ws).length := by rw [← rg.length, hlen zs lz]
    rw [List.zip_cons_cons, List.zip_append hl1] at z
    exact z
  · subst ex eH
    exact hbody A outer s2 _ _ Q E hr' (hq p hp)
end
/-- g puts the keywords' values in the parameters' order: binding needs the two cases (nothing left over; something) -/
theorem bind_starK {M : Model} {A : Around} {Q : List (Str × Value) → Shared → Prop} {Ex : Value → Shared → Prop} {s : Shared} {B : Value → List Value → Sem (List (Str × Value))} {G : Value → Value → List (Str × Value)}
    (h0 : ∀ a, B a [] = (newTuple [] >>= fun t => pure (G a t))) (h1 : ∀ a r rs, B a (r :: rs) = (newTuple (r :: rs) >>= fun t => pure (G a t))) (a : Value) (rest : List Value) (h : wpAny M A (newTuple rest >>= fun t => pure (G a t)) Q Ex s) : wpAny M A (B a rest) Q Ex s := by
  cases rest with
  | nil => rw [h0]; exact h
  | cons r rs => rw [h1]; exact h
/-! ### C(e, .., k = v, ..) and C.m(e, *y, k = v, ..) -/
def tMakeK (C : Addr) (sp : Sp2) (m : Nat) (E : L2.St → XK) (t tk : TA) : TE := fun σ H Q => t σ H fun vs H1 => tk σ H1 fun zs H2 => zs.length = m ∧
  ∀ x dx, H2 x = none → H2 dx = none → dx ≠ x → sp (.ref x :: vs) zs (upd (upd H2 dx (.own x)) x (.ins C dx [])) (fun v H3 => v = .non ∧ Q (.ref x) H3) (E σ)
def tClsS (K : PySem.W.Frag) (C : Addr) (sp : Sp2) (m : Nat) (E : L2.St → XK) (ta t1 t2 : TE) (tk : TA) : TE := fun σ H Q => ta σ H fun x H1 => x = .ref C ∧ t1 σ H1 fun y1 H2 => t2 σ H2 fun y2 H3 => ∃ b vs, y2 = .ref b ∧ (SqT K H3 b vs ∨ SqL K H3 b vs) ∧
  tk σ H3 fun zs H4 => zs.length = m ∧ sp (y1 :: vs) zs H4 Q (E σ)
section
variable {X : Cx} {CX : CXT} {k : Nat} {f g C : Addr} {ks : List Str} {sp : Sp2} {E : XK} {x m : Str} {mc : Value} {p apos pos : Pos} {o e e1 e2 : Expr} {es : List Expr} {kws : List Keyword} {ta t1 t2 : TE} {t tk : TA}
theorem run_fnK {pins : List (Addr × Obj)} {σ : L2.St} {H : Hp} {s : Shared} {Q : VK} {us ws : List Value} {vs zs : List V} (F : FnK X.prog X.w X.K X.mg X.base CX k f ks sp) (hr : Room k X.A) (hx : PassesAt CX X σ E) (I : Inv X pins σ H s) (r : Vals vs us) (rz : Vals zs ws) (l : zs.length = ks.length) (h : sp vs zs H Q E) :
    codeAny (model X.prog X.w) X.A (.call (.ref f) ⟨us, ks.zip ws⟩) (fun r s' => match r with | .ok (.ret v) => EP X pins σ Q v s' | .ok _ => False | .error e => X.xe e s') s := by
  refine codeAny_mono (F X.A X.stack s H us ws vs zs Q E hr I.env0 r rz l h) fun r s' hq => ?_
  cases r with
  | error e => exact hx pins H s e s' I hq
  | ok fl =>
    cases fl with
    | ret u => exact I.after hq
    | next => exact False.elim hq
    | brk => exact False.elim hq
    | cont => exact False.elim hq
theorem run_makeK {pins : List (Addr × Obj)} {σ : L2.St} {H : Hp} {s : Shared} {Q : VK} {us ws : List Value} {vs zs : List V} (M : Mk X.K C f) (F : FnK X.prog X.w X.K X.mg X.base CX k f ks sp) (hr : Room (k + 1) X.A)
    (hx : PassesAt CX X σ E) (I : Inv X pins σ H s) (r : Vals vs us) (rz : Vals zs ws) (l2 : zs.length = ks.length)
    (h : ∀ x dx, H x = none → H dx = none → dx ≠ x → sp (.ref x :: vs) zs (upd (upd H dx (.own x)) x (.ins C dx [])) (fun v H2 => v = .non ∧ Q (.ref x) H2) E) :
    wpAny (model X.prog X.w) X.A (call (.ref C) us (ks.zip ws)) (EP X pins σ Q) X.xe s := by
  have hq := h (s.heap.objs.size + 1) s.heap.objs.size (I.hok.fresh (Nat.le_succ _)) (I.hok.fresh (Nat.le_refl _)) (Nat.ne_of_lt (Nat.lt_succ_self _))
  have I2 := Inv.made (C := C) I
  have r1 : Vals (V.ref (s.heap.objs.size + 1) :: vs) (Value.ref (s.heap.objs.size + 1) :: us) := .cons rfl r
  refine wpAny_call (make_map (f := f) I.kIn M.makes M.init (beq_iff_eq.mp M.fn) (codeAny_mono (F _ X.stack _ _ (Value.ref (s.heap.objs.size + 1) :: us) ws _ zs _ E (hr.make C us (ks.zip ws))
    (I2.env0.make C us (ks.zip ws)) r1 rz l2 hq) fun r s' hq' => ?_))
  cases r with
  | error e => exact hx pins _ _ e s' I2 hq'
  | ok fl =>
    cases fl with
    | ret u =>
      obtain ⟨v, H', I3, rv, ev, q3⟩ := I2.after hq'
      subst ev
      exact ⟨rv, ⟨V.ref (s.heap.objs.size + 1), H', I3, rfl, q3⟩⟩
    | next => exact False.elim hq'
    | brk => exact False.elim hq'
    | cont => exact False.elim hq'
theorem pe_makeK (M : Mk X.K C f) (F : FnK X.prog X.w X.K X.mg X.base CX k f ks sp) (hr : Room (k + 1) X.A) (hg : Gl X x) (hm : X.mg x = some (.ref C)) {E : L2.St → XK} (hx : ∀ σ, PassesAt CX X σ (E σ))
    (ha : PA X (e :: es) t) (hkw : PK X kws tk) (hall : (backToKw pos (keywordEach kws X.env)).all (·.1.isSome) = true := by rfl) (hks : (backToKw pos (keywordEach kws X.env)).filterMap (·.1) = ks := by rfl)
    (hdb : (x == ("__debug__" : Str)) = false := by decide) (he : starEach (e :: es) X.env = (false, eval e X.env) :: starEach es X.env := by rfl)
    (hpl : ((backTo pos (starEach (e :: es) X.env)).any (·.1) || (backToKw pos (keywordEach kws X.env)).any (·.1.isNone)) = false := by rfl) :
    PE X (.Call (.Name x p) (e :: es) kws pos) (tMakeK C sp ks.length E t tk) := by
  refine ⟨fun pins s σ H Q I h => ?_⟩
  refine wpAny_Call_Name_kw (ld_glob I hg hm ?_ hdb)
  refine PySem.W.callWith_KW (h₀ := X.base) I.ok.mod.kin M.kp hall (thn (ha.run pos pins s σ H _ I h) fun us s1 ⟨vs, H1, I1, r, q⟩ => ?_) hpl he
  refine thn (hkw.run pos pins s1 σ H1 _ I1 q) fun ws s2 ⟨zs, H2, I2, rz, l2, q2⟩ => ⟨I2.kIn, ?_⟩
  rw [hks]
  exact run_makeK M F hr (hx σ) I2 r rz l2 q2
theorem pe_clsS (he : PE X o ta) (rd : ClX.CRead X.K C mc) (at_ : PySem.W.findCls X.K (.ref C) mc m = some (.val (.ref g))) (kg : PySem.W.keepIn X.K (.ref g) = true) (F : FnK X.prog X.w X.K X.mg X.base CX k g ks sp) (hr : Room k X.A)
    {E : L2.St → XK} (hx : ∀ σ, PassesAt CX X σ (E σ)) (h1 : PE X e1 t1) (h2 : PE X e2 t2) (hkw : PK X kws tk) (hall : (backToKw pos (keywordEach kws X.env)).all (·.1.isSome) = true := by rfl) (hks : (backToKw pos (keywordEach kws X.env)).filterMap (·.1) = ks := by rfl)
    (hbase : attributeBase o m X.env (eval o X.env) = eval o X.env := by rfl) (hst : starEach [e1, .Starred e2 p] X.env = [(false, eval e1 X.env), (true, eval e2 X.env)] := by rfl) :
    PE X (.Call (.Attribute o m apos) [e1, .Starred e2 p] kws pos) (tClsS X.K C sp ks.length E ta t1 t2 tk) := by
  refine ⟨fun pins s σ H Q I h => ?_⟩
  refine starcallKW_of hbase hst (thn (he.run pins s σ H _ I h) fun u s1 ⟨x, H1, I1, rx, ex, q⟩ => ?_)
  subst ex
  obtain rfl : u = Value.ref C := rx
  refine PySem.W.cls_value I1.kIn rd.rd at_ (handed_of (v := V.ref g) rfl) ?_
  have I1' := I1.tok (s1.toks + 1)
  refine ks_callKW (P := fun h => X.K.In h) rfl (PySem.W.keeps_K kg) ?_
  refine evalArgs_kw hall ?_
  refine Calls.spliced_cons (thn (h1.run pins _ σ _ _ I1' q) fun v1 s3 ⟨y1, H2, I3, ry1, q2⟩ =>
    PySem.W.ks_spliced (thn (h2.run pins s3 σ H2 _ I3 q2) fun v2 s4 ⟨y2, H3, I4, ry2, t, vs, ey, ht, q3⟩ => ?_))
  subst ey
  obtain rfl : v2 = Value.ref t := ry2
  refine StX.star_any I4 ht fun us s5 I5 rv => Calls.spliced_nil ?_
  refine thn (hkw.run pos pins s5 σ H3 _ I5 q3) fun ws s6 ⟨zs, H4, I6, rz, l, q4⟩ => ⟨I6.kIn, ?_⟩
  rw [hks]
  have := wpAny_call (run_fnK (us := v1 :: us) (vs := y1 :: vs) F hr (hx σ) I6 (.cons ry1 rv) rz l q4)
  simpa using this
end
end R7

set_option maxHeartbeats 2000000
/-! enumerate of a tuple -/
namespace PySem
open Sem (wp)
open AutoSeq1 (wpAny_loadPart')
theorem meets_enumerate_newT (l : Addr) (items : Array Value) (n : Nat) (dct : Option Addr) (sl : Array (Option Value)) :
    Meets (Builtin.«enumerate.__new__» ⟨[.type "enumerate", .ref l], []⟩) (fun _ R s => s.heap.get? l = some { cls := .type "tuple", dict := dct, data := .seq items n, slots := sl } ∧
      R (.ok (.ret (.ref (s.heap.push { cls := .type "tuple_iterator", data := .fields #[.ref l, .int 0 0] }).objs.size)))
        { s with heap := (s.heap.push { cls := .type "tuple_iterator", data := .fields #[.ref l, .int 0 0] }).push { cls := .type "enumerate", data := .fields #[.none, .bool false, .ref s.heap.objs.size, rawInt 0, .none, .none] } }) :=
  .of_wp fun prog w A R s h => by
    obtain ⟨hp, g, d, tk, os⟩ := s; obtain ⟨hl, h⟩ := h
    have hsub := sub_enumerate
    have hL : Heap.IsTuple (Shared.heap ⟨hp, g, d, tk, os⟩) l items := ⟨_, hl, rfl, n, rfl⟩
    wp_walk using wpAny_loadPart' hl
    refine wpAny_stack_any fun st => wpAny_pure ?_
    split
    · rename_i c _ _ _ _ _
      cases (c == Value.type "enumerate")
      · wp_walk using wpAny_loadPart' hl, wpAny_pyIter_tuple hL
        exact ⟨_, rfl, h⟩
      · wp_walk using wpAny_loadPart' hl, wpAny_pyIter_tuple hL
        exact ⟨_, rfl, h⟩
    · wp_walk using wpAny_loadPart' hl, wpAny_pyIter_tuple hL
      exact ⟨_, rfl, h⟩
theorem call_enumerate_tuple {prog : Program} {w : World} {A : Around} {E : Value → Shared → Prop} {s : Shared} {l : Addr} {items : Array Value} {Q : Value → Shared → Prop} (hL : s.heap.IsTuple l items)
    (h : ∀ h', IsEnum h' (s.heap.objs.size + 1) s.heap.objs.size 0 .none → h'.IsTupleIter s.heap.objs.size l 0 → h'.objs.size = s.heap.objs.size + 2 →
      (∀ b o, s.heap.get? b = some o → h'.get? b = some o) → Q (.ref (s.heap.objs.size + 1)) { s with heap := h' }) :
    wpAny (model prog w) A (call (.type "enumerate") [.ref l]) Q E s := by
  obtain ⟨⟨c, dct, dt, sl⟩, hl, hc, n, hd⟩ := hL
  replace hc : c = .type "tuple" := hc
  replace hd : dt = .seq items n := hd
  subst hc hd
  refine callType_new F.called_enumerate (by decide) (F.typeCall_enumerate_1 _) (F.newCall_enumerate_1 _) (fun obj => F.args_object_init_2 obj _) F.entry_enumerate_new
    (meets_enumerate_newT l items n dct sl) ⟨hl, ?_⟩
  have hz : (s.heap.push { cls := .type "tuple_iterator", data := .fields #[.ref l, .int 0 0] }).objs.size = s.heap.objs.size + 1 := Heap.size_push ..
  show _ ∧ _
  rw [hz]
  have he : IsEnum ((s.heap.push { cls := .type "tuple_iterator", data := .fields #[.ref l, .int 0 0] }).push
      { cls := .type "enumerate", data := .fields #[.none, .bool false, .ref s.heap.objs.size, rawInt 0, .none, .none] }) (s.heap.objs.size + 1) s.heap.objs.size 0 .none := by
    have := Heap.get?_push_size (s.heap.push { cls := .type "tuple_iterator", data := .fields #[.ref l, .int 0 0] })
      (o := { cls := .type "enumerate", data := .fields #[.none, .bool false, .ref s.heap.objs.size, rawInt 0, .none, .none] }) rfl
    rw [hz] at this; exact this
  refine ⟨⟨_, he, rfl⟩, h _ he ⟨_, Heap.get?_push_of_some _ (Heap.get?_push_size _ rfl), rfl, rfl⟩ (by rw [Heap.size_push, hz]) fun b o x => Heap.get?_push_of_some _ (Heap.get?_push_of_some _ x)⟩
end PySem
namespace R7
open PySem PySem.Spec PyProof.Rows L2
def Iet (K : PySem.W.Frag) (a : Addr) : It :=
  ⟨fun i H => ∃ (xs : List V) (x : V), SqT K H a xs ∧ xs[i]? = some x, fun i H v H' => ∃ T x, v = .ref T ∧ H T = none ∧ H' = upd H T (.tup [.int (i : Nat), x]) ∧ ∀ xs, SqT K H a xs → xs[i]? = some x, fun i H => ∃ xs : List V, SqT K H a xs ∧ xs.length ≤ i⟩
theorem apart_of {h : Heap} {a b : Addr} {o u : Obj} (e : h.get? a = some o) (e' : h.get? b = some u) (n : o.cls ≠ u.cls) : a ≠ b := fun z => by
  subst z
  rw [e] at e'
  injection e' with e'
  exact n (by rw [e'])
theorem turn_enumT {P : Program} {w : World} {K : PySem.W.Frag} {elts : List Expr} {kk : Nat} {tpos : Pos} (a e it : Addr) :
    Turn P w K (.Tuple elts kk tpos) (Iet K a) [e, it] e (fun i h => (∃ old, IsEnum h e it ((i : Nat) : Int) old) ∧ h.IsTupleIter it a i ∧ e ≠ it) where
  mem := by simp
  obj := fun i h st b hb => by
    obtain ⟨⟨old, he⟩, ⟨o, ho, hc, hd⟩, _⟩ := st
    have e' : b = e ∨ b = it := by simpa using hb
    rcases e' with z | z
    · rw [z]; exact ⟨_, he, fun v q => nomatch q⟩
    · rw [z]; exact ⟨o, ho, fun v q => by rw [hd] at q; cases q⟩
  keep := fun i h h' st k => let ⟨⟨old, he⟩, hi, hne⟩ := st; ⟨⟨old, k e (by simp) _ he⟩, hi.at fun o q => k it (by simp) o q, hne⟩
  item := by
    intro X hP hw hK hc i pins s σ H E I hf st hg
    subst hP hw hK
    obtain ⟨⟨old, he⟩, hit, hne⟩ := st
    obtain ⟨xs, x, hq, hx⟩ := hg
    obtain ⟨its, rv, p, hz⟩ := I.tuple hq
    obtain ⟨u, hu, ru⟩ := rv.get hx
    have hel : e < s.heap.objs.size := Heap.lt_size he
    have hil : it < s.heap.objs.size := by obtain ⟨_, q, _⟩ := hit; exact Heap.lt_size q
    obtain ⟨ot, hot, hct, nt, hdt⟩ := p
    obtain ⟨oi, hoi, hci, hdi⟩ := id hit
    have nai : a ≠ it := apart_of hot hoi (by rw [hct, hci]; intro z; injection z with z; exact absurd z (by decide))
    have nae : a ≠ e := apart_of hot he (by rw [hct]; intro z; injection z with z; exact absurd z (by decide))
    have hi : i < its.toArray.size := by
      rw [List.size_toArray]
      exact (List.getElem?_eq_some_iff.mp hu).1
    refine wpAny_pyNext_enum_itemD (Draws.tuple (by show X.A.in1.handled = none; exact I.ok.hd hc) it a nai its.toArray) he ⟨hit, ⟨ot, hot, hct, nt, hdt⟩⟩ hi hne (by simp [Ne.symm nae, hne]) fun x' h' tk hx' ho hst' hT hsz hk => ?_
    obtain rfl : u = x' := by
      have : its[i]? = some x' := by simpa using hx'
      rw [hu] at this
      exact Option.some.inj this
    obtain ⟨hit', _⟩ := hst'
    refine ⟨_, rfl, wpAny_letOwnedTupleGo_enum (s := { s with heap := h', toks := tk + 1 }) ho fun h'' he' sb => ?_⟩
    have hT2 : h''.get? s.heap.objs.size = some { cls := .type "tuple", data := .seq #[.int i tk, u] } := (sb.2 _ (Nat.ne_of_gt hel)).trans hT
    have new : ObjOk X.prog X.w (upd H s.heap.objs.size (.tup [.int (i : Nat), x])) h'' s.heap.objs.size (.tup [.int (i : Nat), x]) :=
      ⟨by show 2 ≤ sizeLine; decide, [.int i tk, u], .cons ⟨_, rfl⟩ (.cons ru .nil), ⟨_, hT2, rfl, _, rfl⟩⟩
    have I1 : Inv X pins σ (upd H s.heap.objs.size (.tup [.int (i : Nat), x])) { s with heap := h'', toks := tk + 1 } :=
      I.turnedNew (ch := [e, it]) (fun b ob hb q => (sb.2 b (fun z => hb (by simp [z]))).trans (hk b ob (fun z => hb (by simp [z])) (fun z => hb (by simp [z])) q)) hf (Nat.le_refl _) new
    refine ⟨.ref s.heap.objs.size, _, I1, rfl, ⟨_, x, rfl, I.hok.fresh (Nat.le_refl _), rfl, fun ys hy => by rw [I.tuple_inj hy hq]; exact hx⟩, ⟨⟨u, ?_⟩, hit'.at fun o q => (sb.2 it (Ne.symm hne)).trans q, hne⟩, fun b hb => ?_⟩
    · have e1 : ((i + 1 : Nat) : Int) = (i : Int) + 1 := by omega
      rw [e1]; exact he'
    · have hb' : b < s.heap.objs.size := by
        have e' : b = e ∨ b = it := by simpa using hb
        rcases e' with z | z
        · rw [z]; exact hel
        · rw [z]; exact hil
      rw [upd_ne (Nat.ne_of_lt hb')]
      exact (hf b hb).1
  done := by
    intro X hP hw hK hc i pins s σ H E I hf st hg
    subst hP hw hK
    obtain ⟨⟨old, he⟩, hit, hne⟩ := st
    obtain ⟨xs, hq, hx⟩ := hg
    obtain ⟨its, rv, p, hz⟩ := I.tuple hq
    obtain ⟨f0, f1, f2, f3, f4, f5⟩ := hf it (by simp)
    have hl := rv.length
    have hT : s.TypeIs (.ref e) "enumerate" := ⟨_, he, rfl⟩
    unfold pyNext
    refine wpAny_bind (wpAny_attempt (wpAny_callSpecial?_slot (name := Str.ofString "__next__") hT F.slot_enumerate_next
      (wpAny_call_entry F.slot_enumerate_next hT F.entry_enumerate_next ?_ (F.args_enumerate_next_1 _))))
    show wpAny _ _ (field (.ref e) 2 >>= _) _ _ _
    refine wpAny_bind (wpAny_field he rfl (x := .ref it) rfl ?_)
    refine wpAny_bind (wpAny_nextOf_tuple_end (i := i) (I.ok.hd hc) hit p (by simp; omega) fun h' x he' hx' => ?_)
    obtain ⟨o, ho, hc'⟩ := hx'
    refine wpAny_bind (wpAny_isInstance (T := "StopIteration") (b := true) ⟨o, ho, hc'⟩ isSubtype_stop ?_)
    exact wpAny_pure ⟨rfl, I.turned (t' := s.toks) (fun b o hb q => he' b o hb q) f0 f1 f3 f4 f5⟩
  self := fun A i s Q E st h => let ⟨⟨_, he⟩, _⟩ := st; wpAny_pyIter_enum he h
def iEnumT (K : PySem.W.Frag) (ta : TA) : TI := fun σ H R => ta σ H fun vs H1 => ∃ a xs, vs = [.ref a] ∧ SqT K H1 a xs ∧ R (Iet K a) H1
theorem pi_enumT {X : Cx} {e : Expr} {ta : TA} {p pos tpos : Pos} {elts : List Expr} {kk : Nat} (hg : Gl X "enumerate") (hm : X.mg "enumerate" = none) (ha : PA X [e] ta) (hs : starEach [e] X.env = [(false, eval e X.env)] := by rfl) :
    PI X (.Tuple elts kk tpos) (.Call (.Name "enumerate" p) [e] [] pos) (iEnumT X.K ta) := by
  refine ⟨fun pins s σ H R I h => ?_⟩
  refine Call_ (ld_blt I hg hm boot_enumerate (PyProof.Rows.callWith_type1 (thn (ha.run pos pins s σ H _ I h) fun us s1 ⟨vs, H1, I1, r1, q1⟩ => ?_) hs rfl))
  obtain ⟨a, xs, ex, hq, q⟩ := q1
  subst ex
  cases r1 with
  | cons r rr =>
    cases rr
    cases r
    obtain ⟨its, rv, p', hz⟩ := I1.tuple hq
    refine call_enumerate_tuple p' fun h' he hit hsz hk => wpAny_pyIter_enum he ?_
    have I2 : Inv X pins σ H1 { s1 with heap := h' } := I1.kept (t' := s1.toks) hk
    refine ⟨s1.heap.objs.size + 1, [s1.heap.objs.size + 1, s1.heap.objs.size], _, _, H1, rfl, I2, turn_enumT a (s1.heap.objs.size + 1) s1.heap.objs.size, ⟨⟨.none, he⟩, hit, Nat.succ_ne_self _⟩, fun b hb => ?_, q⟩
    have e' : b = s1.heap.objs.size + 1 ∨ b = s1.heap.objs.size := by simpa using hb
    have hle : s1.heap.objs.size ≤ b := by
      rcases e' with z | z
      · rw [z]; exact Nat.le_add_right _ _
      · rw [z]; exact Nat.le_refl _
    exact I1.fpOk hle (I1.hok.fresh hle)
theorem walk_enumT {K : PySem.W.Frag} {a : Addr} {xs : List V} : Walk (Iet K a) xs.length (fun H => SqT K H a xs) (YPair (fun i => some (.int (i : Nat))) (fun i => xs[i]?)) := by
  refine ⟨fun i _ hi q => ⟨xs, xs[i], q, by simp [hi]⟩, fun _ q => ⟨xs, q, Nat.le_refl _⟩, fun i H v H' _ q y => ?_⟩
  obtain ⟨T, x, h1, h2, h3, h4⟩ := y
  exact ⟨T, .int (i : Nat), x, h1, h2, h3, rfl, h4 xs q⟩
end R7
/-! Instances, their fields; raising; isinstance; constants and static methods of a class. -/
namespace M7
open PySem PySem.Spec PyProof.Rows L2
def putFD (f : Str) (v : D) : List (Str × D) → List (Str × D)
  | [] => [(f, v)]
  | (g, x) :: r => if g = f then (g, v) :: r else (g, x) :: putFD f v r
section
variable {w : WD} {W : WX} {π : Nat → V} {B B' B1 Z : Hp} {g : G} {σ : L2.St} {H H' : Hp} {v : V}
theorem lk_obj {c : CN} {fs : List (Str × D)} (s : Sub B H) (h : Lk w B H v (.obj c fs)) : ∃ (a dx : Addr) (ns : List Str) (vs : List V) (ds : List D), v = .ref a ∧ H a = some (.ins (w.cls c) dx (ns.zip vs)) ∧ ns.length = vs.length ∧ Dens w B vs ds ∧ fs = ns.zip ds := by
  cases h with
  | den h =>
    cases h with
    | obj e l r => exact ⟨_, _, _, _, _, rfl, s.at e rfl, l, r, rfl⟩
  | own _ h =>
    cases h with
    | obj e l r => exact ⟨_, _, _, _, _, rfl, e, l, r, rfl⟩
theorem zip_lookup {f : Str} {d : D} : ∀ {ns : List Str} {vs : List V} {ds : List D}, ns.length = vs.length → Dens w B vs ds → (ns.zip ds).lookup f = some d → ∃ v, (ns.zip vs).lookup f = some v ∧ Den w B v d
  | [], _, _, _, _, e => by cases e
  | n :: ns, [], _, l, _, _ => by cases l
  | n :: ns, v :: vs, _, l, .cons r t, e => by
    simp only [List.zip_cons_cons, List.lookup] at e ⊢
    split at e
    · cases e
      exact ⟨v, rfl, r⟩
    · exact zip_lookup (by simpa using l) t e
theorem zip_lookup_none {f : Str} : ∀ {ns : List Str} {vs : List V} {ds : List D}, ns.length = vs.length → Dens w B vs ds → (ns.zip ds).lookup f = none → (ns.zip vs).lookup f = none
  | [], _, _, _, _, _ => rfl
  | n :: ns, [], _, l, _, _ => by cases l
  | n :: ns, v :: vs, _, l, .cons r t, e => by
    simp only [List.zip_cons_cons, List.lookup] at e ⊢
    split at e
    · cases e
    · exact zip_lookup_none (by simpa using l) t e
theorem zip_putF {f : Str} {v : V} {d : D} (hv : Den w B v d) : ∀ {ns : List Str} {vs : List V} {ds : List D}, ns.length = vs.length → Dens w B vs ds → ∃ (ns' : List Str) (vs' : List V) (ds' : List D), putF f v (ns.zip vs) = ns'.zip vs' ∧ putFD f d (ns.zip ds) = ns'.zip ds' ∧ ns'.length = vs'.length ∧ Dens w B vs' ds'
  | [], _, _, l, .nil => ⟨[f], [v], [d], rfl, rfl, rfl, .cons hv .nil⟩
  | [], _, _, l, .cons _ _ => by cases l
  | n :: ns, [], _, l, _ => by cases l
  | n :: ns, u :: vs, _, l, .cons (d := e) (ds := ds) r t => by
    by_cases h : n = f
    · refine ⟨n :: ns, v :: vs, d :: ds, ?_, ?_, l, .cons hv t⟩
      · show (if n = f then (n, v) :: ns.zip vs else (n, u) :: putF f v (ns.zip vs)) = _
        rw [if_pos h]
        rfl
      · show (if n = f then (n, d) :: ns.zip ds else (n, e) :: putFD f d (ns.zip ds)) = _
        rw [if_pos h]
        rfl
    · obtain ⟨ns', vs', ds', h1, h2, h3, h4⟩ := zip_putF (f := f) hv (ns := ns) (by simpa using l) t
      refine ⟨n :: ns', u :: vs', e :: ds', ?_, ?_, by simpa using h3, .cons r h4⟩
      · show (if n = f then (n, v) :: ns.zip vs else (n, u) :: putF f v (ns.zip vs)) = _
        rw [if_neg h, h1]
        rfl
      · show (if n = f then (n, d) :: ns.zip ds else (n, e) :: putFD f d (ns.zip ds)) = _
        rw [if_neg h, h2]
        rfl
/-- the classes cs have no attribute f of their own -/
def NoA (w : WD) (cs : CN → Bool) (f : Str) : Prop := ∀ c, cs c = true → Cls w.K (w.cls c) ∧ NoAttr w.K (w.cls c) f
def fieldD (cs : CN → Bool) (f : Str) : D → Option D
  | .obj c fs => if cs c = true then fs.lookup f else none
  | _ => none
def seFld (cs : CN → Bool) (f : Str) (sb : SB) : SE := fun g => (sb g).bind fun r g1 => match (r.get g1).bind (fieldD cs f) with
  | some d => .ok (false, d) g1
  | none => .fail
theorem re_fld {cs : CN → Bool} {f : Str} {ta : TE} {sb : SB} (hn : NoA w cs f) (h : RB w W ta sb) : RE w W (tFld w.K ta f) (seFld cs f sb) := fun π B Z g σ H Q s q =>
  h π B Z g σ H _ s (tailE.bB q fun r g1 v B1 H1 e1 s1 r1 q1 => by
    split at q1
    · rename_i d hd
      cases hr : r.get g1 with
      | none => rw [hr] at hd; cases hd
      | some o =>
        rw [hr] at hd
        have hd : fieldD cs f o = some d := hd
        cases o with
        | obj c fs =>
          have hd : (if cs c = true then fs.lookup f else none) = some d := hd
          split at hd
          · rename_i hc
            obtain ⟨a, dx, ns, vs, ds, rfl, ha, hl, hx, rfl⟩ := lk_obj s1.sub (s1.lk r1 hr)
            obtain ⟨v, hv, dv⟩ := zip_lookup hl hx hd
            exact ⟨a, w.cls c, dx, _, v, rfl, ha, (hn c hc).1, (hn c hc).2, hv, q1 v B1 H1 (Ext.refl _) s1 dv⟩
          · cases hd
        | _ => cases hd
    · exact q1.elim)
theorem de_fld {ι : Type} {XS : ι → Cx} {cs : CN → Bool} {f : Str} {e : Expr} {pos : Pos} {sb : SB} (hn : NoA w cs f) (h : DB XS w W e sb) (hb : ∀ i, attributeBase e f (XS i).env (eval e (XS i).env) = eval e (XS i).env := by intro _; rfl) (hK : ∀ i, (XS i).K = w.K := by intro _; rfl) : DE XS w W (.Attribute e f pos) (seFld cs f sb) := by
  obtain ⟨t, h1, h2⟩ := h
  refine ⟨_, fun i => ?_, re_fld hn h2⟩
  have z := pe_fld (f := f) (pos := pos) (h1 i) (hb i)
  rw [hK i] at z
  exact z
/-- name.f = e, the name an instance of one's own -/
def ssSetF (cs : CN → Bool) (k : Nat) (f : Str) (se : SE) : SS := fun g => ofO (se g) fun r g1 => match ownAt g1 k with
  | some (c, .obj cn fs) => if cs cn = true ∧ fs.length < 1000 then .nx (g1.set k (some (c, .obj cn (putFD f r.2 fs)))) else .fail
  | _ => .fail
theorem rs_setF {cs : CN → Bool} {k : Nat} {f : Str} {tv : TE} {se : SE} (hn : NoA w cs f) (h : RE w W tv se) : RS w W (sFld w.K (tVar k) tv f) (ssSetF cs k f se) := fun π B Z g σ H D s q =>
  h π B Z g σ H _ s (postS_E q fun o d g1 v B1 H1 e1 s1 r q1 => by
    obtain ⟨B2, e2, s2, hd⟩ := r.freeze s1
    split at q1
    · rename_i c cn fs e0
      split at q1
      · rename_i hc
        obtain ⟨e0, o0⟩ := ownAt_some e0
        obtain ⟨a, h1, h2, h3, h4⟩ := s2.ow k c _ e0 o0
        obtain ⟨a', dx, ns, vs, ds, z, ha, hl, hx, rfl⟩ := lk_obj s2.sub (.own h2 h4)
        cases z
        obtain ⟨ns', vs', ds', k1, k2, k3, k4⟩ := zip_putF (f := f) hd hl hx
        have hlen : (ns.zip vs).length < 1000 := by
          have := hc.2
          rw [List.length_zip] at this ⊢
          rw [hx.len]
          exact this
        refine ⟨.ref a, h1, a, w.cls cn, dx, _, rfl, ha, (hn cn hc.1).1, (hn cn hc.1).2, hlen, ?_⟩
        rw [k1]
        refine q1 B2 _ σ e2 (s2.write e0 o0 h1 ?_)
        simp only
        rw [k2]
        exact .obj upd_same k3 k4
      · exact q1.elim
    · exact q1.elim)
theorem ds_setF {ι : Type} {XS : ι → Cx} {cs : CN → Bool} {f y : Str} {ev : Expr} {pos pos' py : Pos} {se : SE} (k : Nat) (hn : NoA w cs f) (h : DE XS w W ev se) (hN : ∀ i, (XS i).N[k]? = some y := by intro _; rfl) (hv : ∀ i, Vis (XS i).env.scope y := by intro _; first | exact Or.inl rfl | exact Or.inr (Or.inl rfl) | exact Or.inr (Or.inr rfl)) (hd : (y == ("__debug__" : Str)) = false := by decide) (hcd : (y == ("__classdict__" : Str)) = false := by decide)
    (hs : ∀ i, swapsWith ev (some (.Attribute (.Name y py) f pos')) pos.line (XS i).env = pure false := by intro _; rfl) (hK : ∀ i, (XS i).K = w.K := by intro _; rfl) : DS XS w W (.Assign [.Attribute (.Name y py) f pos'] ev pos) (ssSetF cs k f se) := by
  obtain ⟨t, h1, h2⟩ := h
  refine ⟨_, fun i => ?_, rs_setF hn h2⟩
  have z := ps_fld (f := f) (pos := pos) (pos' := pos') (pe_var (pos := py) (hN i) (hv i) hd hcd) (h1 i) (hs i)
  rw [hK i] at z
  exact z
/-- .. as a target -/
def sgFld (cs : CN → Bool) (k : Nat) (f : Str) : SG := fun r g => match ownAt g k with
  | some (c, .obj cn fs) => if cs cn = true ∧ fs.length < 1000 then some (g.set k (some (c, .obj cn (putFD f r.2 fs)))) else none
  | _ => none
theorem rg_fld {cs : CN → Bool} {k : Nat} {f : Str} (hn : NoA w cs f) : RG w (R7.gFld w.K (tVar k) f) (sgFld cs k f) := fun π B Z g σ H v o d Q s r q => by
  obtain ⟨B2, e2, s2, hd⟩ := r.freeze s
  unfold sgFld at q
  split at q
  · rename_i c cn fs e0
    split at q
    · rename_i hc
      obtain ⟨e0, o0⟩ := ownAt_some e0
      obtain ⟨a, h1, h2, h3, h4⟩ := s2.ow k c _ e0 o0
      obtain ⟨a', dx, ns, vs, ds, z, ha, hl, hx, rfl⟩ := lk_obj s2.sub (.own h2 h4)
      cases z
      obtain ⟨ns', vs', ds', k1, k2, k3, k4⟩ := zip_putF (f := f) hd hl hx
      have hlen : (ns.zip vs).length < 1000 := by
        have := hc.2
        rw [List.length_zip] at this ⊢
        rw [hx.len]
        exact this
      refine ⟨.ref a, h1, a, w.cls cn, dx, _, rfl, ha, (hn cn hc.1).1, (hn cn hc.1).2, hlen, ?_⟩
      rw [k1]
      refine q B2 _ σ e2 (s2.write e0 o0 h1 ?_)
      simp only
      rw [k2]
      exact .obj upd_same k3 k4
    · exact q.elim
  · exact q.elim
theorem wipes_fld {K : PySem.W.Frag} {k : Nat} {f : Str} {vs : List Nat} : Wipes (R7.gFld K (tVar k) f) vs := fun v σ σ0 H Q e q => by
  obtain ⟨x, hx, a, C, dx, fs, h1, h2, h3, h4, h5, q⟩ := q
  exact ⟨x, hx, a, C, dx, fs, h1, h2, h3, h4, h5, e, q e⟩
theorem wipes_consF {K : PySem.W.Frag} {k : Nat} {f : Str} {b : TGs} {vs : List Nat} (t : WipesS b vs) : WipesS (gCons (R7.gFld K (tVar k) f) b) vs := fun v σ σ0 H Q e q => by
  obtain ⟨x, r, rfl, y, hy, a, C, dx, fs, h1, h2, h3, h4, h5, q⟩ := q
  exact ⟨x, r, rfl, y, hy, a, C, dx, fs, h1, h2, h3, h4, h5, t r σ σ0 _ Q e q⟩
theorem dgs_consF {ι : Type} {XS : ι → Cx} {vs : List Nat} {sg : SGs} {cs : CN → Bool} {y f : Str} {py pos : Pos} {es : List Expr} (k : Nat) (hn : NoA w cs f) (t : DGs XS w vs es sg) (hN : ∀ i, (XS i).N[k]? = some y := by intro _; rfl) (hv : ∀ i, Vis (XS i).env.scope y := by intro _; first | exact Or.inl rfl | exact Or.inr (Or.inl rfl) | exact Or.inr (Or.inr rfl)) (hd : (y == ("__debug__" : Str)) = false := by decide) (hcd : (y == ("__classdict__" : Str)) = false := by decide)
    (hs : ∀ i, (assignEach (.Attribute (.Name y py) f pos :: es) (XS i).env).map (·.2) = assign (.Attribute (.Name y py) f pos) (XS i).env :: (assignEach es (XS i).env).map (·.2) := by intro _; rfl) (hl : ∀ i, (assignEach (.Attribute (.Name y py) f pos :: es) (XS i).env).length = (assignEach es (XS i).env).length + 1 := by intro _; rfl) (hK : ∀ i, (XS i).K = w.K := by intro _; rfl) :
    DGs XS w vs (.Attribute (.Name y py) f pos :: es) (sgCons (sgFld cs k f) sg) := by
  obtain ⟨u, k1, k2, k3, k4⟩ := t
  refine ⟨gCons (R7.gFld w.K (tVar k) f) u, fun i => ?_, rg_cons (rg_fld hn) k2, wipes_consF k3, fun i => by rw [hl i, k4 i]; rfl⟩
  have z := pgs_cons (R7.pg_fld (f := f) (pos := pos) (pe_var (X := XS i) (pos := py) (hN i) (hv i) hd hcd)) (k1 i) (hs i)
  rw [hK i] at z
  exact z
/-! ### raising -/
def ssRaise (x : XN) (se : SE) : SS := fun g => ofO (se g) fun _ g1 => .ex x none g1
/-- an exception class without __init__, by its name -/
structure Exn (w : WD) (mg : Str → Option Value) (y : Str) (x : XN) : Prop where
  ex : ∃ bm, PySem.W.excIn w.K (w.exc x) bm "ValueError.__new__" = true
  at_ : mg y = some (.ref (w.exc x))
  kp : PySem.W.keepIn w.K (.ref (w.exc x)) = true
  rs : PySem.W.subIn w.K (.ref (w.exc x)) (.type "BaseException") = some true ∧ PySem.W.typeIn w.K (.ref (w.exc x)) = some (.type "type")
  has : w.has x
theorem rs_raise {x : XN} {ta : TE} {se : SE} (hx : w.has x) (h : RE w W ta se) : RS w W (fun _ σ H => (fun σ H (Q : XK) => ta σ H fun _ H1 => Q (.ref (w.exc x)) none H1) σ H fun cls d H' => W cls d σ H') (ssRaise x se) := fun π B Z g σ H D s q =>
  h π B Z g σ H _ s (postS_E q fun o d g1 v B1 H1 e1 s1 r q1 => q1 hx none B1 H1 σ (Ext.refl _) s1 rfl)
/-! ### constants of a class, static methods -/
theorem re_cval {c : CN} {mc : Value} {f : Str} {v : V} {u : Value} {d : D} (rd : ClX.CRead w.K (w.cls c) mc) (k : ClX.CVal w.K (w.cls c) mc f v u) (hd : ∀ B, Den w B v d) : RE w W (ClX.tCVal w.K (tC (.ref (w.cls c))) f) (seC d) := fun π B Z g σ H Q s q =>
  ⟨w.cls c, mc, v, u, rfl, rd, k, q v B H (Ext.refl _) s (hd B)⟩
/-- a class's constant, read off it by name -/
structure CVl (w : WD) (mg : Str → Option Value) (x : Str) (c : CN) (f : Str) (d : D) : Prop where
  ex : ∃ (mc : Value) (v : V) (u : Value), mg x = some (.ref (w.cls c)) ∧ ClX.CRead w.K (w.cls c) mc ∧ ClX.CVal w.K (w.cls c) mc f v u ∧ ∀ B, Den w B v d
theorem de_cval {ι : Type} {XS : ι → Cx} {mg : Str → Option Value} {x f : Str} {c : CN} {d : D} {p pos : Pos} (h : CVl w mg x c f d) (hm : ∀ i, (XS i).mg = mg := by intro _; rfl) (hK : ∀ i, (XS i).K = w.K := by intro _; rfl) (hg : ∀ i, Gl (XS i) x := by intro _; rfl) (hdb : (x == ("__debug__" : Str)) = false := by decide)
    (hb : ∀ i, attributeBase (.Name x p) f (XS i).env (eval (.Name x p) (XS i).env) = eval (.Name x p) (XS i).env := by intro _; rfl) : DE XS w W (.Attribute (.Name x p) f pos) (seC d) := by
  obtain ⟨mc, v, u, h1, h2, h3, h4⟩ := h.ex
  refine ⟨_, fun i => ?_, re_cval h2 h3 h4⟩
  have z := ClX.pe_cval (f := f) (pos := pos) (pe_glob (X := XS i) (v := .ref (w.cls c)) (pos := p) (hg i) (by rw [hm i]; exact h1) rfl hdb) (hb i)
  rw [hK i] at z
  exact z
/-- C.m(..), m a static method that is the def φ -/
structure Stc (P : Program) (wl : World) (mg : Str → Option Value) (base : Heap) (w : WD) (b : Bool) (k : Nat) (x m : Str) (c : CN) (φ : Fn) : Prop where
  ex : ∃ (mc : Value) (p g : Addr), mg x = some (.ref (w.cls c)) ∧ ClX.CRead w.K (w.cls c) mc ∧ R7.SMet w.K (w.cls c) mc m p g ∧ Def P wl mg base w false b k g φ
theorem re_scall {C : Addr} {φ : Fn} {E : XK} {ta : TA} {sa : SA} (hE : ∀ σ cls d H', W cls d σ H' → E cls d H') (h : RA w W ta sa) : RE w W (R7.tSMeth C (spD w φ) E (tC (.ref C)) ta) (seCall φ sa) := fun π B Z g σ H Q s q =>
  ⟨rfl, h π B Z g σ H _ s (tailE.bA q fun rs g1 vs B1 H1 e1 s1 r1 q1 => call_D s1 r1 (hE σ) q1)⟩
theorem de_scall {ι : Type} {XS : ι → Cx} {P : Program} {wl : World} {mg : Str → Option Value} {base : Heap} {gb : Bool} {n k : Nat} {x m : Str} {c : CN} {φ : Fn} {e : Expr} {es : List Expr} {args : SA} {p apos pos : Pos} {pl : ι → Sem Bool} (F : Fam P wl mg base w gb n XS) (h : Stc P wl mg base w false k x m c φ) (ha : DA XS w W (e :: es) args) (hk : k ≤ n := by decide) (hg : ∀ i, Gl (XS i) x := by intro _; rfl) (hdb : (x == ("__debug__" : Str)) = false := by decide)
    (hst : ∀ i, starEach (e :: es) (XS i).env = (false, eval e (XS i).env) :: starEach es (XS i).env := by intro _; rfl) (hpl : ∀ i, (backTo pos (starEach es (XS i).env)).any (·.1) = false := by intro _; rfl)
    (ht : ∀ i, eval (.Call (.Attribute (.Name x p) m apos) (e :: es) [] pos) (XS i).env = (do
      let ov ← eval (.Name x p) (XS i).env
      standAt apos.atName
      let (f, first) ← holding [ov] (getMethod ov m (pl i))
      callWith pos f first (backTo pos (starEach (e :: es) (XS i).env)) (backToKw pos (keywordEach [] (XS i).env))) := by intro _; rfl) : DE XS w W (.Call (.Attribute (.Name x p) m apos) (e :: es) [] pos) (seCall φ args) := by
  obtain ⟨t, h1, h2⟩ := ha
  obtain ⟨mc, q, f, k1, k2, k3, fd, ps, k4, k5, k6⟩ := h.ex
  refine ⟨_, fun i => ?_, re_scall (C := w.cls c) (E := fun _ _ _ => True) (fun _ _ _ _ _ => trivial) h2⟩
  exact R7.pe_smeth (CX := CXb false P wl) (pe_glob (X := XS i) (v := .ref (w.cls c)) (pos := p) (hg i) (by rw [F.mg i]; exact k1) rfl hdb) (by rw [F.K i]; exact k2) (by rw [F.K i]; exact k3) (by rw [F.prog i, F.wl i, F.K i, F.mg i, F.base i]; exact k4.ok) ((F.room i).mono hk) (by rw [F.K i]; exact k5) (fun _ _ _ _ _ _ _ z => z.elim) (h1 i) (hst i) (hpl i) (ht i)
end
end M7
/-! f-strings, raise, isinstance. -/
namespace M7
open PySem PySem.Spec PyProof.Rows L2
section
variable {w : WD} {W : WX} {π : Nat → V} {B B' B1 Z : Hp} {g : G} {σ : L2.St} {H H' : Hp} {v : V}
theorem res_str {o : Bool} {x : Str} (r : Res w B Z g σ H v o (.str x)) : v = .str x := by
  cases o with
  | false =>
    have r : Den w B v (.str x) := r
    cases r
    rfl
  | true =>
    obtain ⟨a, _, _, _, ho, _⟩ := r
    cases ho
/-- {e} -/
def seFmt (se : SE) : SE := fun g => (se g).bind fun r g1 => match r.2 with
  | .str y => if y.length ≤ sizeLine then .ok (false, .str y) g1 else .fail
  | .int i => if i.natAbs.log2 < 1920 then .ok (false, .str (toString i)) g1 else .fail
  | _ => .fail
theorem re_fmt {te : TE} {se : SE} (h : RE w W te se) : RE w W (tFmt te) (seFmt se) := fun π B Z g σ H Q s q =>
  h π B Z g σ H _ s (tailE.bE q fun o d g1 v B1 H1 e s1 r q1 => by
    cases d with
    | str y =>
      simp only at q1
      split at q1
      · rename_i hz
        exact .inl ⟨y, res_str r, hz, q1 _ B1 H1 (Ext.refl _) s1 (.str y)⟩
      · exact q1.elim
    | int i =>
      simp only at q1
      split at q1
      · rename_i hz
        exact .inr ⟨i, res_int r, hz, q1 _ B1 H1 (Ext.refl _) s1 (.str _)⟩
      · exact q1.elim
    | _ => exact q1.elim)
def jsL : List SE → Str → G → O (Bool × D)
  | [], acc, g => .ok (false, .str acc) g
  | s :: ss, acc, g => (s g).bind fun r g1 => match r.2 with
    | .str y => if (acc ++ y).length ≤ sizeLine then jsL ss (acc ++ y) g1 else .fail
    | _ => .fail
inductive RJ (w : WD) (W : WX) : List TE → List SE → Prop where
  | nil : RJ w W [] []
  | cons {t : TE} {s : SE} {ts : List TE} {ss : List SE} : RE w W t s → RJ w W ts ss → RJ w W (t :: ts) (s :: ss)
theorem rj_run {ts : List TE} {ss : List SE} (h : RJ w W ts ss) : ∀ (π : Nat → V) (B Z : Hp) (g : G) (σ : L2.St) (H : Hp) (Q : VK) (acc : Str), Sat w π B Z g σ H → PostE w W π B Z σ Q (jsL ss acc g) → tJs ts acc σ H fun out H1 => Q (.str out) H1 := by
  induction h with
  | nil => exact fun π B Z g σ H Q acc s q => q _ B H (Ext.refl _) s (.str acc)
  | cons h t ih =>
    intro π B Z g σ H Q acc s q
    refine h π B Z g σ H _ s (tailE.bE q fun o d g1 v B1 H1 e s1 r q1 => ?_)
    cases d with
    | str y =>
      simp only at q1
      split at q1
      · rename_i hz
        exact ⟨y, res_str r, hz, ih π B1 Z g1 σ H1 Q _ s1 q1⟩
      · exact q1.elim
    | _ => exact q1.elim
def DJ {ι : Type} (XS : ι → Cx) (w : WD) (W : WX) (es : List Expr) (ss : List SE) : Prop := ∃ ts, (∀ i, PJ (XS i) es ts) ∧ RJ w W ts ss
variable {ι : Type} {XS : ι → Cx} {e a : Expr} {es : List Expr} {se : SE} {ss : List SE} {pos p pos' : Pos}
theorem dj_nil : DJ XS w W [] [] := ⟨[], fun _ => .nil, .nil⟩
theorem dj_str {x j} (t : DJ XS w W es ss) : DJ XS w W (.Constant (.str x) j pos :: es) (seC (.str x) :: ss) := let ⟨ts, h1, h2⟩ := t; ⟨_, fun i => .cons pe_str (h1 i), .cons re_str h2⟩
theorem dj_fmt (h : DE XS w W e se) (t : DJ XS w W es ss) : DJ XS w W (.FormattedValue e (-1) none pos :: es) (seFmt se :: ss) := by
  obtain ⟨u, k1, k2⟩ := h
  obtain ⟨ts, h1, h2⟩ := t
  exact ⟨_, fun i => .cons (pe_fmt (k1 i)) (h1 i), .cons (re_fmt k2) h2⟩
theorem de_js {v1 v2 : Expr} (h : DJ XS w W (v1 :: v2 :: es) ss) : DE XS w W (.JoinedStr (v1 :: v2 :: es) pos) (jsL ss Str.empty) := by
  obtain ⟨ts, h1, h2⟩ := h
  exact ⟨_, fun i => pe_joined (h1 i), fun π B Z g σ H Q s q => rj_run h2 π B Z g σ H Q _ s q⟩
theorem de_js1 (h : DE XS w W e se) : DE XS w W (.JoinedStr [e] pos) se := let ⟨t, h1, h2⟩ := h; ⟨t, fun i => pe_joined1 (h1 i), h2⟩
theorem de_fmt (h : DE XS w W e se) : DE XS w W (.FormattedValue e (-1) none pos) (seFmt se) := let ⟨t, h1, h2⟩ := h; ⟨_, fun i => pe_fmt (h1 i), re_fmt h2⟩
/-! ### raise X(e) -/
/-- an exception class without __init__, by its name -/
structure ExnF (w : WD) (mg : Str → Option Value) (y : Str) (x : XN) : Prop where
  ex : PySem.W.excIn w.K (w.exc x) [.type "ValueError", .type "Exception", .type "BaseException", .type "object"] "ValueError.__new__" = true
  at_ : mg y = some (.ref (w.exc x))
  kp : PySem.W.keepIn w.K (.ref (w.exc x)) = true
  sb : PySem.W.subIn w.K (.ref (w.exc x)) (.type "BaseException") = some true
  ty : PySem.W.typeIn w.K (.ref (w.exc x)) = some (.type "type")
  has : w.has x
theorem ds_raise {mg : Str → Option Value} {y : Str} {x : XN} (F : ExnF w mg y x) (tk : ∀ i, Takes (XS i) W) (h : DE XS w W e se) (hm : ∀ i, (XS i).mg = mg := by intro _; rfl) (hK : ∀ i, (XS i).K = w.K := by intro _; rfl) (hc : ∀ i, (XS i).calm = true := by intro _; rfl) (hg : ∀ i, Gl (XS i) y := by intro _; rfl)
    (hs : ∀ i, starEach [e] (XS i).env = (false, eval e (XS i).env) :: starEach [] (XS i).env := by intro _; rfl) (hdb : (y == ("__debug__" : Str)) = false := by decide) : DS XS w W (.Raise (some (.Call (.Name y p) [e] [] pos)) none pos') (ssRaise x se) := by
  obtain ⟨t, h1, h2⟩ := h
  refine ⟨_, fun i => ?_, rs_raise F.has h2⟩
  exact ps_raise (hc i) (tk i) (SkE.pmk_own1 PySem.F.excBase_ValueError (by rw [hK i]; exact F.ex) (by rw [hm i]; exact F.at_) (by rw [hK i]; exact F.kp) (raises_own (by rw [hK i]; exact F.sb) (by rw [hK i]; exact F.ty)) (hg i) (h1 i) (hs i) hdb)
/-! ### isinstance -/
/-- the kind of a datum's type -/
inductive TK where
  | non | bl | int | str | lst | tup | dct | obj (c : CN)
def tkD : D → Option TK
  | .non => some .non
  | .bl _ => some .bl
  | .int _ => some .int
  | .str _ => some .str
  | .lst _ => some .lst
  | .tup _ => some .tup
  | .dct _ => some .dct
  | .obj c _ => some (.obj c)
  | _ => none
def tkV (w : WD) : TK → Value
  | .non => .type "NoneType"
  | .bl => .type "bool"
  | .int => .type "int"
  | .str => .type "str"
  | .lst => .type "list"
  | .tup => .type "tuple"
  | .dct => .type "dict"
  | .obj c => .ref (w.cls c)
/-- an instance of the class tells its class -/
structure ClsI (K : PySem.W.Frag) (C : Addr) : Prop where
  cl : Cls K C
  ha : PySem.W.findIn K (.ref C) "__class__" = some (some (.builtin "object.__class__"))
  hn : PySem.W.specialIn K (.builtin "object.__class__") "__get__" = some (some (.builtin "getset_descriptor.__get__"))
  htk : PySem.W.takesIn K (.builtin "object.__class__") = some true
  hm : PySem.W.mroIn K C (.type "object") = some true
/-- what isinstance tells of the class u -/
def IsiF (w : WD) (u : Value) (tst : TK → Option Bool) : Prop := ∀ k b, tst k = some b → PySem.W.kitOne w.K (tkV w k) u = some b ∧ ∀ c, k = .obj c → ClsI w.K (w.cls c)
theorem lk_ty {d : D} {k : TK} (s : Sub B H) (h : Lk w B H v d) (e : tkD d = some k) (hc : ∀ c, k = .obj c → ClsI w.K (w.cls c)) : TyX w.K H v (tkV w k) := by
  cases d <;> first | (cases e; done) | skip
  · cases e; rw [lk_non h]; exact .base .non
  · cases e; rw [lk_bl h]; exact .base (.bl _)
  · cases e; rw [lk_int h]; exact .base (.int _)
  · cases e; rw [lk_str h]; exact .base (.str _)
  · cases e
    obtain ⟨a, xs, rfl, ha, _⟩ := lk_lst s h
    exact .base (.lst ha)
  · cases e
    obtain ⟨a, xs, rfl, ha, _⟩ := lk_tup s h
    rcases ha with (ha | ⟨o, ha⟩) | ⟨o, its, n, h1, h2, _⟩
    · exact .base (.tup ha)
    · exact .fTuple ha
    · exact .kTuple h1 h2
  · cases e
    cases h with
    | den h =>
      cases h with
      | dct e l r =>
        rcases s _ _ e with z | ⟨_, ob, z⟩
        · exact .base (.dK z)
        · exact .fDict z
    | own _ h =>
      cases h with
      | dct e l r => exact .base (.dK e)
  · rename_i c fs
    cases e
    obtain ⟨a, dx, ns, vs, ds, rfl, ha, _⟩ := lk_obj s h
    have f := hc c rfl
    exact .base (.ins ha f.cl f.ha f.hn f.htk f.hm)
def seIsi (tst : TK → Option Bool) (sb : SB) : SE := fun g => (sb g).bind fun r g1 => match ((r.get g1).bind tkD).bind tst with
  | some b => .ok (false, .bl b) g1
  | none => .fail
theorem re_isi {u : Value} {c : V} {tst : TK → Option Bool} {tx : TE} {sb : SB} (hc : ClsV c u) (F : IsiF w u tst) (h : RB w W tx sb) : RE w W (tCB (rIsi w.K) (tCons tx (tCons (tC c) tNil))) (seIsi tst sb) := fun π B Z g σ H Q s q =>
  h π B Z g σ H _ s (tailE.bB q fun r g1 v B1 H1 e1 s1 r1 q1 => by
    split at q1
    · rename_i b hb
      cases h1 : r.get g1 with
      | none => rw [h1] at hb; cases hb
      | some d =>
        rw [h1] at hb
        have hb : (tkD d).bind tst = some b := hb
        cases h2 : tkD d with
        | none => rw [h2] at hb; cases hb
        | some k =>
          rw [h2] at hb
          obtain ⟨f1, f2⟩ := F k b hb
          exact ⟨v, c, _, u, b, rfl, hc, lk_ty s1.sub (s1.lk r1 h1) h2 f2, f1, q1 _ B1 H1 (Ext.refl _) s1 (.bl b)⟩
    · exact q1.elim)
/-- isinstance(x, T), T a built-in type -/
theorem de_isiT {mg : Str → Option Value} {T : String} {y : Str} {tst : TK → Option Bool} {p2 : Pos} {sb : SB} (hm : mg "isinstance" = none) (hy : mg y = none) (hv : bootBuiltins y = some (.type T)) (F : IsiF w (.type T) tst) (h : DB XS w W e sb) (hmg : ∀ i, (XS i).mg = mg := by intro _; rfl) (hK : ∀ i, (XS i).K = w.K := by intro _; rfl) (hg : ∀ i, Gl (XS i) "isinstance" := by intro _; rfl) (hg2 : ∀ i, Gl (XS i) y := by intro _; rfl)
    (hn : y ≠ "__name__" := by decide) (hdb : (y == ("__debug__" : Str)) = false := by decide) (he : ∀ i, starEach [e, .Name y p2] (XS i).env = (false, eval e (XS i).env) :: starEach [.Name y p2] (XS i).env := by intro _; rfl) (he2 : ∀ i, starEach [.Name y p2] (XS i).env = (false, eval (.Name y p2) (XS i).env) :: starEach [] (XS i).env := by intro _; rfl)
    (hpl : ∀ i, (backTo pos (starEach [.Name y p2] (XS i).env)).any (·.1) = false := by intro _; rfl) : DE XS w W (.Call (.Name "isinstance" p) [e, .Name y p2] [] pos) (seIsi tst sb) := by
  obtain ⟨t, h1, h2⟩ := h
  refine ⟨_, fun i => ?_, re_isi (.ty T) F h2⟩
  have z := pe_callB (X := XS i) (p := p) (pos := pos) call_isi (hg i) (by rw [hmg i]; exact hm) boot_isinstance (pa_cons (h1 i) (pa_cons (pe_bltn (v := .ty T) (pos := p2) (hg2 i) (by rw [hmg i]; exact hy) hv rfl hn hdb) pa_nil (he2 i)) (he i)) (by decide) (by decide) (he i) (hpl i)
  rw [hK i] at z
  exact z
/-- .., an own class -/
theorem de_isiC {mg : Str → Option Value} {C : Addr} {y : Str} {tst : TK → Option Bool} {p2 : Pos} {sb : SB} (hm : mg "isinstance" = none) (hy : mg y = some (.ref C)) (F : IsiF w (.ref C) tst) (h : DB XS w W e sb) (hmg : ∀ i, (XS i).mg = mg := by intro _; rfl) (hK : ∀ i, (XS i).K = w.K := by intro _; rfl) (hg : ∀ i, Gl (XS i) "isinstance" := by intro _; rfl) (hg2 : ∀ i, Gl (XS i) y := by intro _; rfl)
    (hdb : (y == ("__debug__" : Str)) = false := by decide) (he : ∀ i, starEach [e, .Name y p2] (XS i).env = (false, eval e (XS i).env) :: starEach [.Name y p2] (XS i).env := by intro _; rfl) (he2 : ∀ i, starEach [.Name y p2] (XS i).env = (false, eval (.Name y p2) (XS i).env) :: starEach [] (XS i).env := by intro _; rfl)
    (hpl : ∀ i, (backTo pos (starEach [.Name y p2] (XS i).env)).any (·.1) = false := by intro _; rfl) : DE XS w W (.Call (.Name "isinstance" p) [e, .Name y p2] [] pos) (seIsi tst sb) := by
  obtain ⟨t, h1, h2⟩ := h
  refine ⟨_, fun i => ?_, re_isi (.own C) F h2⟩
  have z := pe_callB (X := XS i) (p := p) (pos := pos) call_isi (hg i) (by rw [hmg i]; exact hm) boot_isinstance (pa_cons (h1 i) (pa_cons (pe_glob (v := .ref C) (pos := p2) (hg2 i) (by rw [hmg i]; exact hy) rfl hdb) pa_nil (he2 i)) (he i)) (by decide) (by decide) (he i) (hpl i)
  rw [hK i] at z
  exact z
/-- int, bool, str, tuple, dict, list, of data -/
def tInt : TK → Option Bool
  | .obj _ => none
  | .int => some true
  | .bl => some true
  | _ => some false
def tBool : TK → Option Bool
  | .obj _ => none
  | .bl => some true
  | _ => some false
def tStr : TK → Option Bool
  | .obj _ => none
  | .str => some true
  | _ => some false
def tTuple : TK → Option Bool
  | .obj _ => none
  | .tup => some true
  | _ => some false
def tDict : TK → Option Bool
  | .obj _ => none
  | .dct => some true
  | _ => some false
theorem isi_int : IsiF w (.type "int") tInt := fun k b h => by
  cases k <;> cases h <;> refine ⟨kit_ty (by decide +kernel), fun c z => nomatch z⟩
theorem isi_bool : IsiF w (.type "bool") tBool := fun k b h => by
  cases k <;> cases h <;> refine ⟨kit_ty (by decide +kernel), fun c z => nomatch z⟩
theorem isi_str : IsiF w (.type "str") tStr := fun k b h => by
  cases k <;> cases h <;> refine ⟨kit_ty (by decide +kernel), fun c z => nomatch z⟩
theorem isi_tuple : IsiF w (.type "tuple") tTuple := fun k b h => by
  cases k <;> cases h <;> refine ⟨kit_ty (by decide +kernel), fun c z => nomatch z⟩
theorem isi_dict : IsiF w (.type "dict") tDict := fun k b h => by
  cases k <;> cases h <;> refine ⟨kit_ty (by decide +kernel), fun c z => nomatch z⟩
end
end M7
/-! Instances are made; C.m(self, *rods, k = v). -/
namespace M7
open PySem PySem.Spec PyProof.Rows L2
section
variable {w : WD} {W : WX} {π : Nat → V} {B B' B1 Z : Hp} {g : G} {σ : L2.St} {H H' : Hp} {v : V}
theorem app_last {α : Type} {l : List α} {x y : α} {i : Nat} (h : (l ++ [x])[i]? = some y) : (i < l.length ∧ l[i]? = some y) ∨ (i = l.length ∧ y = x) := by
  by_cases hi : i < l.length
  · rw [List.getElem?_append_left hi] at h
    exact .inl ⟨hi, h⟩
  · rw [List.getElem?_append_right (by omega)] at h
    have : i - l.length = 0 := by
      have := (List.getElem?_eq_some_iff.mp h).1
      simp at this
      omega
    rw [this] at h
    simp at h
    exact .inr ⟨by omega, h.symm⟩
theorem app_at {α : Type} {l : List α} {x : α} : (l ++ [x])[l.length]? = some x := by simp
theorem app_lt {α : Type} {l : List α} {x : α} {i : Nat} (h : i < l.length) : (l ++ [x])[i]? = l[i]? := List.getElem?_append_left h
/-- one more slot -/
theorem Sat.push {o : Bool} {d : D} (s : Sat w π B Z g σ H) (r : Res w B Z g σ H v o d) : Sat w π B Z (g ++ [some (if o = true then Fl.o else Fl.f, d)]) (σ ++ [some v]) H := by
  have lo : ∀ {i x}, i < g.length → g[i]? = some x → (σ ++ [some v])[i]? = σ[i]? := fun h _ => app_lt (by rw [← s.len]; exact h)
  have at_ : (σ ++ [some v])[g.length]? = some (some v) := by rw [s.len]; exact app_at
  refine ⟨s.sub, s.keep, s.dis, by rw [List.length_append, List.length_append, s.len] <;> rfl, fun i c e q z => ?_, fun i c e q z => ?_, fun i j c c' d1 d2 a q1 q2 z1 z2 t1 t2 => ?_, fun i c e q z => ?_⟩
  · rcases app_last q with ⟨hi, q'⟩ | ⟨rfl, q'⟩
    · rw [lo hi q']
      exact s.fz i c e q' z
    · cases q'
      cases o with
      | true => cases z
      | false => exact ⟨v, at_, r⟩
  · rcases app_last q with ⟨hi, q'⟩ | ⟨rfl, q'⟩
    · rw [lo hi q']
      exact s.ow i c e q' z
    · cases q'
      cases o with
      | false => cases z
      | true =>
        obtain ⟨a, rfl, h1, h2, h3, _⟩ := r
        exact ⟨a, at_, h1, h2, h3⟩
  · rcases app_last q1 with ⟨hi, q1'⟩ | ⟨rfl, q1'⟩
    · rcases app_last q2 with ⟨hj, q2'⟩ | ⟨rfl, q2'⟩
      · rw [lo hi q1'] at t1
        rw [lo hj q2'] at t2
        exact s.dj i j c c' d1 d2 a q1' q2' z1 z2 t1 t2
      · cases q2'
        cases o with
        | false => cases z2
        | true =>
          obtain ⟨a', rfl, _, _, _, hn⟩ := r
          rw [at_] at t2
          cases t2
          rw [lo hi q1'] at t1
          exact absurd t1 (hn i c d1 q1' z1)
    · rcases app_last q2 with ⟨hj, q2'⟩ | ⟨rfl, q2'⟩
      · cases q1'
        cases o with
        | false => cases z1
        | true =>
          obtain ⟨a', rfl, _, _, _, hn⟩ := r
          rw [at_] at t1
          cases t1
          rw [lo hj q2'] at t2
          exact absurd t2 (hn j c' d2 q2' z2)
      · rfl
  · rcases app_last q with ⟨hi, q'⟩ | ⟨rfl, q'⟩
    · rw [lo hi q']
      exact s.pin i c e q' z
    · cases q'
      cases o <;> cases z
theorem Sat.pop {c : Fl} {d : D} {x : Option V} (s : Sat w π B Z (g ++ [some (c, d)]) (σ ++ [x]) H) (hp : c.pin = false) : Sat w π B Z g σ H ∧ ∀ v, x = some v → Res w B Z g σ H v c.own d := by
  have hl : g.length = σ.length := by
    have := s.len
    rw [List.length_append, List.length_append] at this
    simpa using this
  have lg : ∀ {i y}, g[i]? = some y → (g ++ [some (c, d)])[i]? = some y := fun {i y} q => by
    rw [app_lt (List.getElem?_eq_some_iff.mp q).1]
    exact q
  have lσ : ∀ {i : Nat} {y : Option (Fl × D)}, g[i]? = some y → (σ ++ [x])[i]? = σ[i]? := fun {i y} q => app_lt (by rw [← hl]; exact (List.getElem?_eq_some_iff.mp q).1)
  have la : (g ++ [some (c, d)])[g.length]? = some (some (c, d)) := app_at
  have lx : (σ ++ [x])[g.length]? = some x := by rw [hl]; exact app_at
  refine ⟨⟨s.sub, s.keep, s.dis, hl, fun i c e q z => ?_, fun i c e q z => ?_, fun i j c c' d1 d2 a q1 q2 z1 z2 t1 t2 => ?_, fun i c e q z => ?_⟩, fun v hv => ?_⟩
  · have := s.fz i c e (lg q) z
    rw [lσ q] at this
    exact this
  · have := s.ow i c e (lg q) z
    rw [lσ q] at this
    exact this
  · exact s.dj i j c c' d1 d2 a (lg q1) (lg q2) z1 z2 (by rw [lσ q1]; exact t1) (by rw [lσ q2]; exact t2)
  · have := s.pin i c e (lg q) z
    rw [lσ q] at this
    exact this
  · cases ho : c.own with
    | false =>
      obtain ⟨u, h1, h2⟩ := s.fz g.length c d la ho
      rw [lx, hv] at h1
      cases h1
      exact h2
    | true =>
      obtain ⟨a, h1, h2, h3, h4⟩ := s.ow g.length c d la ho
      have h1' := h1
      rw [lx, hv] at h1
      cases h1
      refine ⟨a, rfl, h2, h3, h4, fun i c' e q z t => ?_⟩
      have := s.dj i g.length c' c e d a (lg q) la z ho (by rw [lσ q]; exact t) h1'
      have hi := (List.getElem?_eq_some_iff.mp q).1
      omega
theorem Res.carry {o : Bool} {d : D} (r : Res w B Z g σ H v o d) (e : Ext B B') (k : Ext H H') (hB : ∀ a u, H a = some u → B a = none → B' a = none) : Res w B' Z g σ H' v o d := by
  cases o with
  | false => exact Den.mono e r
  | true =>
    obtain ⟨a, rfl, h1, h2, h3, h4⟩ := r
    obtain ⟨u, hu⟩ := h3.there
    exact ⟨a, rfl, hB a u hu h1, h2, (h3.mono e).at ((k _ _ hu).trans hu.symm), h4⟩
theorem res_non {o : Bool} (r : Res w B Z g σ H v o .non) : v = .non := by
  cases o with
  | false =>
    have r : Den w B v .non := r
    cases r
    rfl
  | true =>
    obtain ⟨a, _, _, _, ho, _⟩ := r
    cases ho
/-- arguments that are data -/
def dts (ds : List D) : List Ref := ds.map Ref.dt
theorem dens_refs {vs : List V} {ds : List D} (h : Dens w B vs ds) : RefsOk w B σ vs (dts ds) := by
  induction ds generalizing vs with
  | nil => cases h; exact .nil
  | cons d ds ih =>
    cases h with
    | cons r t => exact .cons r (ih t)
theorem lent_dts (g : G) (ds : List D) : lentOf g (dts ds) = [] := by
  induction ds with
  | nil => rfl
  | cons d ds ih => exact ih
theorem args_dts (g : G) (ds : List D) : argsOf g (dts ds) = some (ds.map fun d => (false, d)) := by
  induction ds with
  | nil => rfl
  | cons d ds ih =>
    show (match argOf g (.dt d), argsOf g (dts ds) with
      | some a, some as => some (a :: as)
      | _, _ => none) = _
    rw [ih]
    rfl
theorem give_dts (g : G) : ∀ (ds : List D) (bk : List (Bool × D)), giveBack g (dts ds) bk = g
  | [], _ => by unfold dts giveBack; rfl
  | d :: ds, [] => by
    show giveBack g (.dt d :: dts ds) [] = g
    unfold giveBack
    rfl
  | d :: ds, b :: bk => by
    show giveBack g (.dt d :: dts ds) (b :: bk) = g
    unfold giveBack
    exact give_dts g ds bk
/-- the promise of a def f(self, *rest, k = d, ..) behind the binding: self, the options, the tuple -/
def spStar (w : WD) (φ : Fn) (gV : List V → List V) : R7.Sp2 := fun vs zs H Q E => ∃ a rest, vs = a :: rest ∧ rest.length ≤ sizeLine ∧ ∀ p, H p = Option.none → spD w φ (a :: (gV zs ++ [V.ref p])) (upd H p (.tup rest)) Q E
/-- how the options' values come to the parameters -/
def GV (w : WD) (m : Nat) (gV : List V → List V) (gD : List D → List D) : Prop := ∀ B zs es, Dens w B zs es → zs.length = m → Dens w B (gV zs) (gD es)
/-- from the arguments' data -/
def mkO (c : CN) (φ : Fn) (m : Nat) (gD : List D → List D) (ds es : List D) (g : G) : O (Bool × D) := if ds.length ≤ sizeLine ∧ es.length = m then match φ ((true, .obj c []) :: (gD es ++ [M7.D.tup ds]).map fun d => (false, d)) with
    | .ret _ .non (b :: _) => .ok b g
    | .ex x f (_ :: _) => .ex x f g
    | _ => .fail else .fail
/-- what a list of frozen data does as arguments -/
theorem re_mkO {c : CN} {φ : Fn} {m : Nat} {gV : List V → List V} {gD : List D → List D} {E : XK} {vs zs : List V} {ds es : List D} {Q : VK} {g2 : G} {H2 B2 : Hp} (hE : ∀ cls d H', W cls d σ H' → E cls d H') (hG : GV w m gV gD) (s2 : Sat w π B2 Z g2 σ H2) (dd : Dens w B2 vs ds) (de : Dens w B2 zs es)
    (q2 : PostE w W π B2 Z σ Q (mkO c φ m gD ds es g2)) : zs.length = m ∧ ∀ x dx, H2 x = none → H2 dx = none → dx ≠ x → spStar w φ gV (.ref x :: vs) zs (upd (upd H2 dx (.own x)) x (.ins (w.cls c) dx [])) (fun v H3 => v = .non ∧ Q (.ref x) H3) E := by
  unfold mkO at q2
  split at q2
  · rename_i hc
    refine ⟨de.len.trans hc.2, fun x dx hx hdx hne => ⟨.ref x, vs, rfl, by rw [dd.len]; exact hc.1, fun p hp => ?_⟩⟩
    -- the new instance, one's own
    have hx' : upd H2 dx (.own x) x = none := by rw [upd_ne (Ne.symm hne)]; exact hx
    have s3 := s2.grow (Ext.new hdx (o := .own x))
    have r3 : Res w B2 Z g2 σ (upd (upd H2 dx (.own x)) x (.ins (w.cls c) dx [])) (.ref x) true (.obj c []) := s3.new_res hx' (.obj (ns := []) (vs := []) (ds := []) upd_same rfl .nil)
    have s4 := s3.grow (Ext.new hx' (o := .ins (w.cls c) dx []))
    have s5 := s4.newB (o := .tup vs) hp
    have hpB : B2 p = none := s4.sub.none hp
    have e5 : Ext B2 (upd B2 p (.tup vs)) := Ext.new hpB
    have r5 : Res w (upd B2 p (.tup vs)) Z g2 σ (upd (upd (upd H2 dx (.own x)) x (.ins (w.cls c) dx [])) p (.tup vs)) (.ref x) true (.obj c []) := r3.carry e5 (Ext.new hp) fun a u ha hB => by rw [upd_ne (ne_of_none ha hp)]; exact hB
    have s6 : Sat w π (upd B2 p (.tup vs)) Z (g2 ++ [some (Fl.o, M7.D.obj c [])]) (σ ++ [some (.ref x)]) _ := s5.push r5
    have hl : σ.length = g2.length := s2.len.symm
    have rf : RefsOk w (upd B2 p (.tup vs)) (σ ++ [some (.ref x)]) (.ref x :: (gV zs ++ [.ref p])) (.sl g2.length :: dts (gD es ++ [M7.D.tup ds])) := by
      refine .cons ?_ (dens_refs (((hG _ _ _ de (de.len.trans hc.2)).mono e5).app (.cons (.tup (.inl (.inl upd_same)) (dd.mono e5)) .nil)))
      show (σ ++ [some (V.ref x)])[g2.length]? = _
      rw [← hl]
      exact app_at
    have gl : (g2 ++ [some (Fl.o, M7.D.obj c [])])[g2.length]? = some (some (.o, .obj c [])) := app_at
    refine call_D (W := fun cls d τ H' => τ = σ ++ [some (.ref x)] → W cls d σ H') s6 rf (fun cls d H' z => hE cls d H' (z rfl)) ?_
    have hd1 : distinct (lentOf (g2 ++ [some (Fl.o, M7.D.obj c [])]) (.sl g2.length :: dts (gD es ++ [M7.D.tup ds]))) = true := by
      unfold lentOf
      rw [gl]
      simp only
      rw [if_pos (by rfl), lent_dts]
      rfl
    have ha1 : argsOf (g2 ++ [some (Fl.o, M7.D.obj c [])]) (.sl g2.length :: dts (gD es ++ [M7.D.tup ds])) = some ((true, .obj c []) :: (gD es ++ [M7.D.tup ds]).map fun d => (false, d)) := by
      have a0 : argOf (g2 ++ [some (Fl.o, M7.D.obj c [])]) (.sl g2.length) = some (true, .obj c []) := by
        unfold argOf
        simp only
        rw [gl]
        rfl
      unfold argsOf
      rw [a0, args_dts]
    rw [if_pos hd1, ha1]
    simp only
    have gb : ∀ (b : Bool × D) (bk : List (Bool × D)), giveBack (g2 ++ [some (Fl.o, M7.D.obj c [])]) (.sl g2.length :: dts (gD es ++ [M7.D.tup ds])) (b :: bk) = g2 ++ [some (if b.1 = true then Fl.o else Fl.f, b.2)] := fun b bk => by
      unfold giveBack
      rw [gl]
      simp only
      rw [if_pos (by rfl), give_dts, List.set_append_right _ _ (Nat.le_refl _), Nat.sub_self]
      rfl
    have pin : ∀ b : Bool, (if b = true then Fl.o else Fl.f).pin = false := fun b => by cases b <;> rfl
    have own : ∀ b : Bool, (if b = true then Fl.o else Fl.f).own = b := fun b => by cases b <;> rfl
    split at q2
    · rename_i b bk hφ
      rw [hφ]
      intro v B' H' e' t rv
      rw [gb] at t
      obtain ⟨t1, t2⟩ := t.pop (pin b.1)
      have vn : v = .non := res_non rv
      refine ⟨vn, ?_⟩
      have rr := t2 _ rfl
      rw [own] at rr
      exact q2 _ B' H' (e5.trans e') t1 rr
    · rename_i y f b bk hφ
      rw [hφ]
      intro hx dd B' H' σ' e' t xo
      intro hσ
      subst hσ
      rw [gb] at t
      obtain ⟨t1, _⟩ := t.pop (pin b.1)
      exact q2 hx dd B' H' σ (e5.trans e') t1 xo
    · exact q2.elim
  · exact q2.elim
/-- a class is called: a new instance, __init__ makes φ of it -/
def seMake (c : CN) (φ : Fn) (m : Nat) (gD : List D → List D) (sa sk : SA) : SE := fun g => (sa g).bind fun rs g1 => (sk g1).bind fun ks g2 => match datas rs, datas ks with
  | some ds, some es => mkO c φ m gD ds es g2
  | _, _ => .fail
theorem re_make {c : CN} {φ : Fn} {m : Nat} {gV : List V → List V} {gD : List D → List D} {E : L2.St → XK} {ta tk : TA} {sa sk : SA} (hE : ∀ σ cls d H', W cls d σ H' → E σ cls d H') (hG : GV w m gV gD) (h : RA w W ta sa) (k : RA w W tk sk) :
    RE w W (R7.tMakeK (w.cls c) (spStar w φ gV) m E ta tk) (seMake c φ m gD sa sk) := fun π B Z g σ H Q s q =>
  h π B Z g σ H _ s (tailE.bA q fun rs g1 vs B1 H1 e1 s1 r1 q1 => k π B1 Z g1 σ H1 _ s1 (tailE.bA q1 fun ks g2 zs B2 H2 e2 s2 r2 q2 => by
    split at q2
    · rename_i ds es hd he
      exact re_mkO (hE σ) hG s2 ((r1.datas hd).mono e2) (r2.datas he) q2
    · exact q2.elim))
/-- C.m(e, *rest, k = v, ..) -/
def seqOf : D → Option (List D)
  | .tup ds => some ds
  | .lst ds => some ds
  | _ => none
def seClsS (φ : Fn) (m : Nat) (gD : List D → List D) (sb1 : SB) (se2 : SE) (sk : SA) : SE := fun g => (sb1 g).bind fun r1 g1 => (se2 g1).bind fun r2 g2 => match seqOf r2.2 with
  | some ds => (sk g2).bind fun ks g3 => match datas ks with
    | some es => if ds.length ≤ sizeLine ∧ es.length = m then (if distinct (lentOf g3 (r1 :: dts (gD es ++ [M7.D.tup ds]))) = true then match argsOf g3 (r1 :: dts (gD es ++ [M7.D.tup ds])) with
      | some as => match φ as with
        | .ret o d bk => .ok (o, d) (giveBack g3 (r1 :: dts (gD es ++ [M7.D.tup ds])) bk)
        | .ex x f bk => .ex x f (giveBack g3 (r1 :: dts (gD es ++ [M7.D.tup ds])) bk)
        | .fail => .fail
      | none => .fail else .fail) else .fail
    | none => .fail
  | none => .fail
theorem lk_seq {d : D} {ds : List D} (s : Sub B H) (h : Den w B v d) (e : seqOf d = some ds) : ∃ b vs, v = .ref b ∧ (SqT w.K H b vs ∨ SqL w.K H b vs) ∧ Dens w B vs ds := by
  cases d with
  | tup es =>
    cases e
    obtain ⟨a, xs, rfl, ha, hx⟩ := lk_tup s (.den h)
    exact ⟨a, xs, rfl, .inl ha, hx⟩
  | lst es =>
    cases e
    obtain ⟨a, xs, rfl, ha, hx⟩ := lk_lst s (.den h)
    exact ⟨a, xs, rfl, .inr (.inl (.inl ha)), hx⟩
  | _ => cases e
theorem re_clsS {C : Addr} {φ : Fn} {m : Nat} {gV : List V → List V} {gD : List D → List D} {E : L2.St → XK} {t1 t2 : TE} {tk : TA} {sb1 : SB} {se2 : SE} {sk : SA} (hE : ∀ σ cls d H', W cls d σ H' → E σ cls d H') (hG : GV w m gV gD) (h1 : RB w W t1 sb1) (h2 : RE w W t2 se2) (h3 : RA w W tk sk) :
    RE w W (R7.tClsS w.K C (spStar w φ gV) m E (tC (.ref C)) t1 t2 tk) (seClsS φ m gD sb1 se2 sk) := fun π B Z g σ H Q s q =>
  ⟨rfl, h1 π B Z g σ H _ s (tailE.bB q fun r1 g1 v1 B1 H1 e1 s1 rv1 q1 => h2 π B1 Z g1 σ H1 _ s1 (tailE.bE q1 fun o d g2 v2 B2 H2 e2 s2 rv2 q2 => by
    split at q2
    · rename_i ds hi
      obtain ⟨B3, e3, s3, dn⟩ := rv2.freeze s2
      obtain ⟨b, vs, rfl, hb, hx⟩ := lk_seq s3.sub dn hi
      refine ⟨b, vs, rfl, hb, h3 π B3 Z g2 σ H2 _ s3 (tailE.bA (q2.mono e3) fun ks g3 zs B4 H4 e4 s4 r4 q4 => ?_)⟩
      split at q4
      · rename_i es he
        split at q4
        · rename_i hc
          have de := r4.datas he
          have dv := hx.mono e4
          refine ⟨de.len.trans hc.2, v1, vs, rfl, by rw [dv.len]; exact hc.1, fun p hp => ?_⟩
          have s5 := s4.newB (o := .tup vs) hp
          have e5 : Ext B4 (upd B4 p (.tup vs)) := Ext.new (s4.sub.none hp)
          have rf : RefsOk w (upd B4 p (.tup vs)) σ (v1 :: (gV zs ++ [.ref p])) (r1 :: dts (gD es ++ [M7.D.tup ds])) :=
            .cons (rv1.mono (e2.trans (e3.trans (e4.trans e5)))) (dens_refs (((hG _ _ _ de (de.len.trans hc.2)).mono e5).app (.cons (.tup (.inl (.inl upd_same)) (dv.mono e5)) .nil)))
          exact call_D s5 rf (hE σ) (q4.mono e5)
        · exact q4.elim
      · exact q4.elim
    · exact q2.elim))⟩
/-- C(*y, k = v, ..) -/
def seMakeS (c : CN) (φ : Fn) (m : Nat) (gD : List D → List D) (se : SE) (sk : SA) : SE := fun g => (se g).bind fun r g1 => match seqOf r.2 with
  | some ds => (sk g1).bind fun ks g2 => match datas ks with
    | some es => mkO c φ m gD ds es g2
    | none => .fail
  | none => .fail
end
end M7
namespace R7
open PySem PySem.Spec PyProof.Rows L2
section
variable {M : Model} {A : Around} {E : Value → Shared → Prop} {s : Shared}
theorem ks_loneKW {f : Value} {x : Sem Value} {pos : Pos} {Q : Args → Shared → Prop} {keywords : List (Option Str × Sem Value)} (hall : keywords.all (·.1.isSome) = true)
    (h : wpAny M A x (fun v s₁ => wpAny M A (evalAll (keywords.map (·.2))) (fun ks s₂ => PySem.W.StarOf M A E v (fun vs s₃ => Q ⟨vs, (keywords.filterMap (·.1)).zip ks⟩ s₃) s₂) E s₁) E s) :
    wpAny M A (evalArgs f true [(true, (do let v ← x; standAt pos; pure v))] keywords) Q E s := by
  unfold evalArgs
  refine wpAny_bind (wpAny_bind (wpAny_mono h (fun v s₁ h₁ => wpAny_bind (wpAny_standAt (wpAny_pure ?_))) fun _ _ x => x))
  refine wpAny_holding ?_
  simp only [hall, if_true]
  refine wpAny_bind (wpAny_mono h₁ (fun ks s₂ h₂ => ?_) fun _ _ x => x)
  unfold PySem.W.StarOf at h₂
  refine wpAny_bind (wpAny_bind (wpAny_mono h₂ (fun b s₃ h₃ => ?_) fun _ _ x => x))
  obtain ⟨rfl, h₃⟩ := h₃
  have z := wpAny_holding (vs := (((keywords.filterMap (·.1)).zip ks).map (·.2))) (wpAny_mono h₃ (fun vs s₃ h₃ => (wpAny_pure h₃ : wpAny M A (pure (⟨vs, (keywords.filterMap (·.1)).zip ks⟩ : Args)) Q E s₃)) fun _ _ x => x)
  try simp only [Bool.false_eq_true, if_false]
  first
    | exact z
    | exact wpAny_bind (wpAny_pure z)
end
/-- C(*y, k = v, ..) -/
def tMakeS (K : PySem.W.Frag) (C : Addr) (sp : Sp2) (m : Nat) (E : L2.St → XK) (te : TE) (tk : TA) : TE := fun σ H Q => te σ H fun y H1 => tk σ H1 fun zs H2 => ∃ b vs, y = .ref b ∧ (SqT K H2 b vs ∨ SqL K H2 b vs) ∧ zs.length = m ∧
  ∀ x dx, H2 x = none → H2 dx = none → dx ≠ x → sp (.ref x :: vs) zs (upd (upd H2 dx (.own x)) x (.ins C dx [])) (fun v H3 => v = .non ∧ Q (.ref x) H3) (E σ)
theorem pe_makeS {X : Cx} {CX : CXT} {k : Nat} {f C : Addr} {ks : List Str} {sp : Sp2} {E : L2.St → XK} {x : Str} {p pos p2 : Pos} {e : Expr} {kws : List Keyword} {te : TE} {tk : TA} (M : Mk X.K C f) (F : FnK X.prog X.w X.K X.mg X.base CX k f ks sp) (hr : Room (k + 1) X.A) (hg : Gl X x) (hm : X.mg x = some (.ref C)) (hx : ∀ σ, PassesAt CX X σ (E σ))
    (he : PE X e te) (hkw : PK X kws tk) (hall : (backToKw pos (keywordEach kws X.env)).all (·.1.isSome) = true) (hks : (backToKw pos (keywordEach kws X.env)).filterMap (·.1) = ks)
    (hdb : (x == ("__debug__" : Str)) = false) (hst : starEach [.Starred e p2] X.env = [(true, eval e X.env)]) : PE X (.Call (.Name x p) [.Starred e p2] kws pos) (tMakeS X.K C sp ks.length E te tk) := by
  refine ⟨fun pins s σ H Q I h => ?_⟩
  refine wpAny_Call_Name_kw (ld_glob I hg hm ?_ hdb)
  rw [hst]
  refine ks_callKW (P := fun h => X.K.In h) rfl (PySem.W.keeps_K M.kp) ?_
  refine ks_loneKW hall (thn (he.run pins s σ H _ I h) fun v2 s4 ⟨y2, H3, I4, ry2, q3⟩ => ?_)
  refine thn (hkw.run pos pins s4 σ H3 _ I4 q3) fun ws s6 ⟨zs, H4, I6, rz, t, vs, ey, ht, l, q5⟩ => ?_
  subst ey
  obtain rfl : v2 = Value.ref t := ry2
  refine StX.star_any I6 ht fun us s5 I5 rv => ⟨I5.kIn, ?_⟩
  rw [hks]
  have := run_makeK (us := us) (vs := vs) M F hr (hx σ) I5 rv rz l q5
  simpa using this
end R7
namespace M7
open PySem PySem.Spec PyProof.Rows L2
section
variable {w : WD} {W : WX} {π : Nat → V} {B B' B1 Z : Hp} {g : G} {σ : L2.St} {H H' : Hp} {v : V}
theorem re_makeS {c : CN} {φ : Fn} {m : Nat} {gV : List V → List V} {gD : List D → List D} {E : L2.St → XK} {te : TE} {tk : TA} {se : SE} {sk : SA} (hE : ∀ σ cls d H', W cls d σ H' → E σ cls d H') (hG : GV w m gV gD) (h : RE w W te se) (k : RA w W tk sk) :
    RE w W (R7.tMakeS w.K (w.cls c) (spStar w φ gV) m E te tk) (seMakeS c φ m gD se sk) := fun π B Z g σ H Q s q =>
  h π B Z g σ H _ s (tailE.bE q fun o d g1 v B1 H1 e1 s1 r1 q1 => by
    split at q1
    · rename_i ds hi
      obtain ⟨B3, e3, s3, dn⟩ := r1.freeze s1
      refine k π B3 Z g1 σ H1 _ s3 (tailE.bA (q1.mono e3) fun ks g2 zs B4 H4 e4 s4 r4 q4 => ?_)
      obtain ⟨b, vs, rfl, hb, hx⟩ := lk_seq s4.sub (dn.mono e4) hi
      refine ⟨b, vs, rfl, hb, ?_⟩
      split at q4
      · rename_i es he
        exact re_mkO (hE σ) hG s4 hx (r4.datas he) q4
      · exact q4.elim
    · exact q1.elim)
end
end M7
/-! Classes called, methods, properties, class methods. -/
namespace M7
open PySem PySem.Spec PyProof.Rows L2
abbrev callO (φ : Fn) (rs : List Ref) (g1 : G) : O (Bool × D) := if distinct (lentOf g1 rs) = true then match argsOf g1 rs with
  | some as => match φ as with
    | .ret o d bk => .ok (o, d) (giveBack g1 rs bk)
    | .ex x f bk => .ex x f (giveBack g1 rs bk)
    | .fail => .fail
  | none => .fail else .fail
section
variable {w : WD} {W : WX} {π : Nat → V} {B B' B1 Z : Hp} {g : G} {σ : L2.St} {H H' : Hp} {v : V}
/-- o.m(..): the def found by the object's class -/
def tMethM (w : WD) (tb : Addr → Fn → Prop) (m : Str) (E : L2.St → XK) (ta : TE) (t : TA) : TE := fun σ H Q => ta σ H fun x H1 => ∃ a C dx fs φ, x = .ref a ∧ H1 a = some (.ins C dx fs) ∧ tb C φ ∧ fs.lookup m = none ∧ t σ H1 fun vs H2 => spD w φ (x :: vs) H2 Q (E σ)
def tPropM (w : WD) (tb : Addr → Fn → Prop) (ta : TE) : TE := fun σ H Q => ta σ H fun x H1 => ∃ a C dx fs φ, x = .ref a ∧ H1 a = some (.ins C dx fs) ∧ tb C φ ∧ spD w φ [x] H1 Q fun _ _ _ => True
def seMeth (m : Str) (tb : CN → Option Fn) (sb : SB) (sa : SA) : SE := fun g => (sb g).bind fun r g1 => match r.get g1 with
  | some (.obj c fs) => match tb c with
    | some φ => if fs.lookup m = none then (sa g1).bind fun rs g2 => callO φ (r :: rs) g2 else .fail
    | none => .fail
  | _ => .fail
def seProp (tb : CN → Option Fn) (sb : SB) : SE := fun g => (sb g).bind fun r g1 => match r.get g1 with
  | some (.obj c _) => match tb c with
    | some φ => callO φ [r] g1
    | none => .fail
  | _ => .fail
theorem re_meth {m : Str} {tb : CN → Option Fn} {tB : Addr → Fn → Prop} {E : L2.St → XK} {ta : TE} {t : TA} {sb : SB} {sa : SA} (hE : ∀ σ cls d H', W cls d σ H' → E σ cls d H') (ht : ∀ c φ, tb c = some φ → tB (w.cls c) φ) (h : RB w W ta sb) (k : RA w W t sa) :
    RE w W (tMethM w tB m E ta t) (seMeth m tb sb sa) := fun π B Z g σ H Q s q =>
  h π B Z g σ H _ s (tailE.bB q fun r g1 v B1 H1 e1 s1 r1 q1 => by
    split at q1
    · rename_i c fs hr
      split at q1
      · rename_i φ hφ
        split at q1
        · rename_i hl
          obtain ⟨a, dx, ns, vs, ds, rfl, ha, hn, hx, rfl⟩ := lk_obj s1.sub (s1.lk r1 hr)
          exact ⟨a, w.cls c, dx, _, φ, rfl, ha, ht c φ hφ, zip_lookup_none hn hx hl, k π B1 Z g1 σ H1 _ s1 (tailE.bA q1 fun rs g2 us B2 H2 e2 s2 r2 q2 => call_D s2 (.cons (r1.mono e2) r2) (hE σ) q2)⟩
        · exact q1.elim
      · exact q1.elim
    · exact q1.elim)
theorem re_prop {tb : CN → Option Fn} {tB : Addr → Fn → Prop} {ta : TE} {sb : SB} (ht : ∀ c φ, tb c = some φ → tB (w.cls c) φ) (h : RB w W ta sb) : RE w W (tPropM w tB ta) (seProp tb sb) := fun π B Z g σ H Q s q =>
  h π B Z g σ H _ s (tailE.bB q fun r g1 v B1 H1 e1 s1 r1 q1 => by
    split at q1
    · rename_i c fs hr
      split at q1
      · rename_i φ hφ
        obtain ⟨a, dx, ns, vs, ds, rfl, ha, hn, hx, rfl⟩ := lk_obj s1.sub (s1.lk r1 hr)
        exact ⟨a, w.cls c, dx, _, φ, rfl, ha, ht c φ hφ, call_D s1 (.cons r1 .nil) (fun _ _ _ _ => trivial) q1⟩
      · exact q1.elim
    · exact q1.elim)
/-! the rules -/
theorem run_X {X : Cx} {gb : Bool} {CX : CXT} {k : Nat} {f : Addr} {fd : FuncData} {ps : List Str} {sp : Sp} {E : XK} {pins : List (Addr × Obj)} {s : Shared} {Q : VK} {us : List Value} {vs : List V} (F : FnX gb X.prog X.w X.K X.mg X.base CX k f fd ps sp) (hgd : Gd gb X.A) (hr : Room k X.A) (hb : Binds X.K fd ps [])
    (hx : PassesAt CX X σ E) (I : Inv X pins σ H s) (r : Vals vs us) (h : sp vs H Q E) : wpAny (model X.prog X.w) X.A (call (.ref f) us) (EP X pins σ Q) X.xe s := by
  have hl : (us ++ []).length = ps.length := by rw [List.append_nil, ← r.length]; exact F.len _ _ _ _ h
  refine wpAny_call (codeAny_mono (F.go X.A X.stack s H ⟨us, []⟩ us vs Q E hgd hr I.env0 ?_ r h) fun res s2 hq => ?_)
  · have := hb s us I.kIn hl
    rwa [List.append_nil] at this
  · cases res with
    | error e => exact hx pins H s e s2 I hq
    | ok fl =>
      cases fl with
      | ret u => exact I.after hq
      | next => exact hq.elim
      | brk => exact hq.elim
      | cont => exact hq.elim
/-- what stands behind a method's table -/
def MtOk (gb : Bool) (P : Program) (wl : World) (mg : Str → Option Value) (base : Heap) (w : WD) (CX : CXT) (k : Nat) (m : Str) (tB : Addr → Fn → Prop) : Prop :=
  ∀ C φ, tB C φ → Cls w.K C ∧ ∃ f fd ps, Meth w.K C m f ∧ FnX gb P wl w.K mg base CX k f fd ps (spD w φ) ∧ Binds w.K fd ps []
theorem pe_methM {X : Cx} {gb : Bool} {CX : CXT} {k : Nat} {m : Str} {tB : Addr → Fn → Prop} {E : L2.St → XK} {o e : Expr} {es : List Expr} {ta : TE} {t : TA} {apos pos : Pos} {pl : Sem Bool} (hK : X.K = w.K) (he : PE X o ta) (M : MtOk gb X.prog X.w X.mg X.base w CX k m tB) (hgd : Gd gb X.A) (hr : Room k X.A) (hx : ∀ σ, PassesAt CX X σ (E σ)) (ha : PA X (e :: es) t)
    (hst : starEach (e :: es) X.env = (false, eval e X.env) :: starEach es X.env) (hpl : (backTo pos (starEach es X.env)).any (·.1) = false)
    (ht : eval (.Call (.Attribute o m apos) (e :: es) [] pos) X.env = (do
      let ov ← eval o X.env
      standAt apos.atName
      let (f, first) ← holding [ov] (getMethod ov m pl)
      callWith pos f first (backTo pos (starEach (e :: es) X.env)) (backToKw pos (keywordEach [] X.env)))) :
    PE X (.Call (.Attribute o m apos) (e :: es) [] pos) (tMethM w tB m E ta t) := by
  refine ⟨fun pins s σ H Q I h => ?_⟩
  refine PySem.W.methodCall_KW (pl := pl) (thn (he.run pins s σ H _ I h) fun u s1 ⟨x, H1, I1, rx, a, C, dx, fs, φ, ex, ea, hb, l, q⟩ => ?_) ht
  subst ex
  obtain rfl : u = Value.ref a := rx
  obtain ⟨c, f, fd, ps, hm, F, hbd⟩ := M C φ hb
  rw [← hK] at c hm F hbd
  refine getmeth_ok I1 ea c hm l ?_
  refine PySem.W.callWith_K (first := [.ref a]) (h₀ := X.base) I.ok.mod.kin hm.kp (thn (ha.run pos pins s1 σ H1 _ I1 q) fun us s2 ⟨vs, H2, I2, r, q2⟩ => ⟨I2.kIn, ?_⟩) hst hpl
  exact run_X (us := .ref a :: us) (vs := .ref a :: vs) F hgd hr hbd (hx σ) I2 (.cons rfl r) q2
theorem pe_methM0 {X : Cx} {gb : Bool} {CX : CXT} {k : Nat} {m : Str} {tB : Addr → Fn → Prop} {E : L2.St → XK} {o : Expr} {ta : TE} {apos pos : Pos} {pl : Sem Bool} (hK : X.K = w.K) (he : PE X o ta) (M : MtOk gb X.prog X.w X.mg X.base w CX k m tB) (hgd : Gd gb X.A) (hr : Room k X.A) (hx : ∀ σ, PassesAt CX X σ (E σ))
    (ht : eval (.Call (.Attribute o m apos) [] [] pos) X.env = (do
      let ov ← eval o X.env
      standAt apos.atName
      let (f, first) ← holding [ov] (getMethod ov m pl)
      callWith pos f first (backTo pos (starEach [] X.env)) (backToKw pos (keywordEach [] X.env)))) :
    PE X (.Call (.Attribute o m apos) [] [] pos) (tMethM w tB m E ta tNil) := by
  refine ⟨fun pins s σ H Q I h => ?_⟩
  refine PySem.W.methodCall_KW (pl := pl) (thn (he.run pins s σ H _ I h) fun u s1 ⟨x, H1, I1, rx, a, C, dx, fs, φ, ex, ea, hb, l, q⟩ => ?_) ht
  subst ex
  obtain rfl : u = Value.ref a := rx
  obtain ⟨c, f, fd, ps, hm, F, hbd⟩ := M C φ hb
  rw [← hK] at c hm F hbd
  refine getmeth_ok I1 ea c hm l ?_
  exact PySem.W.callWith_K0 (first := [.ref a]) I1.kIn hm.kp (run_X (us := [.ref a]) (vs := [.ref a]) F hgd hr hbd (hx σ) I1 (.cons rfl .nil) q)
def PrOk (P : Program) (wl : World) (mg : Str → Option Value) (base : Heap) (w : WD) (k : Nat) (f : Str) (tB : Addr → Fn → Prop) : Prop :=
  ∀ C φ, tB C φ → Cls w.K C ∧ ∃ p gt fd ps, PropOf w.K C f p gt ∧ FnOk P wl w.K mg base CX0 k gt fd ps (spD w φ) ∧ Binds w.K fd ps []
theorem pe_propM {X : Cx} {k : Nat} {f : Str} {tB : Addr → Fn → Prop} {e : Expr} {ta : TE} {pos : Pos} (hK : X.K = w.K) (he : PE X e ta) (M : PrOk X.prog X.w X.mg X.base w k f tB) (hr : Room (k + 1) X.A) (hab : attributeBase e f X.env (eval e X.env) = eval e X.env) : PE X (.Attribute e f pos) (tPropM w tB ta) := by
  refine ⟨fun pins s σ H Q I h => ?_⟩
  refine attr_of hab (thn (he.run pins s σ H _ I h) fun u s1 ⟨x, H1, I1, rx, a, C, dx, fs, φ, ex, ea, hb, q⟩ => ?_)
  subst ex
  obtain rfl : u = Value.ref a := rx
  obtain ⟨c, p, gt, fd, ps, hp, F, hbd⟩ := M C φ hb
  rw [← hK] at c hp F hbd
  exact getprop_ok (dvs := []) I1 ea c hp F hr hbd .nil (fun _ _ _ _ _ _ _ z => z.elim) q
/-! the judgements -/
/-- a method's defs by classes; b: they may raise -/
structure Mets (P : Program) (wl : World) (mg : Str → Option Value) (base : Heap) (w : WD) (gb b : Bool) (k : Nat) (m : Str) (tb : CN → Option Fn) : Prop where
  ex : ∀ c φ, tb c = some φ → Cls w.K (w.cls c) ∧ ∃ f, Meth w.K (w.cls c) m f ∧ Def P wl mg base w gb b k f φ
structure Prps (P : Program) (wl : World) (mg : Str → Option Value) (base : Heap) (w : WD) (k : Nat) (m : Str) (tb : CN → Option Fn) : Prop where
  ex : ∀ c φ, tb c = some φ → Cls w.K (w.cls c) ∧ ∃ p f, PropOf w.K (w.cls c) m p f ∧ Def P wl mg base w false false k f φ
variable {ι : Type} {XS : ι → Cx} {P : Program} {wl : World} {mg : Str → Option Value} {base : Heap} {gb gb' b : Bool} {n k : Nat} {m x : Str} {e o : Expr} {es : List Expr} {kws : List Keyword} {sb : SB} {se : SE} {args sk : SA} {p p2 apos pos kpos : Pos}
def tbOf (w : WD) (tb : CN → Option Fn) : Addr → Fn → Prop := fun C φ => ∃ c, C = w.cls c ∧ tb c = some φ
theorem Mets.ok {tb : CN → Option Fn} (M : Mets P wl mg base w gb b k m tb) : MtOk gb P wl mg base w (CXb b P wl) k m (tbOf w tb) := fun C φ ⟨c, e, h⟩ => by
  subst e
  obtain ⟨h1, f, h2, fd, ps, h3, h4, _⟩ := M.ex c φ h
  exact ⟨h1, f, fd, ps, h2, h3, h4⟩
theorem de_meth {tb : CN → Option Fn} {pl : ι → Sem Bool} (F : Fam P wl mg base w gb n XS) (tk : Tk b XS W) (M : Mets P wl mg base w gb' b k m tb) (h : DB XS w W o sb) (ha : DA XS w W (e :: es) args) (hgb : gb' = true → gb = true := by decide) (hk : k ≤ n := by decide)
    (hst : ∀ i, starEach (e :: es) (XS i).env = (false, eval e (XS i).env) :: starEach es (XS i).env := by intro _; rfl) (hpl : ∀ i, (backTo pos (starEach es (XS i).env)).any (·.1) = false := by intro _; rfl)
    (ht : ∀ i, eval (.Call (.Attribute o m apos) (e :: es) [] pos) (XS i).env = (do
      let ov ← eval o (XS i).env
      standAt apos.atName
      let (f, first) ← holding [ov] (getMethod ov m (pl i))
      callWith pos f first (backTo pos (starEach (e :: es) (XS i).env)) (backToKw pos (keywordEach [] (XS i).env))) := by intro _; rfl) : DE XS w W (.Call (.Attribute o m apos) (e :: es) [] pos) (seMeth m tb sb args) := by
  obtain ⟨t, h1, h2⟩ := h
  obtain ⟨u, k1, k2⟩ := ha
  refine ⟨_, fun i => ?_, re_meth (E := WEb b W) (tB := tbOf w tb) WEb.of (fun c φ z => ⟨c, rfl, z⟩) h2 k2⟩
  have t1 := tk.at i
  rw [F.prog i, F.wl i] at t1
  exact pe_methM (F.K i) (h1 i) (by rw [F.prog i, F.wl i, F.mg i, F.base i]; exact M.ok) (fun z => F.gd i (hgb z)) ((F.room i).mono hk) t1 (k1 i) (hst i) (hpl i) (ht i)
theorem de_meth0 {tb : CN → Option Fn} {pl : ι → Sem Bool} (F : Fam P wl mg base w gb n XS) (tk : Tk b XS W) (M : Mets P wl mg base w gb' b k m tb) (h : DB XS w W o sb) (hgb : gb' = true → gb = true := by decide) (hk : k ≤ n := by decide)
    (ht : ∀ i, eval (.Call (.Attribute o m apos) [] [] pos) (XS i).env = (do
      let ov ← eval o (XS i).env
      standAt apos.atName
      let (f, first) ← holding [ov] (getMethod ov m (pl i))
      callWith pos f first (backTo pos (starEach [] (XS i).env)) (backToKw pos (keywordEach [] (XS i).env))) := by intro _; rfl) : DE XS w W (.Call (.Attribute o m apos) [] [] pos) (seMeth m tb sb saNil) := by
  obtain ⟨t, h1, h2⟩ := h
  refine ⟨_, fun i => ?_, re_meth (E := WEb b W) (tB := tbOf w tb) WEb.of (fun c φ z => ⟨c, rfl, z⟩) h2 ra_nil⟩
  have t1 := tk.at i
  rw [F.prog i, F.wl i] at t1
  exact pe_methM0 (F.K i) (h1 i) (by rw [F.prog i, F.wl i, F.mg i, F.base i]; exact M.ok) (fun z => F.gd i (hgb z)) ((F.room i).mono hk) t1 (ht i)
theorem de_prop {tb : CN → Option Fn} (F : Fam P wl mg base w gb n XS) (M : Prps P wl mg base w k m tb) (h : DB XS w W o sb) (hk : k + 1 ≤ n := by decide) (hab : ∀ i, attributeBase o m (XS i).env (eval o (XS i).env) = eval o (XS i).env := by intro _; rfl) : DE XS w W (.Attribute o m pos) (seProp tb sb) := by
  obtain ⟨t, h1, h2⟩ := h
  refine ⟨_, fun i => ?_, re_prop (tB := tbOf w tb) (fun c φ z => ⟨c, rfl, z⟩) h2⟩
  refine pe_propM (F.K i) (h1 i) ?_ ((F.room i).mono hk) (hab i)
  rw [F.prog i, F.wl i, F.mg i, F.base i]
  rintro C φ ⟨c, rfl, z⟩
  obtain ⟨q1, p, f, q2, fd, ps, q3, q4, _⟩ := M.ex c φ z
  exact ⟨q1, p, f, fd, ps, q2, q3.ok, q4⟩
end
end M7
/-! Keywords, classes called, class methods, global constants. -/
namespace R7
open PySem PySem.Spec PyProof.Rows L2
/-- c(*y), c a local name that holds the class at C -/
def tMakeSv (K : PySem.W.Frag) (C : Addr) (sp : Sp2) (i : Nat) (E : L2.St → XK) (te : TE) : TE := fun σ H Q => σ[i]? = some (some (.ref C)) ∧ te σ H fun y H1 => ∃ b vs, y = .ref b ∧ (SqT K H1 b vs ∨ SqL K H1 b vs) ∧
  ∀ x dx, H1 x = none → H1 dx = none → dx ≠ x → sp (.ref x :: vs) [] (upd (upd H1 dx (.own x)) x (.ins C dx [])) (fun v H3 => v = .non ∧ Q (.ref x) H3) (E σ)
theorem pe_makeSv {X : Cx} {CX : CXT} {k i : Nat} {f C : Addr} {sp : Sp2} {E : L2.St → XK} {x : Str} {p pos p2 : Pos} {e : Expr} {te : TE} (M : Mk X.K C f) (F : FnK X.prog X.w X.K X.mg X.base CX k f [] sp) (hr : Room (k + 1) X.A) (hN : X.N[i]? = some x) (hv : Vis X.env.scope x) (hx : ∀ σ, PassesAt CX X σ (E σ))
    (he : PE X e te) (hdb : (x == ("__debug__" : Str)) = false) (hcd : (x == ("__classdict__" : Str)) = false) (hst : starEach [.Starred e p2] X.env = [(true, eval e X.env)]) : PE X (.Call (.Name x p) [.Starred e p2] [] pos) (tMakeSv X.K C sp i E te) := by
  refine ⟨fun pins s σ H Q I h => ?_⟩
  obtain ⟨hσ, h⟩ := h
  refine wpAny_Call_Name_kw (raw_name hN hv I hσ (fun u r => ?_) hdb hcd)
  obtain rfl : u = Value.ref C := r
  rw [hst]
  refine PySem.W.ks_call (P := fun h => X.K.In h) rfl (PySem.W.keeps_K M.kp) ?_
  refine PySem.W.ks_lone (thn (he.run pins s σ H _ I h) fun v2 s4 ⟨y2, H3, I4, ry2, t, vs, ey, ht, q5⟩ => ?_)
  subst ey
  obtain rfl : v2 = Value.ref t := ry2
  refine StX.star_any I4 ht fun us s5 I5 rv => ⟨I5.kIn, ?_⟩
  have := run_makeK (us := us) (ws := []) (vs := vs) (zs := []) M F hr (hx σ) I5 rv .nil rfl q5
  simpa using this
/-- e.m(..), e the class at C, m a class method -/
def tCMethS (C : Addr) (sp : Sp) (E : L2.St → XK) (ta : TE) (t : TA) : TE := fun σ H Q => ta σ H fun x H1 => x = .ref C ∧ t σ H1 fun vs H2 => sp (.ref C :: vs) H2 Q (E σ)
theorem pe_cmethS {X : Cx} {C p g : Addr} {mc : Value} {sp : Sp} {E : L2.St → XK} {o e : Expr} {es : List Expr} {m : Str} {pos apos : Pos} {ta : TE} {t : TA} {pl : Sem Bool} (he : PE X o ta) (r : ClX.CRead X.K C mc) (c : ClX.CMet X.K C mc m p g)
    (F : ∀ {pins : List (Addr × Obj)} {σ : L2.St} {H : Hp} {s : Shared} {Q : VK} {us : List Value} {vs : List V}, Inv X pins σ H s → Vals vs us → sp vs H Q (E σ) → codeAny (model X.prog X.w) X.A (.call (.ref g) ⟨us, []⟩) (fun r s' => match r with | .ok (.ret v) => EP X pins σ Q v s' | .ok _ => False | .error e => X.xe e s') s) (ha : PA X (e :: es) t)
    (hst : starEach (e :: es) X.env = (false, eval e X.env) :: starEach es X.env) (hpl : (backTo pos (starEach es X.env)).any (·.1) = false)
    (ht : eval (.Call (.Attribute o m apos) (e :: es) [] pos) X.env = (do
      let ov ← eval o X.env
      standAt apos.atName
      let (f, first) ← holding [ov] (getMethod ov m pl)
      callWith pos f first (backTo pos (starEach (e :: es) X.env)) (backToKw pos (keywordEach [] X.env)))) :
    PE X (.Call (.Attribute o m apos) (e :: es) [] pos) (tCMethS C sp E ta t) := by
  refine ⟨fun pins s σ H Q I h => ?_⟩
  refine PySem.W.methodCall_KW (pl := pl) (thn (he.run pins s σ H _ I h) fun u s1 ⟨x, H1, I1, rx, ex, q⟩ => ?_) ht
  subst ex
  obtain rfl : u = Value.ref C := rx
  refine ClX.getmethcm_ok I1 r c fun s2 I2 => ?_
  refine ClX.callwith_cm I2 (ClX.base_none I1 (Nat.le_refl _)) c.fi (thn (ha.run pos _ s2 σ H1 _ I2 q) fun us s3 ⟨vs, H2, I3, rv, q2⟩ => ⟨⟨ClX.pin_at I3, I3.kIn⟩, ?_⟩) hst hpl
  have z := wpAny_call (PySem.W.method_call (ClX.pin_at I3) (F I3 (us := .ref C :: us) (vs := .ref C :: vs) (.cons rfl rv) q2))
  exact thn z fun _ _ y => ClX.unpinE y
end R7
namespace M7
open PySem PySem.Spec PyProof.Rows L2
section
variable {w : WD} {W : WX} {π : Nat → V} {B B' B1 Z : Hp} {g : G} {σ : L2.St} {H H' : Hp} {v : V}
def seMakeSv (c : CN) (φ : Fn) (gD : List D → List D) (i : Nat) (se : SE) : SE := fun g => match g[i]? with
  | some (some (.f, .cls c')) => if c' = c then (se g).bind fun r g1 => match seqOf r.2 with
    | some ds => mkO c φ 0 gD ds [] g1
    | none => .fail else .fail
  | _ => .fail
theorem re_makeSv {c : CN} {φ : Fn} {i : Nat} {gV : List V → List V} {gD : List D → List D} {E : L2.St → XK} {te : TE} {se : SE} (hE : ∀ σ cls d H', W cls d σ H' → E σ cls d H') (hG : GV w 0 gV gD) (h : RE w W te se) :
    RE w W (R7.tMakeSv w.K (w.cls c) (spStar w φ gV) i E te) (seMakeSv c φ gD i se) := fun π B Z g σ H Q s q => by
  unfold seMakeSv at q
  split at q
  · rename_i c' hi
    split at q
    · rename_i hc
      subst hc
      obtain ⟨v, h1, h2⟩ := s.fz i .f _ hi rfl
      cases h2
      refine ⟨h1, h π B Z g σ H _ s (tailE.bE q fun o d g1 v B1 H1 e1 s1 r1 q1 => ?_)⟩
      split at q1
      · rename_i ds hd
        obtain ⟨B3, e3, s3, dn⟩ := r1.freeze s1
        obtain ⟨b, vs, rfl, hb, hx⟩ := lk_seq s3.sub dn hd
        exact ⟨b, vs, rfl, hb, (re_mkO (hE σ) hG s3 hx .nil (q1.mono e3)).2⟩
      · exact q1.elim
    · exact q.elim
  · exact q.elim
def saD (d : D) (sa : SA) : SA := fun g => (sa g).bind fun rs g1 => .ok (.dt d :: rs) g1
theorem re_cmeth {c : CN} {φ : Fn} {E : L2.St → XK} {ta : TA} {sa : SA} (hE : ∀ σ cls d H', W cls d σ H' → E σ cls d H') (h : RA w W ta sa) : RE w W (R7.tCMethS (w.cls c) (spD w φ) E (tC (.ref (w.cls c))) ta) (seCall φ (saD (.cls c) sa)) := fun π B Z g σ H Q s q => by
  refine ⟨rfl, h π B Z g σ H _ s (tailE.bA (k := fun rs g1 => callO φ (.dt (.cls c) :: rs) g1) ?_ fun rs g1 vs B1 H1 e1 s1 r1 q1 => call_D s1 (.cons (show RefOk w B1 σ _ (.dt (.cls c)) from Den.cls c) r1) (hE σ) q1)⟩
  unfold seCall saD at q
  cases hs : sa g with
  | ok rs g1 => rw [hs] at q; exact q
  | ex x f g1 => rw [hs] at q; exact q
  | fail => rw [hs] at q; exact q
end
section
variable {w : WD} {W : WX} {ι : Type} {XS : ι → Cx} {P : Program} {wl : World} {mg : Str → Option Value} {base : Heap} {gb gb' b : Bool} {n k : Nat} {m x : Str} {e o : Expr} {es : List Expr} {kws : List Keyword} {sb : SB} {se : SE} {args sk : SA} {p p2 apos pos kpos : Pos}
def DK (XS : ι → Cx) (w : WD) (W : WX) (kws : List Keyword) (sa : SA) : Prop := ∃ t, (∀ i, PK (XS i) kws t) ∧ RA w W t sa
theorem dk_nil : DK XS w W [] saNil := ⟨_, fun _ => pk_nil, ra_nil⟩
theorem dk_cons {nm : Option Str} (h : DB XS w W e sb) (k : DK XS w W kws args) : DK XS w W (⟨nm, e, kpos⟩ :: kws) (saCons sb args) := by
  obtain ⟨t, h1, h2⟩ := h
  obtain ⟨u, k1, k2⟩ := k
  exact ⟨_, fun i => pk_cons (h1 i) (k1 i), ra_cons h2 k2⟩
/-- a class whose __init__ takes a star and the keywords ks -/
structure Mak (P : Program) (wl : World) (mg : Str → Option Value) (base : Heap) (w : WD) (b : Bool) (k : Nat) (c : CN) (ks : List Str) (φ : Fn) (gD : List D → List D) : Prop where
  ex : ∃ (f : Addr) (gV : List V → List V), Mk w.K (w.cls c) f ∧ R7.FnK P wl w.K mg base (CXb b P wl) k f ks (spStar w φ gV) ∧ GV w ks.length gV gD
theorem de_make {c : CN} {ks : List Str} {φ : Fn} {gD : List D → List D} (F : Fam P wl mg base w gb n XS) (tk : Tk b XS W) (M : Mak P wl mg base w b k c ks φ gD) (hm : mg x = some (.ref (w.cls c))) (ha : DA XS w W (e :: es) args) (hkw : DK XS w W kws sk) (hk : k + 1 ≤ n := by decide) (hg : ∀ i, Gl (XS i) x := by intro _; rfl)
    (hall : ∀ i, (backToKw pos (keywordEach kws (XS i).env)).all (·.1.isSome) = true := by intro _; rfl) (hks : ∀ i, (backToKw pos (keywordEach kws (XS i).env)).filterMap (·.1) = ks := by intro _; rfl)
    (hdb : (x == ("__debug__" : Str)) = false := by decide) (he : ∀ i, starEach (e :: es) (XS i).env = (false, eval e (XS i).env) :: starEach es (XS i).env := by intro _; rfl)
    (hpl : ∀ i, ((backTo pos (starEach (e :: es) (XS i).env)).any (·.1) || (backToKw pos (keywordEach kws (XS i).env)).any (·.1.isNone)) = false := by intro _; rfl) :
    DE XS w W (.Call (.Name x p) (e :: es) kws pos) (seMake c φ ks.length gD args sk) := by
  obtain ⟨t, h1, h2⟩ := ha
  obtain ⟨u, k1, k2⟩ := hkw
  obtain ⟨f, gV, q1, q2, q3⟩ := M.ex
  refine ⟨_, fun i => ?_, re_make (E := WEb b W) WEb.of q3 h2 k2⟩
  have t1 := tk.at i
  rw [F.prog i, F.wl i] at t1
  exact R7.pe_makeK (CX := CXb b P wl) (by rw [F.K i]; exact q1) (by rw [F.prog i, F.wl i, F.K i, F.mg i, F.base i]; exact q2) ((F.room i).mono hk) (hg i) (by rw [F.mg i]; exact hm) t1 (h1 i) (k1 i) (hall i) (hks i) hdb (he i) (hpl i)
theorem de_makeS {c : CN} {ks : List Str} {φ : Fn} {gD : List D → List D} (F : Fam P wl mg base w gb n XS) (tk : Tk b XS W) (M : Mak P wl mg base w b k c ks φ gD) (hm : mg x = some (.ref (w.cls c))) (ha : DE XS w W e se) (hkw : DK XS w W kws sk) (hk : k + 1 ≤ n := by decide) (hg : ∀ i, Gl (XS i) x := by intro _; rfl)
    (hall : ∀ i, (backToKw pos (keywordEach kws (XS i).env)).all (·.1.isSome) = true := by intro _; rfl) (hks : ∀ i, (backToKw pos (keywordEach kws (XS i).env)).filterMap (·.1) = ks := by intro _; rfl)
    (hdb : (x == ("__debug__" : Str)) = false := by decide) (hst : ∀ i, starEach [.Starred e p2] (XS i).env = [(true, eval e (XS i).env)] := by intro _; rfl) :
    DE XS w W (.Call (.Name x p) [.Starred e p2] kws pos) (seMakeS c φ ks.length gD se sk) := by
  obtain ⟨t, h1, h2⟩ := ha
  obtain ⟨u, k1, k2⟩ := hkw
  obtain ⟨f, gV, q1, q2, q3⟩ := M.ex
  refine ⟨_, fun i => ?_, re_makeS (E := WEb b W) WEb.of q3 h2 k2⟩
  have t1 := tk.at i
  rw [F.prog i, F.wl i] at t1
  have z := R7.pe_makeS (CX := CXb b P wl) (ks := ks) (sp := spStar w φ gV) (x := x) (p := p) (pos := pos) (p2 := p2) (by rw [F.K i]; exact q1) (by rw [F.prog i, F.wl i, F.K i, F.mg i, F.base i]; exact q2) ((F.room i).mono hk) (hg i) (by rw [F.mg i]; exact hm) t1 (h1 i) (k1 i) (hall i) (hks i) hdb (hst i)
  rw [F.K i] at z
  exact z
theorem de_makeSv {c : CN} {φ : Fn} {gD : List D → List D} (j : Nat) (F : Fam P wl mg base w gb n XS) (tk : Tk b XS W) (M : Mak P wl mg base w b k c [] φ gD) (ha : DE XS w W e se) (hk : k + 1 ≤ n := by decide) (hN : ∀ i, (XS i).N[j]? = some x := by intro _; rfl) (hv : ∀ i, Vis (XS i).env.scope x := by intro _; first | exact Or.inl rfl | exact Or.inr (Or.inl rfl) | exact Or.inr (Or.inr rfl))
    (hdb : (x == ("__debug__" : Str)) = false := by decide) (hcd : (x == ("__classdict__" : Str)) = false := by decide) (hst : ∀ i, starEach [.Starred e p2] (XS i).env = [(true, eval e (XS i).env)] := by intro _; rfl) :
    DE XS w W (.Call (.Name x p) [.Starred e p2] [] pos) (seMakeSv c φ gD j se) := by
  obtain ⟨t, h1, h2⟩ := ha
  obtain ⟨f, gV, q1, q2, q3⟩ := M.ex
  refine ⟨_, fun i => ?_, re_makeSv (E := WEb b W) WEb.of q3 h2⟩
  have t1 := tk.at i
  rw [F.prog i, F.wl i] at t1
  have z := R7.pe_makeSv (CX := CXb b P wl) (sp := spStar w φ gV) (x := x) (p := p) (pos := pos) (p2 := p2) (by rw [F.K i]; exact q1) (by rw [F.prog i, F.wl i, F.K i, F.mg i, F.base i]; exact q2) ((F.room i).mono hk) (hN i) (hv i) t1 (h1 i) hdb hcd (hst i)
  rw [F.K i] at z
  exact z
/-- C.m(e, *y, k = v), __init__ of a base -/
structure Bas (P : Program) (wl : World) (mg : Str → Option Value) (base : Heap) (w : WD) (b : Bool) (k : Nat) (c : CN) (m : Str) (ks : List Str) (φ : Fn) (gD : List D → List D) : Prop where
  ex : ∃ (mc : Value) (f : Addr) (gV : List V → List V), ClX.CRead w.K (w.cls c) mc ∧ PySem.W.findCls w.K (.ref (w.cls c)) mc m = some (.val (.ref f)) ∧ PySem.W.keepIn w.K (.ref f) = true ∧ R7.FnK P wl w.K mg base (CXb b P wl) k f ks (spStar w φ gV) ∧ GV w ks.length gV gD
theorem de_clsS {e2 : Expr} {se2 : SE} {c : CN} {ks : List Str} {φ : Fn} {gD : List D → List D} (F : Fam P wl mg base w gb n XS) (tk : Tk b XS W) (M : Bas P wl mg base w b k c m ks φ gD) (hm : mg x = some (.ref (w.cls c))) (ha : DB XS w W e sb) (hb : DE XS w W e2 se2) (hkw : DK XS w W kws sk) (hk : k ≤ n := by decide) (hg : ∀ i, Gl (XS i) x := by intro _; rfl)
    (hall : ∀ i, (backToKw pos (keywordEach kws (XS i).env)).all (·.1.isSome) = true := by intro _; rfl) (hks : ∀ i, (backToKw pos (keywordEach kws (XS i).env)).filterMap (·.1) = ks := by intro _; rfl) (hdb : (x == ("__debug__" : Str)) = false := by decide)
    (hbase : ∀ i, attributeBase (.Name x p) m (XS i).env (eval (.Name x p) (XS i).env) = eval (.Name x p) (XS i).env := by intro _; rfl) (hst : ∀ i, starEach [e, .Starred e2 p2] (XS i).env = [(false, eval e (XS i).env), (true, eval e2 (XS i).env)] := by intro _; rfl) :
    DE XS w W (.Call (.Attribute (.Name x p) m apos) [e, .Starred e2 p2] kws pos) (seClsS φ ks.length gD sb se2 sk) := by
  obtain ⟨t, h1, h2⟩ := ha
  obtain ⟨t2, l1, l2⟩ := hb
  obtain ⟨u, k1, k2⟩ := hkw
  obtain ⟨mc, f, gV, q1, q2, q3, q4, q5⟩ := M.ex
  refine ⟨_, fun i => ?_, re_clsS (C := w.cls c) (E := WEb b W) WEb.of q5 h2 l2 k2⟩
  have t1 := tk.at i
  rw [F.prog i, F.wl i] at t1
  have z := R7.pe_clsS (CX := CXb b P wl) (ks := ks) (sp := spStar w φ gV) (p := p2) (apos := apos) (pos := pos) (pe_glob (X := XS i) (v := .ref (w.cls c)) (pos := p) (hg i) (by rw [F.mg i]; exact hm) rfl hdb) (by rw [F.K i]; exact q1) (by rw [F.K i]; exact q2) (by rw [F.K i]; exact q3) (by rw [F.prog i, F.wl i, F.K i, F.mg i, F.base i]; exact q4) ((F.room i).mono hk) t1 (h1 i) (l1 i) (k1 i) (hall i) (hks i) (hbase i) (hst i)
  rw [F.K i] at z
  exact z
/-- C.m(..), m a class method -/
structure Cmt (P : Program) (wl : World) (mg : Str → Option Value) (base : Heap) (w : WD) (b : Bool) (k : Nat) (c : CN) (m : Str) (φ : Fn) : Prop where
  ex : ∃ (mc : Value) (p f : Addr), ClX.CRead w.K (w.cls c) mc ∧ ClX.CMet w.K (w.cls c) mc m p f ∧ Def P wl mg base w false b k f φ
theorem de_cmeth {c : CN} {φ : Fn} {pl : ι → Sem Bool} (F : Fam P wl mg base w gb n XS) (tk : Tk b XS W) (M : Cmt P wl mg base w b k c m φ) (hm : mg x = some (.ref (w.cls c))) (ha : DA XS w W (e :: es) args) (hk : k ≤ n := by decide) (hg : ∀ i, Gl (XS i) x := by intro _; rfl) (hdb : (x == ("__debug__" : Str)) = false := by decide)
    (hst : ∀ i, starEach (e :: es) (XS i).env = (false, eval e (XS i).env) :: starEach es (XS i).env := by intro _; rfl) (hpl : ∀ i, (backTo pos (starEach es (XS i).env)).any (·.1) = false := by intro _; rfl)
    (ht : ∀ i, eval (.Call (.Attribute (.Name x p) m apos) (e :: es) [] pos) (XS i).env = (do
      let ov ← eval (.Name x p) (XS i).env
      standAt apos.atName
      let (f, first) ← holding [ov] (getMethod ov m (pl i))
      callWith pos f first (backTo pos (starEach (e :: es) (XS i).env)) (backToKw pos (keywordEach [] (XS i).env))) := by intro _; rfl) : DE XS w W (.Call (.Attribute (.Name x p) m apos) (e :: es) [] pos) (seCall φ (saD (.cls c) args)) := by
  obtain ⟨t, h1, h2⟩ := ha
  obtain ⟨mc, q, f, k1, k2, fd, ps, k4, k5, k6⟩ := M.ex
  refine ⟨_, fun i => ?_, re_cmeth (c := c) (E := WEb b W) WEb.of h2⟩
  have t1 := tk.at i
  rw [F.prog i, F.wl i] at t1
  refine R7.pe_cmethS (pe_glob (X := XS i) (v := .ref (w.cls c)) (pos := p) (hg i) (by rw [F.mg i]; exact hm) rfl hdb) (by rw [F.K i]; exact k1) (by rw [F.K i]; exact k2) (fun {pins σ H s Q us vs} I r h => ?_) (h1 i) (hst i) (hpl i) (ht i)
  have hl : (us ++ []).length = ps.length := by rw [List.append_nil, ← r.length]; exact k4.len _ _ _ _ h
  have k4' : FnX false (XS i).prog (XS i).w (XS i).K (XS i).mg (XS i).base (CXb b P wl) k f fd ps (spD w φ) := by rw [F.prog i, F.wl i, F.K i, F.mg i, F.base i]; exact k4
  have k5' : Binds (XS i).K fd ps [] := by rw [F.K i]; exact k5
  refine codeAny_mono (k4'.go (XS i).A (XS i).stack s H ⟨us, []⟩ us vs Q _ (fun z => nomatch z) ((F.room i).mono hk) I.env0 ?_ r h) fun res s2 hq => ?_
  · have := k5' s us I.kIn hl
    rwa [List.append_nil] at this
  · cases res with
    | error er => exact t1 σ pins H s er s2 I hq
    | ok fl =>
      cases fl with
      | ret u => exact I.after hq
      | next => exact hq.elim
      | brk => exact hq.elim
      | cont => exact hq.elim
/-- a constant of a module -/
structure Gcn (w : WD) (mg : Str → Option Value) (x : Str) (d : D) : Prop where
  ex : ∃ (v : V) (u : Value), mg x = some u ∧ RelV v u ∧ ∀ B, Den w B v d
theorem re_gc {v : V} {d : D} (hd : ∀ B, Den w B v d) : RE w W (tC v) (seC d) := fun π B Z g σ H Q s q => q v B H (Ext.refl _) s (hd B)
theorem de_gc {d : D} (h : Gcn w mg x d) (hm : ∀ i, (XS i).mg = mg := by intro _; rfl) (hg : ∀ i, Gl (XS i) x := by intro _; rfl) (hdb : (x == ("__debug__" : Str)) = false := by decide) : DE XS w W (.Name x pos) (seC d) := by
  obtain ⟨v, u, h1, h2, h3⟩ := h.ex
  exact ⟨_, fun i => pe_glob (hg i) (by rw [hm i]; exact h1) h2 hdb, re_gc h3⟩
end
end M7
/-! Dicts. -/
namespace M7
open PySem PySem.Spec PyProof.Rows L2
def valD (kvs : List (Key × D)) (k : Key) : Option D := (kvs.find? fun kv => decide (kv.1 = k)).map (·.2)
def keyD : D → Option Key
  | .int i => some (.inl i)
  | .str x => some (.inr x)
  | _ => none
def putKD (kvs : List (Key × D)) (k : Key) (v : D) : List (Key × D) :=
  if (kvs.any fun kv => decide (kv.1 = k)) = true then kvs.map (fun kv => if kv.1 = k then (kv.1, v) else kv) else kvs ++ [(k, v)]
def dDGet : D → D → Option (Bool × D)
  | .dct kvs, k => (keyD k).bind fun q => (valD kvs q).map fun d => (false, d)
  | _, _ => none
def dDIn (neg : Bool) : D → D → Option (Bool × D)
  | k, .dct kvs => (keyD k).map fun q => (false, .bl (if neg = true then !(valD kvs q).isSome else (valD kvs q).isSome))
  | _, _ => none
section
variable {w : WD} {W : WX} {π : Nat → V} {B B' B1 Z : Hp} {g : G} {σ : L2.St} {H H' : Hp} {v : V}
theorem zip_val {k : Key} : ∀ {ks : List Key} {vs : List V} {ds : List D}, ks.length = vs.length → Dens w B vs ds → (valD (ks.zip ds) k = none → valV (ks.zip vs) k = none) ∧ ∀ d, valD (ks.zip ds) k = some d → ∃ v, valV (ks.zip vs) k = some v ∧ Den w B v d
  | [], _, _, _, _ => ⟨fun _ => rfl, fun d e => by cases e⟩
  | n :: ns, [], _, l, _ => by cases l
  | n :: ns, v :: vs, _, l, .cons (d := d) (ds := ds) r t => by
    have ih := zip_val (k := k) (ks := ns) (by simpa using l) t
    rw [List.zip_cons_cons, List.zip_cons_cons]
    by_cases e : n = k
    · rw [valV_pos (p := (n, v)) e]
      have : valD ((n, d) :: ns.zip ds) k = some d := by simp [valD, List.find?_cons, e]
      rw [this]
      exact ⟨fun z => by (cases z), fun d' z => by
        cases z
        exact ⟨v, rfl, r⟩⟩
    · rw [valV_neg (p := (n, v)) e]
      have : valD ((n, d) :: ns.zip ds) k = valD (ns.zip ds) k := by simp [valD, List.find?_cons, e]
      rw [this]
      exact ih
theorem lk_dct {kvs : List (Key × D)} (s : Sub B H) (h : Lk w B H v (.dct kvs)) : ∃ (a : Addr) (ks : List Key) (vs : List V) (ds : List D), v = .ref a ∧ Rd H a (.dK (ks.zip vs)) ∧ ks.length = vs.length ∧ Dens w B vs ds ∧ kvs = ks.zip ds := by
  cases h with
  | den h =>
    cases h with
    | dct e l r => exact ⟨_, _, _, _, rfl, s.rd (.inl e), l, r, rfl⟩
  | own _ h =>
    cases h with
    | dct e l r => exact ⟨_, _, _, _, rfl, .inl e, l, r, rfl⟩
theorem lk_key {d : D} {k : Key} (h : Lk w B H v d) (e : keyD d = some k) : v = kV k := by
  cases d with
  | int i => cases e; exact lk_int h
  | str x => cases e; exact lk_str h
  | _ => cases e
def rDGet : R2 := fun x y H Q => ∃ a v, x = .ref a ∧ DGet H a y (some v) ∧ Q v H
def rDIn (neg : Bool) : R2 := fun y x H Q => ∃ a o, x = .ref a ∧ DGet H a y o ∧ Q (.bl (if neg = true then !o.isSome else o.isSome)) H
theorem od_dget : OpD w rDGet dDGet := fun π B Z g σ H Q v u d e s h1 h2 q => by
  cases d <;> first | exact q.elim | skip
  rename_i kvs
  have q : PostF w π B Z g σ Q ((keyD e).bind fun q => (valD kvs q).map fun d => (false, d)) := q
  cases hk : keyD e with
  | none => rw [hk] at q; exact q.elim
  | some k =>
    rw [hk, Option.bind_some] at q
    obtain ⟨a, ks, vs, ds, rfl, ha, hl, hx, rfl⟩ := lk_dct s.sub h1
    cases hv : valD (ks.zip ds) k with
    | none => rw [hv] at q; exact q.elim
    | some d =>
      rw [hv] at q
      obtain ⟨x, hx1, hx2⟩ := (zip_val hl hx).2 d hv
      exact ⟨a, x, rfl, .inl ⟨_, k, ha, lk_key h2 hk, hx1.symm⟩, fin_d s q hx2⟩
theorem od_din {neg : Bool} : OpD w (rDIn neg) (dDIn neg) := fun π B Z g σ H Q v u d e s h1 h2 q => by
  cases e <;> first | (cases d <;> exact q.elim) | skip
  rename_i kvs
  have q : PostF w π B Z g σ Q ((keyD d).map fun q => (false, .bl (if neg = true then !(valD kvs q).isSome else (valD kvs q).isSome))) := by cases d <;> exact q
  cases hk : keyD d with
  | none => rw [hk] at q; exact q.elim
  | some k =>
    rw [hk, Option.map_some] at q
    obtain ⟨a, ks, vs, ds, rfl, ha, hl, hx, rfl⟩ := lk_dct s.sub h2
    refine ⟨a, valV (ks.zip vs) k, rfl, .inl ⟨_, k, ha, lk_key h1 hk, rfl⟩, ?_⟩
    have e : (valV (ks.zip vs) k).isSome = (valD (ks.zip ds) k).isSome := by
      cases hv : valD (ks.zip ds) k with
      | none =>
        rw [(zip_val hl hx).1 hv]
        rfl
      | some d =>
        obtain ⟨x, hx1, _⟩ := (zip_val hl hx).2 d hv
        rw [hx1]
        rfl
    rw [e]
    exact fin_d s q (.bl _)
/-- d.get(k, x) -/
def seDGet2 (sb1 sb2 sb3 : SB) : SE := fun g => (sb1 g).bind fun r1 g1 => match r1.get g1 with
  | some (.dct _) => (sb2 g1).bind fun r2 g2 => (sb3 g2).bind fun r3 g3 => match r1.get g3, (r2.get g3).bind keyD, r3.get g3 with
    | some (.dct kvs), some k, some z => match valD kvs k, r3 with
      | some d, _ => .ok (false, d) g3
      | none, .dt z => .ok (false, z) g3
      | none, _ => .fail
    | _, _, _ => .fail
  | _ => .fail
theorem re_dget2 {t1 t2 t3 : TE} {sb1 sb2 sb3 : SB} (h1 : RB w W t1 sb1) (h2 : RB w W t2 sb2) (h3 : RB w W t3 sb3) : RE w W (tDGet2 t1 t2 t3) (seDGet2 sb1 sb2 sb3) := fun π B Z g σ H Q s q =>
  h1 π B Z g σ H _ s (tailE.bB q fun r1 g1 v1 B1 H1 e1 s1 k1 q1 => by
    split at q1
    · rename_i kv0 hr0
      obtain ⟨a, ks, vs, ds, rfl, ha, hl, hx, _⟩ := lk_dct s1.sub (s1.lk k1 hr0)
      refine ⟨a, rfl, .inl ⟨_, ha⟩, h2 π B1 Z g1 σ H1 _ s1 (tailE.bB q1 fun r2 g2 v2 B2 H2 e2 s2 k2 q2 => h3 π B2 Z g2 σ H2 _ s2 (tailE.bB q2 fun r3 g3 v3 B3 H3 e3 s3 k3 q3 => ?_))⟩
      split at q3
      · rename_i kvs k z hr1 hr2 hr3
        obtain ⟨a', ks', vs', ds', za, ha', hl', hx', rfl⟩ := lk_dct s3.sub (s3.lk (k1.mono (e2.trans e3)) hr1)
        cases za
        cases hr2' : r2.get g3 with
        | none => rw [hr2'] at hr2; cases hr2
        | some d2 =>
          rw [hr2'] at hr2
          have hk : v2 = kV k := lk_key (s3.lk (k2.mono e3) hr2') hr2
          refine ⟨valV (ks'.zip vs') k, .inl ⟨_, k, ha', hk, rfl⟩, ?_⟩
          split at q3
          · rename_i d hv
            obtain ⟨x, hx1, hx2⟩ := (zip_val hl' hx').2 d hv
            rw [hx1]
            exact q3 x B3 H3 (Ext.refl _) s3 hx2
          · rename_i z' hv
            rw [(zip_val hl' hx').1 hv]
            exact q3 v3 B3 H3 (Ext.refl _) s3 k3
          · exact q3.elim
      · exact q3.elim
    · exact q1.elim)
end
section
variable {w : WD} {W : WX} {ι : Type} {XS : ι → Cx} {P : Program} {wl : World} {mg : Str → Option Value} {base : Heap} {gb gb' b : Bool} {n k : Nat} {m x : Str} {e a o c : Expr} {es : List Expr} {sa sb sc : SB} {p p2 apos pos cpos : Pos}
theorem de_dget (F : Fam P wl mg base w gb n XS) (ha : DB XS w W o sa) (hb : DB XS w W e sb) (hs : NoSl e) : DE XS w W (.Subscript o e pos) (seOp dDGet sa sb) := by
  obtain ⟨t, h1, h2⟩ := ha
  obtain ⟨u, k1, k2⟩ := hb
  exact ⟨_, fun i => pe_dget (by have := (F.room i).units; omega) (h1 i) (k1 i) hs, re_op od_dget h2 k2⟩
theorem de_din (F : Fam P wl mg base w gb n XS) (ha : DB XS w W e sa) (hb : DB XS w W o sb) (hm : behindInMarks .In o = false := by rfl) : DE XS w W (.Compare e [.In] [o] pos) (seOp (dDIn false) sa sb) := by
  obtain ⟨t, h1, h2⟩ := ha
  obtain ⟨u, k1, k2⟩ := hb
  exact ⟨_, fun i => pe_cmp (pc_din (by have := (F.room i).units; omega) (h1 i) (k1 i)) hm, re_op (od_din (neg := false)) h2 k2⟩
theorem dt_din (F : Fam P wl mg base w gb n XS) (ha : DB XS w W e sa) (hb : DB XS w W o sb) (hm : behindInMarks .In o = false := by rfl) : DT XS w W (.Compare e [.In] [o] pos) (stB (seOp (dDIn false) sa sb)) := by
  obtain ⟨t, h1, h2⟩ := ha
  obtain ⟨u, k1, k2⟩ := hb
  exact ⟨_, fun i => pt_cmp (pc_din (by have := (F.room i).units; omega) (h1 i) (k1 i)) hm, rt_b (re_op (od_din (neg := false)) h2 k2)⟩
theorem de_dget2 (F : Fam P wl mg base w gb n XS) (ha : DB XS w W o sa) (hb : DB XS w W e sb) (hc : DB XS w W c sc) (hm : ∀ i, M2 (XS i) o "get" apos e c cpos := by intro _; exact ⟨rfl, rfl, rfl, rfl⟩) : DE XS w W (.Call (.Attribute o "get" apos) [e, c] [] cpos) (seDGet2 sa sb sc) := by
  obtain ⟨t, h1, h2⟩ := ha
  obtain ⟨u, k1, k2⟩ := hb
  obtain ⟨z, l1, l2⟩ := hc
  exact ⟨_, fun i => pe_dget2 (by have := (F.room i).units; omega) (h1 i) (k1 i) (l1 i) (hm i), re_dget2 h2 k2 l2⟩
end
end M7
/-! Dict displays, dict comprehensions. -/
namespace M7
open PySem PySem.Spec PyProof.Rows L2
section
variable {w : WD} {W : WX} {π : Nat → V} {B B' B1 Z : Hp} {g : G} {σ : L2.St} {H H' : Hp} {v : V}
theorem Tail.cA {α : Type} {P : Hp → O α → Prop} {Z' : Hp} (T : Tail w W π Z P) {x : O (List Ref)} {k : List Ref → G → O α} {Q1 : List V → Hp → Prop} (h : P B (x.bind k))
    (K : ∀ r g1 v B1 H1, Ext B B1 → Sat w π B1 Z' g1 σ H1 → RefsOk w B1 σ v r → P B1 (k r g1) → Q1 v H1) : PostA w WT π B Z' σ Q1 x := by
  cases x with
  | ok a g1 => exact fun v B1 H1 e s r => K a g1 v B1 H1 e s r (T.mono e h)
  | ex x f g => exact fun _ _ _ _ _ _ _ _ => trivial
  | fail => exact T.no h
theorem putK_new {kvs : List (Key × V)} {k : Key} {v : V} (h : ∀ p ∈ kvs, p.1 ≠ k) : putK kvs k v = kvs ++ [(k, v)] := by
  unfold putK
  have : (kvs.any fun kv => decide (kv.1 = k)) = false := by
    rw [List.any_eq_false]
    intro p hp
    simp [h p hp]
  rw [this]
  rfl
theorem merge_app : ∀ (more kvs : List (Key × V)), (more.map (·.1)).Nodup → (∀ p ∈ more, ∀ q ∈ kvs, q.1 ≠ p.1) → mergeK kvs more = kvs ++ more
  | [], kvs, _, _ => by simp [mergeK]
  | p :: r, kvs, n, h => by
    rw [List.map_cons, List.nodup_cons] at n
    show mergeK (putK kvs p.1 p.2) r = _
    rw [putK_new (h p List.mem_cons_self), merge_app r _ n.2 fun q hq z hz => ?_]
    · simp
    · rw [List.mem_append, List.mem_singleton] at hz
      rcases hz with hz | rfl
      · exact h q (List.mem_cons_of_mem _ hq) z hz
      · intro e
        exact n.1 (List.mem_map.mpr ⟨q, hq, e.symm⟩)
theorem merge_zip {ks : List Key} {vs : List V} (n : ks.Nodup) (l : ks.length = vs.length) : mergeK [] (ks.zip vs) = ks.zip vs := by
  have hn : ((ks.zip vs).map (·.1)).Nodup := by
    have e : (ks.zip vs).map (·.1) = ks := List.map_fst_zip (Nat.le_of_eq l)
    rw [e]
    exact n
  rw [merge_app _ _ hn fun _ _ q hq => by cases hq]
  rfl
theorem kv_zip : ∀ {ks : List Key} {vs : List V}, (ks.map kV).zip vs = (ks.zip vs).map fun kv => (kV kv.1, kv.2)
  | [], _ => rfl
  | _ :: _, [] => rfl
  | k :: ks, v :: vs => congrArg (List.cons (kV k, v)) kv_zip
/-- the pairs of a display -/
def RP (w : WD) (W : WX) (trs : List (TE × TE)) (ks : List Key) (sa : SA) : Prop := ∀ π B Z g σ H (Q : List (V × V) → Hp → Prop), Sat w π B Z g σ H → PostA w W π B Z σ (fun vs H' => Q ((ks.map kV).zip vs) H') (sa g) → tPairs trs σ H Q
theorem rp_nil : RP w W [] [] saNil := fun π B Z g σ H Q s q => q [] B H (Ext.refl B) s .nil
theorem rp_cons {k : Key} {ks : List Key} {tv : TE} {trs : List (TE × TE)} {sb : SB} {sa : SA} (h : RB w W tv sb) (t : RP w W trs ks sa) : RP w W ((tC (kV k), tv) :: trs) (k :: ks) (saCons sb sa) := fun π B Z g σ H Q s q =>
  h π B Z g σ H _ s (tailA.bB q fun r g1 v B1 H1 e s1 r1 q1 => t π B1 Z g1 σ H1 _ s1 (tailA.bA q1 fun rs g2 vs B2 H2 e2 s2 r2 q2 => q2 _ B2 H2 (Ext.refl _) s2 (.cons (r1.mono e2) r2)))
def seDisp (ks : List Key) (sa : SA) : SE := fun g => (sa g).bind fun rs g1 => match datas rs with
  | some ds => if ks.length = ds.length ∧ ks.length ≤ 15 ∧ ks.Nodup then .ok (true, .dct (ks.zip ds)) g1 else .fail
  | none => .fail
theorem re_disp {ks : List Key} {trs : List (TE × TE)} {sa : SA} (h : RP w WT trs ks sa) : RE w W (tDisp trs) (seDisp ks sa) := fun π B Z g σ H Q s q p hp => by
  have hZ : Z p = none := s.keep.none hp
  refine h π B (upd Z p (.dK [])) g σ _ _ (s.aside hp) (tailE.cA q fun rs g1 vs B1 H1 e1 s1 r1 q1 => ?_)
  split at q1
  · rename_i ds hd
    split at q1
    · rename_i hc
      obtain ⟨h1, h2, h3⟩ := hc
      have dn := r1.datas hd
      have hl : ks.length = vs.length := by rw [h1, dn.len]
      refine ⟨s1.keep p _ upd_same, ks.zip vs, kv_zip, by rw [List.length_zip]; omega, ?_⟩
      · rw [merge_zip h3 hl]
        obtain ⟨s8, hn8⟩ := (s1.acc (u := .dK (ks.zip vs))).unside hZ
        exact q1 _ B1 _ (Ext.refl _) s8 ⟨p, rfl, s1.dis p _ upd_same, hZ, .dct upd_same hl dn, hn8⟩
    · exact q1.elim
  · exact q1.elim
/-! comprehensions -/
def repK {α : Type} (ks : List Key) (k : Key) (vs : List α) (v : α) : List α := List.zipWith (fun q x => if q = k then v else x) ks vs
theorem map_rep {α : Type} {k : Key} {z : α} : ∀ {ks : List Key} {vs : List α}, (ks.zip vs).map (fun kv => if kv.1 = k then (kv.1, z) else kv) = ks.zip (repK ks k vs z)
  | [], _ => rfl
  | _ :: _, [] => rfl
  | q :: ks, v :: vs => by
    show (if q = k then (q, z) else (q, v)) :: (ks.zip vs).map (fun kv => if kv.1 = k then (kv.1, z) else kv) = (q, if q = k then z else v) :: ks.zip (repK ks k vs z)
    rw [map_rep]
    split <;> rfl
theorem any_zip {α : Type} {k : Key} : ∀ {ks : List Key} {vs : List α}, ks.length = vs.length → ((ks.zip vs).any fun kv => decide (kv.1 = k)) = ks.any fun q => decide (q = k)
  | [], _, _ => rfl
  | _ :: _, [], l => by cases l
  | q :: ks, v :: vs, l => by
    show (decide (q = k) || (ks.zip vs).any fun kv => decide (kv.1 = k)) = (decide (q = k) || ks.any fun q => decide (q = k))
    rw [any_zip (by simpa using l)]
theorem dens_rep {k : Key} {z : V} {d : D} (hz : Den w B z d) : ∀ {ks : List Key} {vs : List V} {ds : List D}, Dens w B vs ds → Dens w B (repK ks k vs z) (repK ks k ds d)
  | [], _, _, _ => by
    unfold repK
    rw [List.zipWith_nil_left, List.zipWith_nil_left]
    exact .nil
  | _ :: _, _, _, .nil => by
    unfold repK
    rw [List.zipWith_nil_right, List.zipWith_nil_right]
    exact .nil
  | q :: ks, v :: vs, e :: ds, .cons r t => by
    show Dens w B ((if q = k then z else v) :: _) ((if q = k then d else e) :: _)
    split
    · exact .cons hz (dens_rep hz t)
    · exact .cons r (dens_rep hz t)
theorem zip_app {α : Type} {k : Key} {z : α} : ∀ {ks : List Key} {vs : List α}, ks.length = vs.length → ks.zip vs ++ [(k, z)] = (ks ++ [k]).zip (vs ++ [z])
  | [], [], _ => rfl
  | [], _ :: _, l => by cases l
  | _ :: _, [], l => by cases l
  | q :: ks, v :: vs, l => congrArg (List.cons (q, v)) (zip_app (by simpa using l))
theorem zip_putK {k : Key} {z : V} {d : D} (hz : Den w B z d) {ks : List Key} {vs : List V} {ds : List D} (l : ks.length = vs.length) (h : Dens w B vs ds) :
    ∃ (ks' : List Key) (vs' : List V) (ds' : List D), putK (ks.zip vs) k z = ks'.zip vs' ∧ putKD (ks.zip ds) k d = ks'.zip ds' ∧ ks'.length = vs'.length ∧ Dens w B vs' ds' ∧ ks'.length ≤ ks.length + 1 := by
  unfold putK putKD
  rw [any_zip l, any_zip (l.trans h.len)]
  cases hk : ks.any fun q => decide (q = k) with
  | true =>
    rw [if_pos rfl, if_pos rfl, map_rep, map_rep]
    exact ⟨ks, _, _, rfl, rfl, by unfold repK; rw [List.length_zipWith]; omega, dens_rep hz h, Nat.le_succ _⟩
  | false =>
    rw [if_neg (by decide), if_neg (by decide), zip_app l, zip_app (l.trans h.len)]
    exact ⟨ks ++ [k], vs ++ [z], ds ++ [d], rfl, rfl, by rw [List.length_append, List.length_append, l] <;> rfl, h.app (.cons hz .nil), by rw [List.length_append]; exact Nat.le_refl _⟩
def compD (sg : SG) (st : ST) (sk sv : SE) (vs : List Nat) : List D → G → List (Key × D) → O (List (Key × D))
  | [], g, acc => .ok acc g
  | d :: ds, g, acc => match sg (false, d) (wipeG g vs) with
    | none => .fail
    | some g1 => (st g1).bind fun b g2 => if b = true then (sk g2).bind fun r g3 => (sv g3).bind fun u g4 => match keyD r.2 with
        | some k => compD sg st sk sv vs ds g4 (putKD acc k u.2)
        | none => .fail else compD sg st sk sv vs ds g2 acc
def seDc (si : SI) (sg : SG) (st : ST) (sk sv : SE) (vs : List Nat) : SE := fun g => (si g).bind fun ds g1 => if calmG g1 vs = true ∧ ds.length < 1000000 then (compD sg st sk sv vs ds g1 []).bind fun acc g2 => .ok (true, .dct acc) (backG g1 (wipeG g2 vs) vs) else .fail
theorem den_key {d : D} {k : Key} (h : Den w B v d) (e : keyD d = some k) : v = kV k := by
  cases h <;> first | (cases e; rfl) | cases e
theorem re_dc {wi : TI} {tg : TG} {tt : TT} {tk tv : TE} {vs : List Nat} {si : SI} {sg : SG} {st : ST} {sk sv : SE} (hi : RI w W wi si) (hg : RG w tg sg) (hw : Wipes tg vs) (ht : RT w WT tt st) (hk : RE w WT tk sk) (he : RE w WT tv sv) :
    RE w W (tDc wi tg tt tk tv vs) (seDc si sg st sk sv vs) := fun π B Z g σ H Q s q =>
  hi π B Z g σ H _ s (tailE.cI q fun ds g1 J B1 H1 e1 s1 wk q1 => by
    intro D hD
    split at q1
    · rename_i hc
      obtain ⟨hc, hn⟩ := hc
      have hZ : Z D = none := s1.keep.none hD
      refine ⟨fun i m H => m = ds.length - i ∧ i ≤ ds.length ∧ ∃ (B' : Hp) (g' : G) (ks : List Key) (xs : List V) (acc : List M7.D), Ext B1 B' ∧ Sat w π B' (upd Z D (.dK (ks.zip xs))) (wipeG g' vs) (wipe σ vs) H ∧ ks.length = xs.length ∧ Dens w B' xs acc ∧ ks.length ≤ i ∧
        PostE w W π B' Z σ Q ((compD sg st sk sv vs (ds.drop i) g' (ks.zip acc)).bind fun acc g2 => .ok (true, .dct acc) (backG g1 (wipeG g2 vs) vs)), ⟨ds.length, by simp, Nat.zero_le _, B1, g1, [], [], [], Ext.refl _, (s1.aside hD).wiped vs, rfl, .nil, Nat.le_refl _, q1⟩, ?_⟩
      rintro i m H2 ⟨rfl, hi, B2, g2, ks, xs, acc, e2, s2, hkl, hx, hl, q2⟩
      by_cases hlt : i < ds.length
      · have hd : ds[i]? = some ds[i] := List.getElem?_eq_getElem hlt
        have hdr : ds.drop i = ds[i] :: ds.drop (i + 1) := List.drop_eq_getElem_cons hlt
        refine .inr ⟨wk.go B2 H2 i _ e2 s2.sub hd, fun H => ∃ (B' : Hp) (g' : G) (ks : List Key) (xs : List V) (acc : List M7.D), Ext B1 B' ∧ Sat w π B' (upd Z D (.dK (ks.zip xs))) (wipeG g' vs) (wipe σ vs) H ∧ ks.length = xs.length ∧ Dens w B' xs acc ∧ ks.length ≤ i + 1 ∧
          PostE w W π B' Z σ Q ((compD sg st sk sv vs (ds.drop (i + 1)) g' (ks.zip acc)).bind fun acc g2 => .ok (true, .dct acc) (backG g1 (wipeG g2 vs) vs)), fun H' p => ⟨ds.length - (i + 1), by omega, rfl, hlt, p⟩, fun x H3 y => ?_⟩
        obtain ⟨k3, B3, e3, h3, n3, d3⟩ := wk.yld B2 H2 i _ x H3 e2 s2.sub hd y
        have s3 := s2.yielded e3 k3 h3 n3
        have q3 := q2.mono e3
        rw [hdr] at q3
        unfold compD at q3
        refine hw _ _ σ _ _ (wipe_wipe σ vs) (hg π B3 _ (wipeG g2 vs) (wipe σ vs) H3 x false _ _ s3 d3 ?_)
        split at q3
        · exact q3.elim
        · rename_i g4 e4
          rw [e4]
          intro B4 H4 σ4 e5 s4 hσ
          have q4 := q3.mono e5
          have bindA : ∀ {α β γ : Type} (x : O α) (k : α → G → O β) (l : β → G → O γ), (x.bind k).bind l = x.bind fun a g => (k a g).bind l := fun x k l => by cases x <;> rfl
          rw [bindA] at q4
          refine ht π B4 _ g4 σ4 H4 _ s4 (tailE.cL q4 fun b g5 B5 H5 e6 s5 q5 => ?_)
          have tot5 : Ext B2 B5 := e3.trans (e5.trans e6)
          cases b with
          | false =>
            refine ⟨B5, g5, ks, xs, acc, e2.trans tot5, ?_, hkl, hx.mono tot5, Nat.le_succ_of_le hl, q5⟩
            have := s5.wiped vs
            rw [hσ] at this
            exact this
          | true =>
            have q5 : PostE w W π B5 Z σ Q (((sk g5).bind fun r g3 => (sv g3).bind fun u g4 => match keyD r.2 with
              | some k => compD sg st sk sv vs (ds.drop (i + 1)) g4 (putKD (ks.zip acc) k u.2)
              | none => .fail).bind fun acc g2 => .ok (true, .dct acc) (backG g1 (wipeG g2 vs) vs)) := q5
            rw [bindA] at q5
            refine hk π B5 _ g5 σ4 H5 _ s5 (tailE.cE q5 fun o d g6 v B6 H6 e7 s6 r6 q6 => ?_)
            obtain ⟨B7, e8, s7, hv⟩ := r6.freeze s6
            have q7 := q6.mono e8
            rw [bindA] at q7
            refine he π B7 _ g6 σ4 H6 _ s7 (tailE.cE q7 fun o2 d2 g8 u B8 H8 e9 s8 r8 q8 => ?_)
            obtain ⟨B9, ea, s9, hu⟩ := r8.freeze s8
            have q9 := q8.mono ea
            cases hkd : keyD d with
            | none =>
              simp only [hkd] at q9
              exact q9.elim
            | some k =>
              simp only [hkd] at q9
              have tot9 : Ext B2 B9 := tot5.trans (e7.trans (e8.trans (e9.trans ea)))
              obtain ⟨ks', xs', acc', p1, p2, p3, p4, p5⟩ := zip_putK (k := k) hu hkl (hx.mono tot9)
              rw [p2] at q9
              refine ⟨ks.zip xs, k, den_key hv hkd, s8.keep D _ upd_same, Nat.lt_trans (by rw [List.length_zip]; omega) million, B9, g8, ks', xs', acc', e2.trans tot9, ?_, p3, p4, by omega, q9⟩
              have := (s9.acc (u := .dK (ks'.zip xs'))).wiped vs
              rw [hσ] at this
              rw [p1]
              exact this
      · have : i = ds.length := by omega
        subst this
        refine .inl ⟨wk.stop B2 H2 e2 s2.sub, ?_⟩
        rw [List.drop_length] at q2
        have sb := (s1.aside (o := .dK []) hD).back hc e2 (wipe_wipe σ vs) s2
        obtain ⟨s8, hn8⟩ := sb.unside hZ
        exact q2 _ B2 H2 (Ext.refl _) s8 ⟨D, rfl, s2.dis D _ upd_same, hZ, .dct (s2.keep D _ upd_same) hkl hx, hn8⟩
    · exact q1.elim)
end
section
variable {w : WD} {W : WX} {ι : Type} {XS : ι → Cx} {e : Expr} {sb : SB} {sa : SA} {pos p : Pos}
def DP (XS : ι → Cx) (w : WD) (pos : Pos) (keys : List (Option Expr)) (values : List Expr) (ks : List Key) (sa : SA) : Prop := ∃ trs, (∀ i, PPs (XS i) pos keys values trs) ∧ RP w WT trs ks sa
theorem dp_nil : DP XS w pos [] [] [] saNil := ⟨_, fun _ => pps_nil, rp_nil⟩
theorem dp_str {x : Str} {j} {keys : List (Option Expr)} {values : List Expr} {ks : List Key} (h : DB XS w WT e sb) (t : DP XS w pos keys values ks sa) : DP XS w pos (some (.Constant (.str x) j p) :: keys) (e :: values) (.inr x :: ks) (saCons sb sa) := by
  obtain ⟨u, h1, h2⟩ := h
  obtain ⟨trs, k1, k2⟩ := t
  exact ⟨_, fun i => pps_cons pe_str (h1 i) (k1 i), rp_cons (k := .inr x) h2 k2⟩
theorem de_disp {keys : List (Option Expr)} {values : List Expr} {ks : List Key} (h : DP XS w pos keys values ks sa) (hall : keys.all (·.isSome) = true := by rfl) (hl : keys.length = values.length := by rfl) (h0 : keys ≠ [] := by intro z; cases z) (h15 : keys.length ≤ 15 := by decide) : DE XS w W (.Dict keys values pos) (seDisp ks sa) := by
  obtain ⟨trs, h1, h2⟩ := h
  exact ⟨_, fun i => pe_disp (h1 i) hall hl h0 h15, re_disp h2⟩
def seDNew : SE := fun g => .ok (true, .dct []) g
theorem re_dnew : RE w W tDNewK seDNew := fun π B Z g σ H Q s q p hp => q _ B _ (Ext.refl _) (s.grow (Ext.new hp)) (s.new_res hp (.dct (ks := []) (vs := []) (ds := []) upd_same rfl .nil))
theorem de_dnew : DE XS w W (.Dict [] [] pos) seDNew := ⟨_, fun _ => pe_dnewK, re_dnew⟩
theorem de_dc {kx vx tg iter : Expr} {ifs : List Expr} {scope : Scope} (own : List (Str × Nat)) {si : SI} {sg : SG} {st : ST} {sk sv : SE} (hnd : ∀ i, (XS i).N.Nodup) (ok : ∀ i, BlkOk (XS i).N (XS i).env.scope scope own) (hi : DI XS w W tg iter si) (hg : DG (blkS XS scope) w (own.map (·.2)) tg sg) (ht : DTs (blkS XS scope) w WT ifs st)
    (hk : DE (blkS XS scope) w WT kx sk) (he : DE (blkS XS scope) w WT vx sv) (hc : ∀ i, (XS i).calm = true := by intro _; rfl) (hs : ∀ i x, foldedSetIterable iter (XS i).env x = pure x := by intro _ _; rfl) : DE XS w W (.DictComp kx vx [⟨tg, iter, ifs, 0⟩] scope pos) (seDc si sg st sk sv (own.map (·.2))) := by
  obtain ⟨t, h1, h2⟩ := hi
  obtain ⟨u, k1, k2, k3⟩ := hg
  obtain ⟨v, l1, l2⟩ := ht
  obtain ⟨tk, n1, n2⟩ := hk
  obtain ⟨te, m1, m2⟩ := he
  exact ⟨_, fun i => pe_dc (hc i) (hnd i) (h1 i) (ok i) (fun s H C cl fp => k1 (i, s, H, C, cl, fp)) (fun s H C cl fp => l1 (i, s, H, C, cl, fp)) (fun s H C cl fp => n1 (i, s, H, C, cl, fp)) (fun s H C cl fp => m1 (i, s, H, C, cl, fp)) (hs i), re_dc h2 k2 k3 l2 n2 m2⟩
end
end M7
set_option maxHeartbeats 2000000
/-! sorted and len(set(..)) of a tuple of ints (the first from wip/k02). -/
namespace R7
open PySem PySem.Spec PyProof.Rows L2
def insI (i : Int) : List Int → List Int
  | [] => [i]
  | j :: r => if i ≤ j then i :: j :: r else j :: insI i r
def sortI : List Int → List Int
  | [] => []
  | i :: r => insI i (sortI r)
theorem insI_perm (i : Int) : ∀ l : List Int, (insI i l).Perm (i :: l)
  | [] => .refl _
  | j :: r => by
    unfold insI
    split
    · exact .refl _
    · exact ((insI_perm i r).cons j).trans (.swap i j r)
theorem sortI_perm : ∀ l : List Int, (sortI l).Perm l
  | [] => .refl _
  | i :: r => (insI_perm i _).trans ((sortI_perm r).cons i)
theorem insI_sorted (i : Int) : ∀ l : List Int, l.Pairwise (· ≤ ·) → (insI i l).Pairwise (· ≤ ·)
  | [], _ => by simp [insI]
  | j :: r, h => by
    rw [List.pairwise_cons] at h
    unfold insI
    split
    · rename_i q
      rw [List.pairwise_cons]
      refine ⟨fun x hx => ?_, List.pairwise_cons.mpr h⟩
      rcases List.mem_cons.mp hx with rfl | hx
      · exact q
      · exact Int.le_trans q (h.1 x hx)
    · rename_i q
      rw [List.pairwise_cons]
      refine ⟨fun x hx => ?_, insI_sorted i r h.2⟩
      rcases List.mem_cons.mp ((insI_perm i r).mem_iff.mp hx) with rfl | hx
      · omega
      · exact h.1 x hx
theorem sortI_sorted : ∀ l : List Int, (sortI l).Pairwise (· ≤ ·)
  | [] => .nil
  | i :: r => insI_sorted i _ (sortI_sorted r)
theorem sorted_uniq : ∀ {a b : List Int}, a.Perm b → a.Pairwise (· ≤ ·) → b.Pairwise (· ≤ ·) → a = b
  | [], b, p, _, _ => p.nil_eq
  | x :: a, [], p, _, _ => absurd p.symm.nil_eq (by simp)
  | x :: a, y :: b, p, ha, hb => by
    rw [List.pairwise_cons] at ha hb
    have e : x = y := by
      have h1 : x ∈ y :: b := p.mem_iff.mp List.mem_cons_self
      have h2 : y ∈ x :: a := p.mem_iff.mpr List.mem_cons_self
      rcases List.mem_cons.mp h1 with h1 | h1
      · exact h1
      · rcases List.mem_cons.mp h2 with h2 | h2
        · exact h2.symm
        · exact Int.le_antisymm (ha.1 y h2) (hb.1 x h1)
    subst e
    rw [sorted_uniq (List.Perm.cons_inv p) ha.2 hb.2]
theorem sortI_eq {a ns : List Int} (p : a.Perm ns) (h : a.Pairwise (· ≤ ·)) : a = sortI ns := sorted_uniq (p.trans (sortI_perm ns).symm) h (sortI_sorted ns)
/-- without what stands later again -/
def ddp : List Int → List Int
  | [] => []
  | i :: r => if i ∈ r then ddp r else i :: ddp r
theorem ddp_mem {j : Int} : ∀ l : List Int, j ∈ ddp l ↔ j ∈ l
  | [] => Iff.rfl
  | i :: r => by
    unfold ddp
    split
    · rename_i h
      rw [ddp_mem r, List.mem_cons]
      exact ⟨.inr, fun z => z.elim (fun z => z ▸ h) id⟩
    · rw [List.mem_cons, List.mem_cons, ddp_mem r]
theorem ddp_nodup : ∀ l : List Int, (ddp l).Nodup
  | [] => .nil
  | i :: r => by
    unfold ddp
    split
    · exact ddp_nodup r
    · rename_i h
      exact List.nodup_cons.mpr ⟨fun z => h ((ddp_mem r).mp z), ddp_nodup r⟩
theorem sub_len : ∀ {L ns : List Int}, L.Nodup → (∀ j ∈ L, j ∈ ns) → L.length ≤ ns.length
  | [], ns, _, _ => Nat.zero_le _
  | a :: L, ns, hn, hs => by
    have ha : a ∈ ns := hs a List.mem_cons_self
    obtain ⟨hna, hn'⟩ := List.nodup_cons.mp hn
    have l1 := sub_len (L := L) (ns := ns.erase a) hn' fun j hj => (List.mem_erase_of_ne (fun e => by subst e; exact hna hj)).mpr (hs j (List.mem_cons_of_mem _ hj))
    have hl : ns.length = (ns.erase a).length + 1 := by
      rw [List.length_erase_of_mem ha]
      have : 0 < ns.length := List.length_pos_of_mem ha
      omega
    rw [List.length_cons]
    omega
theorem ddp_len {L ns : List Int} (hn : L.Nodup) (hm : ∀ j, j ∈ L ↔ j ∈ ns) : L.length = (ddp ns).length :=
  Nat.le_antisymm (sub_len hn fun j hj => (ddp_mem ns).mpr ((hm j).mp hj)) (sub_len (ddp_nodup ns) fun j hj => (hm j).mpr ((ddp_mem ns).mp hj))
/-! ### sorted(t), t a tuple of ints -/
section
variable {prog : Program} {w : World} {A : Around} {E : Value → Shared → Prop} {s : Shared}
open SrtO Srt in
theorem sorted_tup {l : Addr} {vs : List Value} {ltv : Value → Value → Bool} {Q : Value → Shared → Prop} (O : Swo ltv) (hl : s.heap.IsTuple l vs.toArray) (hz : vs.length ≤ sizeLine)
    (hS : 2 ≤ vs.length → ∀ (h₁ : Heap) (a : Addr), SortableO prog w A.in1.in1 { s with heap := h₁ } a vs ltv)
    (h : ∀ (out : List Value) (h1 : Heap), (∀ b o, s.heap.get? b = some o → h1.get? b = some o) → Srtd ltv out → Stb ltv out vs → Q (.ref h1.objs.size) { s with heap := sortedHeap (h1.push (seqObj "list" vs.toArray 0)) h1.objs.size vs out.toArray }) :
    wpAny (model prog w) A (call (.builtin "sorted") [.ref l]) Q E s := by
  obtain ⟨o, ho, hc, n, hd⟩ := hl
  refine Calls.call_function_entry kind_sorted plain_sorted entry_sorted (args_sorted1 _) ?_
  unfold Builtin.«sorted»
  refine wpAny_bind (m := checkCount "sorted" 1 1 _) (wpAny_pure ?_)
  refine wpAny_bind (wpAny_collect_seq l (.inr rfl) ho hc hd (fun h1 hk => ?_) (by rw [List.size_toArray]; exact hz))
  rw [List.toList_toArray]
  refine wpAny_bind (wpAny_newList ?_ hz)
  have hoL : (h1.push (seqObj "list" vs.toArray 0)).get? h1.objs.size = some (seqObj "list" vs.toArray 0) := Heap.get?_push_size _ rfl
  show wpAny _ _ _ _ _ { s with heap := h1.push (seqObj "list" vs.toArray 0) }
  refine wpAny_bind (wpAny_holding (wpAny_call_entry slot_list_sort ⟨_, hoL, rfl⟩ entry_list_sort (list_sort_ord O hoL hz (fun h2 => hS h2 _ _) fun out hs hb => ⟨_, rfl, ?_⟩) (args_list_sort _)))
  exact wpAny_pure ⟨_, rfl, h out h1 hk hs hb⟩
end
def rSortedIT (K : PySem.W.Frag) : List V → Hp → VK → Prop := fun vs H Q => ∃ (a : Addr) (ns : List Int), vs = [V.ref a] ∧ SqT K H a (ns.map V.int) ∧
  ∀ (ns' : List Int) (p : Addr), ns'.Perm ns → ns'.Pairwise (· ≤ ·) → H p = none → Q (.ref p) (upd H p (.lst (ns'.map V.int)))
section
variable {X : Cx}
theorem cr_sortedIT : CallR X (.builtin "sorted") (rSortedIT X.K) := by
  intro pins s σ H vs us Q I r h
  obtain ⟨a, ns, rfl, hs, q⟩ := h
  obtain ⟨its, rv, hl, hz⟩ := I.tuple hs
  rw [Vals.ref1 r]
  have hi := rv.ints
  have hz' : its.length ≤ sizeLine := by rw [← rv.length]; exact hz
  refine sorted_tup SrtO.swo_int hl hz' (fun h2 h₁ a' => SrtO.ints_sortable hi h2) fun out h1 hk ha hb => ?_
  obtain ⟨k1, k2, k3⟩ := SrtO.ints_out hi ha hb
  have I1 : Inv X pins σ H { s with heap := h1 } := I.kept (t' := s.toks) hk
  obtain ⟨ep, he'⟩ := PyProof.Rows.sortedHeap_at (h := h1.push (seqObj "list" its.toArray 0)) (a := h1.objs.size) (vs := its) (n := 0) (out := out.toArray) (Heap.get?_push_size _ rfl)
  have hlen : ((out.map SrtO.iv).map V.int).length ≤ sizeLine := by
    rw [List.length_map, k2.length_eq, ← hi.length]
    exact hz'
  refine ⟨.ref _, upd H h1.objs.size (.lst ((out.map SrtO.iv).map V.int)), I1.laid (t' := s.toks) (fun b u e => ?_) (Nat.le_refl _) ⟨hlen, out, ep, vals_of_ints k1, he'⟩, rfl, q _ _ k2 k3 (I1.hok.fresh (Nat.le_refl _))⟩
  have lt : b < h1.objs.size := Heap.lt_size e
  rw [PyProof.Rows.sortedHeap_old (Nat.ne_of_lt lt) (by rw [Heap.size_push]; exact Nat.lt_succ_of_lt lt)]
  exact Heap.get?_push_of_some _ e
end
/-! ### len(set(t)), t a tuple of ints -/
def tLenSetT (K : PySem.W.Frag) (ta : TE) : TE := fun σ H Q => ta σ H fun x H1 => ∃ (l : Addr) (ns : List Int), x = .ref l ∧ SqT K H1 l (ns.map V.int) ∧ ns.length ≤ 4000 ∧ Q (.int ((ddp ns).length : Nat)) H1
theorem pe_lenSetT {X : Cx} {a : Expr} {ta : TE} {p p2 q pos : Pos} (hg : Gl X "len") (hm : X.mg "len" = none) (hg2 : Gl X "set") (hm2 : X.mg "set" = none) (ha : PE X a ta) (hc : X.calm = true := by rfl)
    (na : starEach [a] X.env = (false, eval a X.env) :: starEach [] X.env := by rfl) : PE X (.Call (.Name "len" p) [.Call (.Name "set" p2) [a] [] q] [] pos) (tLenSetT X.K ta) := by
  refine ⟨fun pins s σ H Q I h => ?_⟩
  refine Call_ (ld_blt I hg hm boot_len ?_)
  refine PyProof.Rows.callWith_builtin1 (PyProof.Rows.args_cons ?_ rfl) rfl rfl
  refine Call_ (ld_blt I hg2 hm2 boot_set ?_)
  refine PyProof.Rows.callWith_type1 (PyProof.Rows.args_cons (thn (ha.run pins s σ H _ I h) fun v s1 ⟨x, H1, I1, r1, q1⟩ => PyProof.Rows.args_nil ?_) na) na rfl
  obtain ⟨l, ns, rfl, hq, hl, q1⟩ := q1
  cases r1
  obtain ⟨its, r, pt, hz⟩ := I1.tuple hq
  refine call_set_tupI ns (I1.ok.hd hc) (show s1.heap.IsTuple l its.toArray from pt) (by simpa using RZ.intsAre_vals r) (by unfold scanBound; omega) fun h' tk c R1 hcn k => ?_
  refine PyProof.Rows.args_nil ?_
  obtain ⟨o, es, ep, t, ho, hex, hd, g, nd, hm3, hb, hf, hn, _⟩ := R1
  have I2 : Inv X pins σ H1 { s1 with heap := h', toks := tk } := I1.kept fun b o e => k b o e
  have e1 : es.size = (es.toList.map keyOf).length := by simp
  have key : es.size = (ddp ns).length := by
    rw [e1]
    exact ddp_len nd fun j => by rw [← hm3 j, decide_eq_true_eq]
  exact call_len_set ho hex hd hf (by rw [hn] <;> omega) ⟨.int es.size, H1, I2.tok _, ⟨_, rfl⟩, key ▸ q1⟩
end R7
/-! sorted, int, len(set(..)), join. -/
namespace M7
open PySem PySem.Spec PyProof.Rows L2 R7
def intsD : List D → Option (List Int)
  | [] => some []
  | .int i :: r => (intsD r).map (i :: ·)
  | _ :: _ => none
section
variable {w : WD} {W : WX} {π : Nat → V} {B B' B1 Z : Hp} {g : G} {σ : L2.St} {H H' : Hp} {v : V}
theorem dens_ints : ∀ {vs : List V} {ds : List D} {ns : List Int}, Dens w B vs ds → intsD ds = some ns → vs = ns.map V.int
  | _, _, _, .nil, e => by cases e; rfl
  | v :: vs, d :: ds, ns, .cons r t, e => by
    cases r with
    | int i =>
      have e : (intsD ds).map (i :: ·) = some ns := e
      cases h : intsD ds with
      | none => rw [h] at e; cases e
      | some ms =>
        rw [h] at e
        cases e
        rw [dens_ints t h, List.map_cons]
    | _ => cases e
theorem ints_dens : ∀ ns : List Int, Dens w B (ns.map V.int) (ns.map M7.D.int)
  | [] => .nil
  | i :: ns => .cons (.int i) (ints_dens ns)
def dSorted : List D → Option (Bool × D)
  | [.lst ds] => (intsD ds).map fun ns => (true, .lst ((sortI ns).map .int))
  | [.tup ds] => (intsD ds).map fun ns => (true, .lst ((sortI ns).map .int))
  | _ => none
theorem cd_sorted : CallD w (fun xs H Q => rSortedI w.K xs H Q ∨ R7.rSortedIT w.K xs H Q) dSorted := fun π B Z g σ H Q vs ds s h q => by
  unfold dSorted at q
  split at q
  · obtain ⟨v, rfl, hv⟩ := lks1 h
    rename_i ds
    obtain ⟨a, xs, rfl, ha, hx⟩ := lk_lst s.sub hv
    cases hi : intsD ds with
    | none => rw [hi] at q; exact q.elim
    | some ns =>
      rw [hi] at q
      rw [dens_ints hx hi] at ha
      refine .inl ⟨a, ns, rfl, .inl (.inl ha), fun ns' p pm ps hp => ?_⟩
      rw [sortI_eq pm ps]
      exact fin_L s q (ints_dens _) hp
  · obtain ⟨v, rfl, hv⟩ := lks1 h
    rename_i ds
    obtain ⟨a, xs, rfl, ha, hx⟩ := lk_tup s.sub hv
    cases hi : intsD ds with
    | none => rw [hi] at q; exact q.elim
    | some ns =>
      rw [hi] at q
      rw [dens_ints hx hi] at ha
      refine .inr ⟨a, ns, rfl, ha, fun ns' p pm ps hp => ?_⟩
      rw [sortI_eq pm ps]
      exact fin_L s q (ints_dens _) hp
  · exact q.elim
def dIntC : List D → Option (Bool × D)
  | [.str a] => if a.length ≤ 640 then (PySem.intText? a).map fun n => (false, .int n) else none
  | [.int i] => some (false, .int i)
  | [.bl k] => some (false, .int (if k then 1 else 0))
  | _ => none
def rIntC : List V → Hp → VK → Prop := fun xs H Q => (∃ a n, xs = [.str a] ∧ PySem.intText? a = some n ∧ a.length ≤ 640 ∧ Q (.int n) H) ∨ ((∃ i, xs = [.int i] ∧ Q (.int i) H) ∨ ∃ k, xs = [.bl k] ∧ Q (.int (if k then 1 else 0)) H)
theorem call_intC {X : Cx} : CallR X (.type "int") rIntC := CallRor call_int_str call_int1
theorem cd_intC : CallD w rIntC dIntC := fun π B Z g σ H Q vs ds s h q => by
  unfold dIntC at q
  split at q
  · obtain ⟨v, rfl, hv⟩ := lks1 h
    rename_i a
    split at q
    · rename_i hl
      cases hn : PySem.intText? a with
      | none => rw [hn] at q; exact q.elim
      | some n =>
        rw [hn] at q
        exact .inl ⟨a, n, by rw [lk_str hv], hn, hl, fin_d s q (.int _)⟩
    · exact q.elim
  · obtain ⟨v, rfl, hv⟩ := lks1 h
    exact .inr (.inl ⟨_, by rw [lk_int hv], fin_d s q (.int _)⟩)
  · obtain ⟨v, rfl, hv⟩ := lks1 h
    exact .inr (.inr ⟨_, by rw [lk_bl hv], fin_d s q (.int _)⟩)
  · exact q.elim
/-- sep.join(..) -/
def strsD : List D → Option (List Str)
  | [] => some []
  | .str i :: r => (strsD r).map (i :: ·)
  | _ :: _ => none
theorem dens_strs : ∀ {vs : List V} {ds : List D} {ns : List Str}, Dens w B vs ds → strsD ds = some ns → vs = ns.map V.str
  | _, _, _, .nil, e => by cases e; rfl
  | v :: vs, d :: ds, ns, .cons r t, e => by
    cases r with
    | str i =>
      have e : (strsD ds).map (i :: ·) = some ns := e
      cases h : strsD ds with
      | none => rw [h] at e; cases e
      | some ms =>
        rw [h] at e
        cases e
        rw [dens_strs t h, List.map_cons]
    | _ => cases e
def dJoin : D → D → Option (Bool × D)
  | .str a, .lst ds => (strsD ds).bind fun ys => if (ys.map (·.length)).sum + ys.length * a.length ≤ 16777216 then some (false, .str (Txt.join a ys)) else none
  | .str a, .tup ds => (strsD ds).bind fun ys => if (ys.map (·.length)).sum + ys.length * a.length ≤ 16777216 then some (false, .str (Txt.join a ys)) else none
  | _, _ => none
def rJoin (K : PySem.W.Frag) : R2 := fun x y H Q => ∃ a p, ∃ ys : List Str, x = .str a ∧ [y] = [V.ref p] ∧ (SqL K H p (ys.map V.str) ∨ SqT K H p (ys.map V.str)) ∧ (ys.map (·.length)).sum + ys.length * a.length ≤ 16777216 ∧ Q (.str (Txt.join a ys)) H
theorem od_join : OpD w (rJoin w.K) dJoin := fun π B Z g σ H Q v u d e s h1 h2 q => by
  unfold dJoin at q
  split at q
  · rename_i a ds
    obtain ⟨p, xs, rfl, ha, hx⟩ := lk_lst s.sub h2
    cases hi : strsD ds with
    | none => rw [hi] at q; exact q.elim
    | some ys =>
      rw [hi, Option.bind_some] at q
      rw [dens_strs hx hi] at ha
      split at q
      · rename_i hz
        exact ⟨a, p, ys, lk_str h1, rfl, .inl (.inl (.inl ha)), hz, fin_d s q (.str _)⟩
      · exact q.elim
  · rename_i a ds
    obtain ⟨p, xs, rfl, ha, hx⟩ := lk_tup s.sub h2
    cases hi : strsD ds with
    | none => rw [hi] at q; exact q.elim
    | some ys =>
      rw [hi, Option.bind_some] at q
      rw [dens_strs hx hi] at ha
      split at q
      · rename_i hz
        exact ⟨a, p, ys, lk_str h1, rfl, .inr ha, hz, fin_d s q (.str _)⟩
      · exact q.elim
  · exact q.elim
/-- s.m(e), s a text -/
def seM1 (f : D → D → Option (Bool × D)) (sa sb : SB) : SE := fun g => (sa g).bind fun r1 g1 => match r1.get g1 with
  | some (.str _) => (sb g1).bind fun r2 g2 => match r1.get g2, r2.get g2 with
    | some d, some e => ofOpt g2 (f d e)
    | _, _ => .fail
  | _ => .fail
theorem re_m1 {r : V → List V → Hp → VK → Prop} {f : D → D → Option (Bool × D)} {ta tb : TE} {sa sb : SB} (hf : OpD w (fun x y H Q => r x [y] H Q) f) (ha : RB w W ta sa) (hb : RB w W tb sb) : RE w W (tM1 r ta tb) (seM1 f sa sb) := fun π B Z g σ H Q s q =>
  ha π B Z g σ H _ s (tailE.bB q fun a g1 v B1 H1 e1 s1 r1 q1 => by
    split at q1
    · rename_i x hx
      refine ⟨⟨x, lk_str (s1.lk r1 hx)⟩, hb π B1 Z g1 σ H1 _ s1 (tailE.bB q1 fun b g2 u B2 H2 e2 s2 r2 q2 => ?_)⟩
      split at q2
      · rename_i d e h1 h2
        refine hf π B2 Z g2 σ H2 Q v u d e s2 (s2.lk (r1.mono e2) h1) (s2.lk r2 h2) ?_
        cases hq : f d e with
        | none => rw [hq] at q2; exact q2.elim
        | some r => rw [hq] at q2; exact q2
      · exact q2.elim
    · exact q1.elim)
/-- len(set(t)) -/
def seLenSet (sb : SB) : SE := fun g => (sb g).bind fun r g1 => match r.get g1 with
  | some (.tup ds) => match intsD ds with
    | some ns => if ns.length ≤ 4000 then .ok (false, .int ((ddp ns).length : Nat)) g1 else .fail
    | none => .fail
  | _ => .fail
theorem re_lenSet {ta : TE} {sb : SB} (h : RB w W ta sb) : RE w W (R7.tLenSetT w.K ta) (seLenSet sb) := fun π B Z g σ H Q s q =>
  h π B Z g σ H _ s (tailE.bB q fun r g1 v B1 H1 e1 s1 r1 q1 => by
    split at q1
    · rename_i ds hr
      split at q1
      · rename_i ns hi
        split at q1
        · rename_i hl
          obtain ⟨a, xs, rfl, ha, hx⟩ := lk_tup s1.sub (s1.lk r1 hr)
          rw [dens_ints hx hi] at ha
          exact ⟨a, ns, rfl, ha, hl, q1 _ B1 H1 (Ext.refl _) s1 (.int _)⟩
        · exact q1.elim
      · exact q1.elim
    · exact q1.elim)
end
section
variable {w : WD} {W : WX} {ι : Type} {XS : ι → Cx} {P : Program} {wl : World} {mg : Str → Option Value} {base : Heap} {e o : Expr} {sa sb : SB} {p p2 q apos pos : Pos}
theorem de_join (ha : DB XS w W o sa) (hb : DB XS w W e sb) (hK : ∀ i, (XS i).K = w.K := by intro _; rfl) (hs : ∀ i, starEach [e] (XS i).env = [(false, eval e (XS i).env)] := by intro _; rfl) (hbase : ∀ i, attributeBase o "join" (XS i).env (eval o (XS i).env) = eval o (XS i).env := by intro _; rfl) (hline : (apos.endLine == pos.line) = true := by rfl) :
    DE XS w W (.Call (.Attribute o "join" apos) [e] [] pos) (seM1 dJoin sa sb) := by
  obtain ⟨t, h1, h2⟩ := ha
  obtain ⟨u, k1, k2⟩ := hb
  refine ⟨_, fun i => ?_, re_m1 (r := fun x xs H Q => ∃ a p, ∃ ys : List Str, x = .str a ∧ xs = [.ref p] ∧ (SqL w.K H p (ys.map V.str) ∨ SqT w.K H p (ys.map V.str)) ∧ (ys.map (·.length)).sum + ys.length * a.length ≤ 16777216 ∧ Q (.str (Txt.join a ys)) H) od_join h2 k2⟩
  have z := pe_join (apos := apos) (pos := pos) (h1 i) (k1 i) (hs i) (hbase i) hline
  rw [hK i] at z
  exact z
theorem de_lenSet (hm : ∀ i, (XS i).mg "len" = none) (hm2 : ∀ i, (XS i).mg "set" = none) (ha : DB XS w W e sb) (hK : ∀ i, (XS i).K = w.K := by intro _; rfl) (hg : ∀ i, Gl (XS i) "len" := by intro _; rfl) (hg2 : ∀ i, Gl (XS i) "set" := by intro _; rfl) (hc : ∀ i, (XS i).calm = true := by intro _; rfl)
    (na : ∀ i, starEach [e] (XS i).env = (false, eval e (XS i).env) :: starEach [] (XS i).env := by intro _; rfl) : DE XS w W (.Call (.Name "len" p) [.Call (.Name "set" p2) [e] [] q] [] pos) (seLenSet sb) := by
  obtain ⟨t, h1, h2⟩ := ha
  refine ⟨_, fun i => ?_, re_lenSet h2⟩
  have z := R7.pe_lenSetT (p := p) (p2 := p2) (q := q) (pos := pos) (hg i) (hm i) (hg2 i) (hm2 i) (h1 i) (hc i) (na i)
  rw [hK i] at z
  exact z
end
end M7
set_option maxHeartbeats 2000000
/-! enumerate(a list, start=k). -/
namespace R7
open PySem PySem.Spec PyProof.Rows L2
theorem callWith_typeKw {M : Model} {A : Around} {E : Value → Shared → Prop} {s : Shared} {pos : Pos} {T : String} {args : List (Bool × Sem Value)} {kws : List (Option Str × Sem Value)} {Q : Value → Shared → Prop}
    (hplain : (args.any (·.1) || kws.any (·.1.isNone)) = false) (h : wpAny M A (evalArgs (.type T) true args kws) (fun a s₁ => wpAny M A (call (.type T) a.pos a.kw) Q E s₁) E s) : wpAny M A (callWith pos (.type T) [] args kws) Q E s := by
  unfold callWith
  refine wpAny_bind (wpAny_holding (wpAny_mono h (fun a s₁ h₁ => wpAny_bind (wpAny_standAt ?_)) fun _ _ x => x))
  simp only [hplain]
  refine wpAny_bind (wpAny_pure ?_)
  exact wpAny_bind (wpAny_mono h₁ (fun r s₂ hr => wpAny_bind (wpAny_holding (wpAny_point (wpAny_pure hr)))) fun _ _ x => x)
def Iek (K : PySem.W.Frag) (k0 : Int) (a : Addr) : It :=
  ⟨fun i H => ∃ (xs : List V) (x : V), SqL K H a xs ∧ xs[i]? = some x, fun i H v H' => ∃ T x, v = .ref T ∧ H T = none ∧ H' = upd H T (.tup [.int (k0 + (i : Int)), x]) ∧ ∀ xs, SqL K H a xs → xs[i]? = some x, fun i H => ∃ xs : List V, SqL K H a xs ∧ xs.length ≤ i⟩
theorem turn_enumK {P : Program} {w : World} {K : PySem.W.Frag} {elts : List Expr} {kk : Nat} {tpos : Pos} (k0 : Int) (a e it : Addr) :
    Turn P w K (.Tuple elts kk tpos) (Iek K k0 a) [e, it] e (fun i h => (∃ old, IsEnum h e it (k0 + (i : Int)) old) ∧ h.IsListIter it a i ∧ e ≠ it) where
  mem := by simp
  obj := fun i h st b hb => by
    obtain ⟨⟨old, he⟩, ⟨o, ho, hc, hd⟩, _⟩ := st
    have e' : b = e ∨ b = it := by simpa using hb
    rcases e' with z | z
    · rw [z]; exact ⟨_, he, fun v q => nomatch q⟩
    · rw [z]; exact ⟨o, ho, fun v q => by rw [hd] at q; cases q⟩
  keep := fun i h h' st k => let ⟨⟨old, he⟩, hi, hne⟩ := st; ⟨⟨old, k e (by simp) _ he⟩, hi.at fun o q => k it (by simp) o q, hne⟩
  item := by
    intro X hP hw hK hc i pins s σ H E I hf st hg
    subst hP hw hK
    obtain ⟨⟨old, he⟩, hit, hne⟩ := st
    obtain ⟨xs, x, hq, hx⟩ := hg
    obtain ⟨its, rv, p, hz⟩ := I.list hq
    obtain ⟨u, hu, ru⟩ := rv.get hx
    have hel : e < s.heap.objs.size := Heap.lt_size he
    have hil : it < s.heap.objs.size := by obtain ⟨_, q, _⟩ := hit; exact Heap.lt_size q
    have pl := p.isList
    obtain ⟨ot, hot, hct, nt, hdt⟩ := pl
    obtain ⟨oi, hoi, hci, hdi⟩ := id hit
    have nai : a ≠ it := apart_of hot hoi (by rw [hct, hci]; intro z; injection z with z; exact absurd z (by decide))
    have nae : a ≠ e := apart_of hot he (by rw [hct]; intro z; injection z with z; exact absurd z (by decide))
    have hi : i < its.toArray.size := by
      rw [List.size_toArray]
      exact (List.getElem?_eq_some_iff.mp hu).1
    refine wpAny_pyNext_enum_itemC (Draws.list (by show X.A.in1.handled = none; exact I.ok.hd hc) it a nai its.toArray) he ⟨hit, ⟨ot, hot, hct, nt, hdt⟩⟩ hi hne (by simp [Ne.symm nae, hne]) fun x' h' tk hx' ho hst' hT hsz hk => ?_
    obtain rfl : u = x' := by
      have : its[i]? = some x' := by simpa using hx'
      rw [hu] at this
      exact Option.some.inj this
    obtain ⟨hit', _⟩ := hst'
    refine ⟨_, rfl, wpAny_letOwnedTupleGo_enum (s := { s with heap := h', toks := tk + 1 }) ho fun h'' he' sb => ?_⟩
    have hT2 : h''.get? s.heap.objs.size = some { cls := .type "tuple", data := .seq #[.int (k0 + (i : Int)) tk, u] } := (sb.2 _ (Nat.ne_of_gt hel)).trans hT
    have new : ObjOk X.prog X.w (upd H s.heap.objs.size (.tup [.int (k0 + (i : Int)), x])) h'' s.heap.objs.size (.tup [.int (k0 + (i : Int)), x]) :=
      ⟨by show 2 ≤ sizeLine; decide, [.int (k0 + (i : Int)) tk, u], .cons ⟨_, rfl⟩ (.cons ru .nil), ⟨_, hT2, rfl, _, rfl⟩⟩
    have I1 : Inv X pins σ (upd H s.heap.objs.size (.tup [.int (k0 + (i : Int)), x])) { s with heap := h'', toks := tk + 1 } :=
      I.turnedNew (ch := [e, it]) (fun b ob hb q => (sb.2 b (fun z => hb (by simp [z]))).trans (hk b ob (fun z => hb (by simp [z])) (fun z => hb (by simp [z])) q)) hf (Nat.le_refl _) new
    refine ⟨.ref s.heap.objs.size, _, I1, rfl, ⟨_, x, rfl, I.hok.fresh (Nat.le_refl _), rfl, fun ys hy => by rw [I.list_inj hy hq]; exact hx⟩, ⟨⟨u, ?_⟩, hit'.at fun o q => (sb.2 it (Ne.symm hne)).trans q, hne⟩, fun b hb => ?_⟩
    · have e1 : k0 + ((i + 1 : Nat) : Int) = k0 + (i : Int) + 1 := by omega
      rw [e1]; exact he'
    · have hb' : b < s.heap.objs.size := by
        have e' : b = e ∨ b = it := by simpa using hb
        rcases e' with z | z
        · rw [z]; exact hel
        · rw [z]; exact hil
      rw [upd_ne (Nat.ne_of_lt hb')]
      exact (hf b hb).1
  done := by
    intro X hP hw hK hc i pins s σ H E I hf st hg
    subst hP hw hK
    obtain ⟨⟨old, he⟩, hit, hne⟩ := st
    obtain ⟨xs, hq, hx⟩ := hg
    obtain ⟨its, rv, p, hz⟩ := I.list hq
    obtain ⟨f0, f1, f2, f3, f4, f5⟩ := hf it (by simp)
    have hl := rv.length
    have hT : s.TypeIs (.ref e) "enumerate" := ⟨_, he, rfl⟩
    unfold pyNext
    refine wpAny_bind (wpAny_attempt (wpAny_callSpecial?_slot (name := Str.ofString "__next__") hT F.slot_enumerate_next
      (wpAny_call_entry F.slot_enumerate_next hT F.entry_enumerate_next ?_ (F.args_enumerate_next_1 _))))
    show wpAny _ _ (field (.ref e) 2 >>= _) _ _ _
    refine wpAny_bind (wpAny_field he rfl (x := .ref it) rfl ?_)
    refine wpAny_bind (wpAny_nextOf_list_end (i := i) (I.ok.hd hc) hit p.isList (by simp; omega) fun h' x he' hx' => ?_)
    obtain ⟨o, ho, hc'⟩ := hx'
    refine wpAny_bind (wpAny_isInstance (T := "StopIteration") (b := true) ⟨o, ho, hc'⟩ isSubtype_stop ?_)
    exact wpAny_pure ⟨rfl, I.turned (t' := s.toks) (fun b o hb q => he' b o hb q) f0 f1 f3 f4 f5⟩
  self := fun A i s Q E st h => let ⟨⟨_, he⟩, _⟩ := st; wpAny_pyIter_enum he h
def iEnumK (K : PySem.W.Frag) (k0 : Int) (ta : TA) : TI := fun σ H R => ta σ H fun vs H1 => ∃ a xs, vs = [.ref a] ∧ SqL K H1 a xs ∧ R (Iek K k0 a) H1
theorem pi_enumK {X : Cx} {e : Expr} {ta : TA} {p pos tpos cp kp : Pos} {j : Nat} {k0 : Int} {elts : List Expr} {kk : Nat} (h0 : -(2 ^ 63) ≤ k0) (h1 : k0 < 2 ^ 63) (hg : Gl X "enumerate") (hm : X.mg "enumerate" = none) (ha : PA X [e] ta) (hs : starEach [e] X.env = (false, eval e X.env) :: starEach [] X.env) (hall : (backToKw pos (keywordEach [⟨some "start", .Constant (.int k0) j cp, kp⟩] X.env)).all (·.1.isSome) = true)
    (hpl : ((backTo pos (starEach [e] X.env)).any (·.1) || (backToKw pos (keywordEach [⟨some "start", .Constant (.int k0) j cp, kp⟩] X.env)).any (·.1.isNone)) = false) :
    PI X (.Tuple elts kk tpos) (.Call (.Name "enumerate" p) [e] [⟨some "start", .Constant (.int k0) j cp, kp⟩] pos) (iEnumK X.K k0 ta) := by
  refine ⟨fun pins s σ H R I h => ?_⟩
  refine wpAny_Call_Name_kw (ld_blt I hg hm boot_enumerate (callWith_typeKw hpl ?_))
  refine evalArgs_kw2 hall (thn (ha.run pos pins s σ H _ I h) fun us s1 ⟨vs, H1, I1, r1, q1⟩ => ?_) hs
  refine thn ((pk_cons (X := X) (nm := some "start") (kpos := kp) (pe_int (X := X) (i := k0) (j := j) (pos := cp)) pk_nil).run pos pins s1 σ H1 (fun zs H2 => zs = [.int k0] ∧ H2 = H1) I1 ⟨rfl, rfl⟩) fun ws s2 ⟨zs, H2, I2, rz, ez, eH⟩ => ?_
  subst ez eH
  obtain ⟨t, rfl⟩ : ∃ t, ws = [Value.int k0 t] := by
    cases rz with
    | cons r rr =>
      cases rr
      obtain ⟨t, rfl⟩ := r
      exact ⟨t, rfl⟩
  obtain ⟨a, xs, ex, hq, q⟩ := q1
  subst ex
  cases r1 with
  | cons r rr =>
    cases rr
    cases r
    obtain ⟨its, rv, p', hz⟩ := I2.list hq
    refine enum_begins_start (begins_list a its.toArray) p'.isList h0 h1 fun h' he hit hsz hk => wpAny_pyIter_enum he ?_
    have I3 : Inv X pins σ H2 { s2 with heap := h' } := I2.kept (t' := s2.toks) hk
    refine ⟨s2.heap.objs.size + 1, [s2.heap.objs.size + 1, s2.heap.objs.size], _, _, H2, rfl, I3, turn_enumK k0 a (s2.heap.objs.size + 1) s2.heap.objs.size, ⟨⟨.none, by rw [show k0 + ((0 : Nat) : Int) = k0 from Int.add_zero k0]; exact he⟩, ⟨_, hit, rfl, rfl⟩, Nat.succ_ne_self _⟩, fun b hb => ?_, q⟩
    have e' : b = s2.heap.objs.size + 1 ∨ b = s2.heap.objs.size := by simpa using hb
    have hle : s2.heap.objs.size ≤ b := by
      rcases e' with z | z
      · rw [z]; exact Nat.le_add_right _ _
      · rw [z]; exact Nat.le_refl _
    exact I2.fpOk hle (I2.hok.fresh hle)
theorem walk_enumK {K : PySem.W.Frag} {k0 : Int} {a : Addr} {xs : List V} : Walk (Iek K k0 a) xs.length (fun H => SqL K H a xs) (YPair (fun i => some (.int (k0 + (i : Int)))) (fun i => xs[i]?)) := by
  refine ⟨fun i _ hi q => ⟨xs, xs[i], q, by simp [hi]⟩, fun _ q => ⟨xs, q, Nat.le_refl _⟩, fun i H v H' _ q y => ?_⟩
  obtain ⟨T, x, h1, h2, h3, h4⟩ := y
  exact ⟨T, .int (k0 + (i : Int)), x, h1, h2, h3, rfl, h4 xs q⟩
end R7
namespace M7
open PySem PySem.Spec PyProof.Rows L2
section
variable {w : WD} {W : WX} {π : Nat → V} {B B' B1 Z : Hp} {g : G} {σ : L2.St} {H H' : Hp} {v : V}
def enumK (k0 : Int) : List D → List D
  | [] => []
  | d :: ds => .tup [.int k0, d] :: enumK (k0 + 1) ds
theorem enumK_get : ∀ {ds : List D} {k0 : Int} {i : Nat} {d : D}, (enumK k0 ds)[i]? = some d → ∃ e, ds[i]? = some e ∧ d = .tup [.int (k0 + (i : Int)), e]
  | [], _, _, _, h => by cases h
  | e :: ds, k0, 0, d, h => by
    cases h
    exact ⟨e, rfl, by rw [show k0 + ((0 : Nat) : Int) = k0 from Int.add_zero k0]⟩
  | e :: ds, k0, i + 1, d, h => by
    obtain ⟨e', h1, h2⟩ := enumK_get (k0 := k0 + 1) (i := i) h
    exact ⟨e', h1, by rw [h2, show k0 + 1 + (i : Int) = k0 + ((i + 1 : Nat) : Int) by omega]⟩
theorem enumK_len : ∀ (k0 : Int) (ds : List D), (enumK k0 ds).length = ds.length
  | _, [] => rfl
  | k0, d :: ds => by show (enumK (k0 + 1) ds).length + 1 = _; rw [enumK_len]; rfl
def enK (k0 : Int) : List D → Option (List D)
  | [.lst ds] => some (enumK k0 ds)
  | _ => none
theorem ri_enumK {k0 : Int} {ta : TA} {sa : SA} (h : RA w W ta sa) : RI w W (R7.iEnumK w.K k0 ta) (siV (enK k0) sa) := fun π B Z g σ H R s q =>
  h π B Z g σ H _ s (Tail.bAI q fun rs g1 vs B1 H1 e1 s1 r1 q1 => by
    split at q1
    · rename_i ds hr
      have hd := r1.datas hr
      split at q1
      · rename_i es he
        unfold enK at he
        split at he
        · rename_i ds
          cases he
          cases hd with
          | cons a t =>
            cases t
            cases a with
            | lst hb hx =>
              refine ⟨_, _, rfl, .inl (.inl (s1.sub.at hb rfl)), q1 _ B1 H1 (Ext.refl _) s1 ?_⟩
              refine walks_of R7.walk_enumK (by rw [enumK_len, hx.len]) (fun B2 H2 e2 s2 => .inl (.inl (s2.at (e2 _ _ hb) rfl))) fun B2 i d H2 x H3 e2 s2 q2 y => ?_
              obtain ⟨e, k1, rfl⟩ := enumK_get q2
              exact ypair (B := B1) (ds := fun i => some (.int (k0 + (i : Int)))) (es := fun i => ds[i]?) (fun i d q => by cases q; exact ⟨_, rfl, .int _⟩) (fun i d q => hx.get q) B2 i _ e H2 x H3 e2 s2 rfl k1 y
        · cases he
      · exact q1.elim
    · exact q1.elim)
theorem di_enumK {ι : Type} {XS : ι → Cx} {elts : List Expr} {kk : Nat} {tpos p pos cp kp : Pos} {j : Nat} {k0 : Int} {e : Expr} {args : SA} (hm : ∀ i, (XS i).mg "enumerate" = none) (ha : DA XS w W [e] args) (h0 : -(2 ^ 63) ≤ k0 := by decide) (h1 : k0 < 2 ^ 63 := by decide) (hg : ∀ i, Gl (XS i) "enumerate" := by intro _; rfl) (hs : ∀ i, starEach [e] (XS i).env = (false, eval e (XS i).env) :: starEach [] (XS i).env := by intro _; rfl)
    (hall : ∀ i, (backToKw pos (keywordEach [⟨some "start", .Constant (.int k0) j cp, kp⟩] (XS i).env)).all (·.1.isSome) = true := by intro _; rfl) (hpl : ∀ i, ((backTo pos (starEach [e] (XS i).env)).any (·.1) || (backToKw pos (keywordEach [⟨some "start", .Constant (.int k0) j cp, kp⟩] (XS i).env)).any (·.1.isNone)) = false := by intro _; rfl) (hK : ∀ i, (XS i).K = w.K := by intro _; rfl) :
    DI XS w W (.Tuple elts kk tpos) (.Call (.Name "enumerate" p) [e] [⟨some "start", .Constant (.int k0) j cp, kp⟩] pos) (siV (enK k0) args) := by
  obtain ⟨t, k1, k2⟩ := ha
  exact ⟨_, fun i => by rw [← hK i]; exact R7.pi_enumK h0 h1 (hg i) (hm i) (k1 i) (hs i) (hall i) (hpl i), ri_enumK k2⟩
end
end M7
/-! x[::-1], x op= e, a statement that is never reached. -/
namespace M7
open PySem PySem.Spec PyProof.Rows L2
section
variable {w : WD} {W : WX} {π : Nat → V} {B B' B1 Z : Hp} {g : G} {σ : L2.St} {H H' : Hp} {v : V}
def seRevL (sb : SB) : SE := fun g => (sb g).bind fun r g1 => match r.get g1 with
  | some (.lst ds) => .ok (true, .lst ds.reverse) g1
  | _ => .fail
theorem re_revL {ta : TE} {sb : SB} (h : RB w W ta sb) : RE w W (tRevL w.K ta) (seRevL sb) := fun π B Z g σ H Q s q =>
  h π B Z g σ H _ s (tailE.bB q fun r g1 v B1 H1 e1 s1 r1 q1 => by
    split at q1
    · rename_i ds hr
      obtain ⟨a, xs, rfl, ha, hx⟩ := lk_lst s1.sub (s1.lk r1 hr)
      exact ⟨a, xs, rfl, .inl (.inl ha), fun p hp => q1 _ B1 _ (Ext.refl _) (s1.grow (Ext.new hp)) (s1.new_res hp (.lst upd_same hx.rev))⟩
    · exact q1.elim)
/-- name op= e, ints -/
def ssAugI (f : Int → Int → Int) (k : Nat) (se : SE) : SS := fun g => match g[k]? with
  | some (some (.f, .int a)) => ofO (se g) fun r g1 => match r.2 with
    | .int b => match setS g1 k (false, .int (f a b)) with
      | some g2 => .nx g2
      | none => .fail
    | _ => .fail
  | _ => .fail
theorem rs_augI {f : Int → Int → Int} {k : Nat} {te : TE} {se : SE} (h : RE w W te se) : RS w W (tAug k te (ipI f)) (ssAugI f k se) := fun π B Z g σ H D s q => by
  unfold ssAugI at q
  split at q
  · rename_i a hk
    obtain ⟨v, h1, h2⟩ := s.fz k .f _ hk rfl
    cases h2
    refine ⟨_, h1, h π B Z g σ H _ s (postS_E q fun o d g1 u B1 H1 e s1 r q1 => ?_)⟩
    split at q1
    · rename_i b hb
      have hb : d = .int b := hb
      subst hb
      have hu : u = .int b := by
        cases o with
        | false =>
          have r : Den w B1 u (.int b) := r
          cases r
          rfl
        | true =>
          obtain ⟨x, _, _, _, ho, _⟩ := r
          cases ho
      subst hu
      split at q1
      · rename_i g2 e2
        exact ⟨a, b, rfl, rfl, q1 B1 H1 _ (Ext.refl _) (s1.set (o := false) (show Res w B1 Z g1 σ H1 (.int (f a b)) false (.int (f a b)) from Den.int _) e2)⟩
      · exact q1.elim
    · exact q1.elim
  · exact q.elim
end
section
variable {w : WD} {W : WX} {ι : Type} {XS : ι → Cx} {e : Expr} {sb : SB} {se : SE} {p1 p2 p3 pos pos' : Pos} {x : Str}
theorem de_revL {k : Nat} (h : DB XS w W e sb) (hK : ∀ i, (XS i).K = w.K := by intro _; rfl) : DE XS w W (.Subscript e (.Slice none none (some (.UnaryOp .USub (.Constant (.int 1) k p1) p2)) p3) pos) (seRevL sb) := by
  obtain ⟨t, h1, h2⟩ := h
  exact ⟨_, fun i => by rw [← hK i]; exact pe_revL (h1 i), re_revL h2⟩
theorem ds_augI {op : Operator} {f : Int → Int → Int} (k : Nat) (ho : ∀ i, PIp (XS i) op (ipI f)) (hnd : ∀ i, (XS i).N.Nodup) (h : DE XS w W e se) (hi : ∀ i, (XS i).N[k]? = some x := by intro _; rfl) (hx : ∀ i, Loc (XS i).env.scope x := by intro _; first | exact .inl rfl | exact .inr rfl) (hf : ∀ i, (XS i).fn x = true ∨ (XS i).env.scope.names.lookup x = some .local := by intro _; first | exact .inl rfl | exact .inr rfl) :
    DS XS w W (.AugAssign (.Name x pos') op e pos) (ssAugI f k se) := by
  obtain ⟨t, h1, h2⟩ := h
  exact ⟨_, fun i => ps_aug (hnd i) (hi i) (hx i) (h1 i) (ho i) (hf i), rs_augI h2⟩
/-- what is never reached -/
def ssNo : SS := fun _ => .fail
theorem ds_no {st : Stmt} : DS XS w W st ssNo := ⟨fun _ _ _ => False, fun _ => ⟨fun _ _ _ _ _ _ h => h.elim⟩, fun _ _ _ _ _ _ _ _ q => q⟩
def seNo : SE := fun _ => .fail
theorem de_no : DE XS w W e seNo := ⟨fun _ _ _ => False, fun _ => ⟨fun _ _ _ _ _ _ h => h.elim⟩, fun _ _ _ _ _ _ _ _ q => q⟩
end
end M7
/-! try .. except X. -/
namespace M7
open PySem PySem.Spec PyProof.Rows L2
section
variable {w : WD} {W : WX} {ι : Type} {XS : ι → Cx}
/-- the contexts of a try's body -/
def trIx (XS : ι → Cx) (W : WX) : Type := { q : ι × List (Addr × Obj) × (Value → Shared → Prop) // Takes ((XS q.1).tr q.2.1 q.2.2) W ∧ PassesOwn (model (XS q.1).prog (XS q.1).w) (XS q.1).A (XS q.1).env q.2.2 }
def trS (XS : ι → Cx) (W : WX) : trIx XS W → Cx := fun q => (XS q.1.1).tr q.1.2.1 q.1.2.2
/-- .. of a clause's suite -/
def suS (XS : ι → Cx) : ι × Addr × List (Addr × Obj) → Cx := fun q => (XS q.1).suite q.2.1 q.2.2
/-- what the clause of c catches -/
def Ctc (w : WD) (c : Value) (mt : XN → Bool) : Prop := ∀ y, w.has y → PySem.W.exmOne w.K (.ref (w.exc y)) c = some (mt y)
def ssTry (mt : XN → Bool) (ssb su : SS) : SS := fun g => match ssb g with
  | .ex y f g1 => if mt y = true then su g1 else .ex y f g1
  | r => r
theorem rs_try {c : Value} {mt : XN → Bool} {tb : WX → TS} {ts : TS} {ssb su : SS} (hm : Ctc w c mt) (hb : ∀ W', RS w W' (tb W') ssb) (hs : RS w WT ts su) : RS w W (fun D σ H => tb (wOnly w.K c (fun _ _ _ => ts) W D) D σ H) (ssTry mt ssb su) := fun π B Z g σ H D s q => by
  refine hb _ π B Z g σ H D s ?_
  unfold ssTry at q
  cases hg : ssb g with
  | ex y f g1 =>
    rw [hg] at q
    intro hx dd B' H' σ' e s' xo
    refine ⟨mt y, hm y hx, fun hy a ha => hs π B' Z g1 σ' H' D s' ?_, fun hn => ?_⟩
    · have q : PostS w W π B Z D (if mt y = true then su g1 else .ex y f g1) := q
      rw [if_pos hy] at q
      revert q
      cases su g1 with
      | nx g => exact fun q B'' H'' σ'' e2 => q B'' H'' σ'' (e.trans e2)
      | bk g => exact fun q B'' H'' σ'' e2 => q B'' H'' σ'' (e.trans e2)
      | ct g => exact fun q B'' H'' σ'' e2 => q B'' H'' σ'' (e.trans e2)
      | rt o d g => exact fun q v B'' H'' σ'' e2 => q v B'' H'' σ'' (e.trans e2)
      | ex x f g => exact fun q _ _ _ _ _ _ _ _ => trivial
      | fail => exact fun q => q.elim
    · have q : PostS w W π B Z D (if mt y = true then su g1 else .ex y f g1) := q
      rw [if_neg (by rw [hn]; decide)] at q
      exact q hx dd B' H' σ' e s' xo
  | nx g1 => rw [hg] at q; exact q
  | bk g1 => rw [hg] at q; exact q
  | ct g1 => rw [hg] at q; exact q
  | rt o d g1 => rw [hg] at q; exact q
  | fail => rw [hg] at q; exact q.elim
theorem ds_try {x : Str} {c : Value} {mt : XN → Bool} {body suite : List Stmt} {b0 : Stmt} {np pos pos' : Pos} {ssb su : SS} (hm : Ctc w c mt) (hc : ∀ i, Names (XS i) x c) (tk : ∀ i, Takes (XS i) W) (hb : ∀ W', DSs (trS XS W') w W' body ssb) (hsu : DSs (suS XS) w WT (b0 :: suite) su)
    (hs : ∀ i, (XS i).stack = (XS i).env :: (XS i).outer := by intro _; rfl) (hf : ∀ i, (XS i).env.frame = some (XS i).env.locals := by intro _; rfl) (hK : ∀ i, (XS i).K = w.K := by intro _; rfl) :
    DS XS w W (.Try body [.ExceptHandler (some (.Name x np)) none (b0 :: suite) pos'] [] [] pos) (ssTry mt ssb su) := by
  obtain ⟨ts, k1, k2⟩ := hsu
  refine ⟨_, fun i => ?_, rs_try (tb := fun W' => (hb W').choose) hm (fun W' => (hb W').choose_spec.2) k2⟩
  have z := ps_try_only (X := XS i) (x := x) (c := c) (body := body) (suite := suite) (b₀ := b0) (np := np) (pos := pos) (pos' := pos') (tb := fun W' => (hb W').choose) (ts := fun _ _ _ => ts) (Wout := W) (hs i) (hf i) (hc i) (tk i)
    (fun W' pn xe h1 h2 => (hb W').choose_spec.1 ⟨(i, pn, xe), h1, h2⟩) (fun a oe cls d pn _ _ => k1 (i, a, (a, oe) :: pn))
  rw [hK i] at z
  exact z
theorem Fam.tr {P : Program} {wl : World} {mg : Str → Option Value} {base : Heap} {gb : Bool} {n : Nat} {W' : WX} (F : Fam P wl mg base w gb n XS) : Fam P wl mg base w gb n (trS XS W') :=
  ⟨fun q => F.prog q.1.1, fun q => F.wl q.1.1, fun q => F.K q.1.1, fun q => F.mg q.1.1, fun q => F.base q.1.1, fun q => F.gd q.1.1, fun q => F.room q.1.1⟩
theorem tr_takes {W' : WX} (q : trIx XS W') : Takes (trS XS W' q) W' := q.2.1
theorem tr_passes {W' : WX} (q : trIx XS W') : PassesOwn (model (trS XS W' q).prog (trS XS W' q).w) (trS XS W' q).A (trS XS W' q).env (trS XS W' q).xe := q.2.2
end
end M7
/-! repr of data. -/
namespace R7
open PySem PySem.Spec PyProof.Rows L2
mutual
/-- x is the datum d in the heap H -/
inductive DatK (K : PySem.W.Frag) (H : Hp) : V → PyData → Prop
  | non : DatK K H .non .none
  | bl (b : Bool) : DatK K H (.bl b) (.bool b)
  | int (i : Int) : DatK K H (.int i) (.int i)
  | str (x : Str) : DatK K H (.str x) (.str x)
  | lst {a : Addr} {xs : List V} {ds : List PyData} : H a = some (.lst xs) → DatsK K H xs ds → DatK K H (.ref a) (.list ds)
  | tup {a : Addr} {xs : List V} {ds : List PyData} : SqT K H a xs → DatsK K H xs ds → DatK K H (.ref a) (.tuple ds)
inductive DatsK (K : PySem.W.Frag) (H : Hp) : List V → List PyData → Prop
  | nil : DatsK K H [] []
  | cons {v : V} {vs : List V} {d : PyData} {ds : List PyData} : DatK K H v d → DatsK K H vs ds → DatsK K H (v :: vs) (d :: ds)
end
section
variable {X : Cx} {pins : List (Addr × Obj)} {σ : L2.St} {H : Hp} {s : Shared}
mutual
theorem DatK.reads (I : Inv X pins σ H s) (Z : SysB X.base) : ∀ {d : PyData} {v : V} {u : Value}, DatK X.K H v d → RelV v u → ∃ as, Reads s.heap u d as ∧ sysModules ∉ as
  | _, _, _, .non, r => by
    cases r
    exact ⟨_, .none, by simp⟩
  | _, _, _, .bl b, r => by
    cases r
    exact ⟨_, .bool b, by simp⟩
  | _, _, _, .int i, r => by
    obtain ⟨t, rfl⟩ := r
    exact ⟨_, .int i t, by simp⟩
  | _, _, _, .str x, r => by
    obtain ⟨t, rfl⟩ := r
    exact ⟨_, .str x t, by simp⟩
  | _, _, _, .lst (a := a) e hs, r => by
    cases r
    obtain ⟨z, its, n, rv, ho⟩ := I.hok a _ e
    obtain ⟨as, hr, na⟩ := DatsK.reads I Z hs rv
    refine ⟨_, .list ho rfl rfl hr, fun m => ?_⟩
    rcases List.mem_cons.mp m with q | q
    · obtain ⟨o, ho⟩ := Z
      have := (I.bs _ _ ho).2
      rw [q, e] at this
      cases this
    · exact na q
  | _, _, _, .tup (a := a) e hs, r => by
    cases r
    obtain ⟨its, rv, ⟨o, ho, hc, n, hd⟩, z⟩ := I.tuple e
    obtain ⟨as, hr, na⟩ := DatsK.reads I Z hs rv
    exact ⟨_, .tuple ho hc hd hr, na⟩
theorem DatsK.reads (I : Inv X pins σ H s) (Z : SysB X.base) : ∀ {ds : List PyData} {vs : List V} {us : List Value}, DatsK X.K H vs ds → Vals vs us → ∃ as, ReadsAll s.heap us ds as ∧ sysModules ∉ as
  | _, _, _, .nil, .nil => ⟨_, .nil, by simp⟩
  | _, _, _, .cons h1 h2, .cons r1 r2 => by
    obtain ⟨as, q1, n1⟩ := DatK.reads I Z h1 r1
    obtain ⟨bs, q2, n2⟩ := DatsK.reads I Z h2 r2
    exact ⟨_, .cons q1 q2, fun m => (List.mem_append.mp m).elim n1 n2⟩
end
def rRepK (K : PySem.W.Frag) : List V → Hp → VK → Prop := fun xs H Q => ∃ x d, xs = [x] ∧ DatK K H x d ∧ d.showable = true ∧ d.shown.length ≤ sizeLine ∧ d.depth ≤ 20 ∧ Q (.str d.shown) H
theorem call_repK (Z : SysB X.base) (hg : X.A.guards = some []) (hu : X.A.units + 64 < cLine) : CallR X (.builtin "repr") (rRepK X.K) := by
  intro pins s σ H xs us Q I r h
  obtain ⟨x, d, rfl, hd, hs, hz, hdp, q⟩ := h
  obtain ⟨u, rfl, rx⟩ := vals1 r
  have fin : ∀ (h' : Heap) (t : Tok) (tk : Nat), (∀ b o, s.heap.get? b = some o → h'.get? b = some o) → EP X pins σ Q (.str d.shown t) { s with heap := h', toks := tk } := fun h' t tk hk => ⟨.str d.shown, H, I.kept hk, ⟨t, rfl⟩, q⟩
  have rd := hd.reads I Z rx
  have big : ∀ a, u = .ref a → wpAny (model X.prog X.w) X.A (call (.builtin "repr") [u]) (EP X pins σ Q) X.xe s := fun a e => by
    subst e
    obtain ⟨as, rd, na⟩ := rd
    exact repr_of_reads' rd hs (fun _ => na) hg (by omega) (fun _ _ e => e) (fun h' t tk hk => fin h' t tk hk) hz
  cases hd with
  | non =>
    cases rx
    simp only [PyData.shown] at fin ⊢
    exact PySem.P.repr_of_none (fin s.heap _ _ fun _ _ e => e)
  | bl b =>
    cases rx
    simp only [PyData.shown] at fin ⊢
    exact PySem.P.repr_of_bool (fin s.heap _ _ fun _ _ e => e)
  | int i =>
    obtain ⟨t, rfl⟩ := rx
    simp only [PyData.shown] at fin ⊢
    exact PySem.P.repr_of_int (by simpa [PyData.showable] using hs) (fin s.heap _ _ fun _ _ e => e)
  | str x =>
    obtain ⟨t, rfl⟩ := rx
    simp only [PyData.shown] at fin hz ⊢
    exact PySem.P.repr_of_str (fin s.heap _ _ fun _ _ e => e) hz
  | lst _ _ => exact big _ rx
  | tup _ _ => exact big _ rx
end
end R7
namespace M7
open PySem PySem.Spec PyProof.Rows L2
mutual
def pd : D → Option PyData
  | .non => some .none
  | .bl b => some (.bool b)
  | .int i => some (.int i)
  | .str x => some (.str x)
  | .lst ds => (pds ds).map .list
  | .tup ds => (pds ds).map .tuple
  | _ => none
def pds : List D → Option (List PyData)
  | [] => some []
  | d :: r => match pd d, pds r with
    | some p, some q => some (p :: q)
    | _, _ => none
end
section
variable {w : WD} {W : WX} {π : Nat → V} {B B' B1 Z : Hp} {g : G} {σ : L2.St} {H H' : Hp} {v : V}
mutual
theorem den_dat (s : Sub B H) : ∀ {v : V} {d : D} {p : PyData}, Den w B v d → pd d = some p → R7.DatK w.K H v p
  | _, _, _, .non, e => by cases e; exact .non
  | _, _, _, .bl b, e => by cases e; exact .bl b
  | _, _, _, .int b, e => by cases e; exact .int b
  | _, _, _, .str b, e => by cases e; exact .str b
  | _, .lst ds, _, .lst ha hx, e => by
    unfold pd at e
    cases h : pds ds with
    | none => rw [h] at e; cases e
    | some q =>
      rw [h] at e
      cases e
      exact .lst (s.at ha rfl) (dens_dat s hx h)
  | _, .tup ds, _, .tup ha hx, e => by
    unfold pd at e
    cases h : pds ds with
    | none => rw [h] at e; cases e
    | some q =>
      rw [h] at e
      cases e
      exact .tup (s.sqT ha) (dens_dat s hx h)
  | _, _, _, .scr _ _, e => by unfold pd at e; cases e
  | _, _, _, .dct _ _ _, e => by unfold pd at e; cases e
  | _, _, _, .obj _ _ _, e => by unfold pd at e; cases e
  | _, _, _, .cls _, e => by unfold pd at e; cases e
theorem dens_dat (s : Sub B H) : ∀ {vs : List V} {ds : List D} {ps : List PyData}, Dens w B vs ds → pds ds = some ps → R7.DatsK w.K H vs ps
  | _, _, _, .nil, e => by cases e; exact .nil
  | _, d :: ds, _, .cons r t, e => by
    unfold pds at e
    split at e
    · rename_i p q h1 h2
      cases e
      exact .cons (den_dat s r h1) (dens_dat s t h2)
    · cases e
end
def dRep : List D → Option (Bool × D)
  | [d] => match pd d with
    | some p => if p.showable = true ∧ p.shown.length ≤ sizeLine ∧ p.depth ≤ 20 then some (false, .str p.shown) else none
    | none => none
  | _ => none
theorem cd_rep : CallD w (R7.rRepK w.K) dRep := fun π B Z g σ H Q vs ds s h q => by
  unfold dRep at q
  split at q
  · obtain ⟨v, rfl, hv⟩ := lks1 h
    rename_i d
    split at q
    · rename_i p hp
      split at q
      · rename_i hc
        refine ⟨v, p, rfl, ?_, hc.1, hc.2.1, hc.2.2, fin_d s q (.str _)⟩
        cases hv with
        | den hv => exact den_dat s.sub hv hp
        | own _ ho =>
          cases ho with
          | lst ha hx =>
            rename_i a xs es
            unfold pd at hp
            cases h : pds es with
            | none => rw [h] at hp; cases hp
            | some q =>
              rw [h] at hp
              cases hp
              exact .lst ha (dens_dat s.sub hx h)
          | dct _ _ _ => unfold pd at hp; cases hp
          | obj _ _ _ => unfold pd at hp; cases hp
      · exact q.elim
    · exact q.elim
  · exact q.elim
end
theorem call_repF {w : WD} {ι : Type} {XS : ι → Cx} {P : Program} {wl : World} {mg : Str → Option Value} {base : Heap} {n : Nat} (F : Fam P wl mg base w true n XS) (Z : R7.SysB base) (i : ι) : CallR (XS i) (.builtin "repr") (R7.rRepK w.K) := by
  rw [← F.K i]
  exact R7.call_repK (by rw [F.base i]; exact Z) (F.gd i rfl) (F.room i).units
end M7
/-! __init__(self, *rods, k = d, ..). -/
namespace M7
open PySem PySem.Spec PyProof.Rows L2
theorem len2 {α : Type} {l : List α} (h : l.length = 2) : ∃ a b, l = [a, b] := by
  match l, h with
  | [a, b], _ => exact ⟨a, b, rfl⟩
theorem len4 {α : Type} {l : List α} (h : l.length = 4) : ∃ a b c d, l = [a, b, c, d] := by
  match l, h with
  | [a, b, c, d], _ => exact ⟨a, b, c, d, rfl⟩
def swap2 {α : Type} : List α → List α
  | [a, b] => [b, a]
  | l => l
theorem vals_swap2 : ∀ {zs : List V} {ws : List Value}, Vals zs ws → zs.length = 2 → Vals (swap2 zs) (swap2 ws)
  | [_, _], _, .cons a (.cons b .nil), _ => .cons b (.cons a .nil)
theorem dens_swap2 {w : WD} {B : Hp} : ∀ {zs : List V} {ds : List D}, Dens w B zs ds → zs.length = 2 → Dens w B (swap2 zs) (swap2 ds)
  | [_, _], _, .cons a (.cons b .nil), _ => .cons b (.cons a .nil)
theorem gv_id {w : WD} {m : Nat} : GV w m id id := fun _ _ _ h _ => h
theorem gv_swap2 {w : WD} : GV w 2 swap2 swap2 := fun _ _ _ h l => dens_swap2 h l
section
variable {P : Program} {wl : World} {mg : Str → Option Value} {base : Heap} {w : WD}
theorem cxb_up {b : Bool} : StX.CXUp (CXb b P wl) := by
  cases b with
  | false => exact fun _ _ _ _ _ _ _ _ _ _ _ z => z
  | true => exact StX.cxUp
theorem init_D {bx : Bool} {name qual p1 pv : Str} {s : Stmt} {kws : List (Str × V)} {f : Addr} {fd : FuncData} {N opts ks : List Str} {k : Nat} {ss : SS} {g : List Value → List Value} {gV : List V → List V} (F : FunD w.K name qual (defArgs s) (defBody s) (defScope s) [] kws f fd) (S : FnScope N (p1 :: (opts ++ [pv])) (defScope s))
    (hrel : ∀ {zs : List V} {ws : List Value}, Vals zs ws → zs.length = ks.length → Vals (gV zs) (g ws)) (hlen : ∀ zs : List V, zs.length = ks.length → (gV zs).length = opts.length)
    (hb : ∀ (kV doc pm : Value) (an : Option Addr) (cdv ct : Value) (M : Model) (A : Around) (Q : List (Str × Value) → Shared → Prop) (Ex : Value → Shared → Prop) (sh : Shared) (a : Value) (rest ws : List Value), KwdV w.K kV kws → w.K.In sh.heap → ws.length = ks.length →
      wpAny M A (newTuple rest >>= fun t => pure ((p1 :: opts).zip (a :: g ws) ++ [(pv, t)])) Q Ex sh → wpAny M A (bindArgs (PySem.W.fnOf name qual (defArgs s) (defBody s) (defScope s) .none kV doc pm an cdv ct) ⟨a :: rest, ks.zip ws⟩) Q Ex sh)
    (hbody : ∀ (cdv : Value) (A : Around) (outer : List Env) (sh : Shared) (H : Hp) (E : XK), Room k (A.deeper (envOfC qual (defScope s) sh.heap.objs.size f cdv)) →
      DSs (fun _ : Unit => cxOf (CXb bx P wl) P wl w.K mg base N qual (defScope s) f cdv A outer sh H E) w (fun cls d _ H => E cls d H) (defBody s) ss) : R7.FnK P wl w.K mg base (CXb bx P wl) (k + 1) f ks (spStar w (bodyFn (opts.length + 2) N.length ss) gV) := by
  obtain ⟨oc, od, dV, kV, doc, pm, an, cdv, ct, osl, rfl, lk, hcd, hD, hK⟩ := F.ex
  rcases hD with ⟨_, rfl⟩ | ⟨e, _⟩
  rotate_left
  · exact absurd rfl e
  refine R7.fn_starK (sp := spD w (bodyFn (opts.length + 2) N.length ss)) (opts := opts) (g := g) (gV := gV) (p1 := p1) (pv := pv) lk hcd S cxb_up hrel hlen (fun M A Q Ex sh a rest ws X l h => hb kV doc pm an cdv ct M A Q Ex sh a rest ws hK X l h) fun A outer sh H vs Q E hr h => ?_
  obtain ⟨t, h1, h2⟩ := hbody cdv A outer sh H E hr
  exact ⟨t, h1 (), body_D h h2 fun _ _ _ _ z => z⟩
end
end M7
/-! A try that lets nothing out; classes of rules. -/
namespace M7
open PySem PySem.Spec PyProof.Rows L2
section
variable {w : WD} {W : WX} {ι : Type} {XS : ι → Cx}
def WN : WX := fun _ _ _ _ => False
def ssTryN (mt : XN → Bool) (ssb su : SS) : SS := fun g => match ssb g with
  | .ex y f g1 => if mt y = true then su g1 else .fail
  | r => r
theorem rs_tryN {c : Value} {mt : XN → Bool} {tb : WX → TS} {ts : TS} {ssb su : SS} (hm : Ctc w c mt) (hb : ∀ W', RS w W' (tb W') ssb) (hs : RS w WT ts su) : RS w W (fun D σ H => tb (wOnly w.K c (fun _ _ _ => ts) WN D) D σ H) (ssTryN mt ssb su) := fun π B Z g σ H D s q => by
  refine hb _ π B Z g σ H D s ?_
  unfold ssTryN at q
  cases hg : ssb g with
  | ex y f g1 =>
    rw [hg] at q
    intro hx dd B' H' σ' e s' xo
    have q : PostS w W π B Z D (if mt y = true then su g1 else .fail) := q
    cases hy : mt y with
    | false =>
      rw [if_neg (by rw [hy]; decide)] at q
      exact q.elim
    | true =>
      rw [if_pos hy] at q
      refine ⟨true, by rw [← hy]; exact hm y hx, fun _ a ha => hs π B' Z g1 σ' H' D s' ?_, fun z => by cases z⟩
      revert q
      cases su g1 with
      | nx g => exact fun q B'' H'' σ'' e2 => q B'' H'' σ'' (e.trans e2)
      | bk g => exact fun q B'' H'' σ'' e2 => q B'' H'' σ'' (e.trans e2)
      | ct g => exact fun q B'' H'' σ'' e2 => q B'' H'' σ'' (e.trans e2)
      | rt o d g => exact fun q v B'' H'' σ'' e2 => q v B'' H'' σ'' (e.trans e2)
      | ex x f g => exact fun q _ _ _ _ _ _ _ _ => trivial
      | fail => exact fun q => q.elim
  | nx g1 => rw [hg] at q; exact q
  | bk g1 => rw [hg] at q; exact q
  | ct g1 => rw [hg] at q; exact q
  | rt o d g1 => rw [hg] at q; exact q
  | fail => rw [hg] at q; exact q.elim
theorem ds_tryN {x : Str} {c : Value} {mt : XN → Bool} {body suite : List Stmt} {b0 : Stmt} {np pos pos' : Pos} {ssb su : SS} (hm : Ctc w c mt) (hc : ∀ i, Names (XS i) x c) (hb : ∀ W', DSs (trS XS W') w W' body ssb) (hsu : DSs (suS XS) w WT (b0 :: suite) su)
    (hs : ∀ i, (XS i).stack = (XS i).env :: (XS i).outer := by intro _; rfl) (hf : ∀ i, (XS i).env.frame = some (XS i).env.locals := by intro _; rfl) (hK : ∀ i, (XS i).K = w.K := by intro _; rfl) :
    DS XS w W (.Try body [.ExceptHandler (some (.Name x np)) none (b0 :: suite) pos'] [] [] pos) (ssTryN mt ssb su) := by
  obtain ⟨ts, k1, k2⟩ := hsu
  refine ⟨_, fun i => ?_, rs_tryN (tb := fun W' => (hb W').choose) hm (fun W' => (hb W').choose_spec.2) k2⟩
  have z := ps_try_only (X := XS i) (x := x) (c := c) (body := body) (suite := suite) (b₀ := b0) (np := np) (pos := pos) (pos' := pos') (tb := fun W' => (hb W').choose) (ts := fun _ _ _ => ts) (Wout := WN) (hs i) (hf i) (hc i) LamX.takes0
    (fun W' pn xe h1 h2 => (hb W').choose_spec.1 ⟨(i, pn, xe), h1, h2⟩) (fun a oe cls d pn _ _ => k1 (i, a, (a, oe) :: pn))
  rw [hK i] at z
  exact z
/-- a caught class by its global name -/
structure Cth (w : WD) (mg : Str → Option Value) (x : Str) (c : XN) (mt : XN → Bool) : Prop where
  at_ : mg x = some (.ref (w.exc c))
  ctc : Ctc w (.ref (w.exc c)) mt
theorem Cth.nm {mg : Str → Option Value} {x : Str} {c : XN} {mt : XN → Bool} (h : Cth w mg x c mt) (hm : ∀ i, (XS i).mg = mg := by intro _; rfl) (hg : ∀ i, Gl (XS i) x := by intro _; rfl) (hd : (x == ("__debug__" : Str)) = false := by decide) : ∀ i, Names (XS i) x (.ref (w.exc c)) := fun i => ⟨hg i, hd, .inl (by rw [hm i]; exact h.at_)⟩
end
/-! rules -/
def isRule : CN → Bool
  | .rule => true
  | .held => true
  | .aimed => true
  | .bound => true
  | _ => false
def tCls (f : CN → Option Bool) : TK → Option Bool
  | .obj c => f c
  | _ => some false
def onRules (a b c d : Bool) : CN → Option Bool
  | .rule => some a
  | .held => some b
  | .aimed => some c
  | .bound => some d
  | _ => none
section
variable {P : Program} {wl : World} {mg : Str → Option Value} {base : Heap} {w : WD} {ss : SS}
/-- def_D, for a given FuncData -/
theorem fnx_D {gb bx : Bool} {y qual : Str} {s : Stmt} {f : Addr} {fd : FuncData} {N ps : List Str} {k : Nat} (Fd : Fun w.K y qual s f fd) (S : FnScope N ps (defScope s))
    (hb : ∀ (cdv : Value) (A : Around) (outer : List Env) (sh : Shared) (H : Hp) (E : XK), Gd gb A → Room k (A.deeper (envOfC qual (defScope s) sh.heap.objs.size f cdv)) →
      DSs (fun _ : Unit => cxOf (CXb bx P wl) P wl w.K mg base N qual (defScope s) f cdv A outer sh H E) w (fun cls d _ H => E cls d H) (defBody s) ss) : FnX gb P wl w.K mg base (CXb bx P wl) (k + 1) f fd ps (spD w (bodyFn ps.length N.length ss)) := by
  refine fun_X Fd S (fun vs H Q E h => spD_len h) fun cdv A outer sh H vs Q E hg hr h => ?_
  obtain ⟨t, h1, h2⟩ := hb cdv A outer sh H E hg hr
  exact ⟨t, h1 (), body_D h h2 fun _ _ _ _ z => z⟩
end
end M7
set_option maxHeartbeats 400000
namespace M7
open PySem PySem.Spec PyProof.Rows L2
def top (i : Nat) : Stmt := PySem.Challenge.pw_rodturns_k04_rules_read_from_the_other_e.main.body.getD i (.Pass ⟨0, 0, 0, 0⟩)
def fuel : Nat := 1000000
def mt_RuleError : XN → Bool := fun y => decide (y = .rule)
def mt_FoldError : XN → Bool := fun _ => true
def ss_is_integer : SS := (ssRet (seAnd (seIsi tInt (sbVar 0)) (seNot (seIsi tBool (sbVar 0)))))
abbrev φ_is_integer : Fn := bodyFn 1 1 ss_is_integer
def ss_letter_at : SS := (ssSeq (ssIf (stAnd (stB (seOp dLt (sbVar 1) (sbOf (seCB dLen (saCons (sbVar 0) saNil))))) (stB (seOp (dIn false) (sbOf (seOp dIx (sbVar 0) (sbVar 1))) (sbVar 2)))) (ssRet (seOp dIx (sbVar 0) (sbVar 1))) ssNext)
    (ssRet (seC (.str ""))))
abbrev φ_letter_at : Fn := bodyFn 3 3 ss_letter_at
def ss_length_size : SS := (ssSeq (ssIf (stB (seOp dEq (sbOf (seCall φ_letter_at (saCons (sbVar 0) (saCons (sbVar 1) (saCons (sbOf (seC (.str "123456789"))) saNil))))) (sbOf (seC (.str ""))))) (ssRet (seC (.int 0))) ssNext)
    (ssSeq (ssIf (stAnd (stB (seOp dNe (sbOf (seCall φ_letter_at (saCons (sbVar 0) (saCons (sbOf (seOp dAdd (sbVar 1) (sbOf (seC (.int 1))))) (saCons (sbOf (seC (.str "0123456789"))) saNil))))) (sbOf (seC (.str ""))))) (stB (seOp dLe (sbOf (seCB dIntC (saCons (sbOf (seSl dSl (sbVar 0) (soSome (seVar 1)) (soSome (seOp dAdd (sbVar 1) (sbOf (seC (.int 2))))))) saNil))) (sbVar 2)))) (ssRet (seC (.int 2))) ssNext)
    (ssRet (seC (.int 1)))))
abbrev φ_length_size : Fn := bodyFn 3 3 ss_length_size
def ss_cut : SS := (ssSeq (ssIf (stNot (stB (seIsi tStr (sbVar 0)))) ssNo ssNext)
    (ssSeq (ssAsg (seLst saNil) (sgName 5))
    (ssSeq (ssAsg (seLst saNil) (sgName 6))
    (ssSeq (ssAsg (seLst saNil) (sgName 7))
    (ssSeq (ssAsg (seC (.int 0)) (sgName 8))
    (loopW (stB (seC (.bl true))) (ssSeq (ssAsg (seCall φ_length_size (saCons (sbVar 0) (saCons (sbVar 8) (saCons (sbVar 2) saNil)))) (sgName 9))
    (ssSeq (ssIf (stB (seOp dEq (sbVar 9) (sbOf (seC (.int 0))))) ssNo ssNext)
    (ssSeq (ssDrop (seMutV isLst 5 fAppend (saCons (sbOf (seCB dIntC (saCons (sbOf (seSl dSl (sbVar 0) (soSome (seVar 8)) (soSome (seOp dAdd (sbVar 8) (sbVar 9))))) saNil))) saNil)))
    (ssSeq (ssAsg (seCall φ_letter_at (saCons (sbVar 0) (saCons (sbOf (seOp dAdd (sbVar 8) (sbVar 9))) (saCons (sbVar 4) saNil)))) (sgName 10))
    (ssSeq (ssDrop (seMutV isLst 7 fAppend (saCons (sbOf (seVar 10)) saNil)))
    (ssSeq (ssAugI (fun i j => i + j) 8 (seOp dAdd (sbVar 9) (sbOf (seCB dLen (saCons (sbVar 10) saNil)))))
    (ssSeq (ssIf (stB (seOp dEq (sbVar 8) (sbOf (seCB dLen (saCons (sbVar 0) saNil))))) (ssRet (seTup (saCons (sbOf (seVar 5)) (saCons (sbOf (seVar 6)) (saCons (sbOf (seVar 7)) saNil))))) ssNext)
    (ssSeq (ssAsg (seCall φ_letter_at (saCons (sbVar 0) (saCons (sbVar 8) (saCons (sbVar 3) saNil)))) (sgName 11))
    (ssSeq (ssIf (stOr (stB (seOp dEq (sbVar 11) (sbOf (seC (.str ""))))) (stB (seOp dEq (sbOf (seCB dLen (saCons (sbVar 5) saNil))) (sbVar 1)))) ssNo ssNext)
    (ssSeq (ssDrop (seMutV isLst 6 fAppend (saCons (sbOf (seVar 11)) saNil)))
    (ssAugI (fun i j => i + j) 8 (seC (.int 1))))))))))))) fuel))))))
abbrev φ_cut : Fn := bodyFn 5 12 ss_cut
def ss_Rule_is_rod : SS := (ssRet (seAnd (seCall φ_is_integer (saCons (sbVar 0) saNil)) (seChain dLe dLe (sbOf (seC (.int 1))) (sbVar 0) (sbOf (seC (.int 40))))))
abbrev φ_Rule_is_rod : Fn := bodyFn 1 1 ss_Rule_is_rod
def ss_Rule___init : SS := (ssSeq (ssIf (stNot (stB (seChain dLe dLe (sbOf (seC (.int 1))) (sbOf (seCB dLen (saCons (sbVar 1) saNil))) (sbOf (seC (.int 12)))))) (ssRaise .rods (jsL [seC (.str "a rule has 1 to "), seFmt (seC (.int 12)), seC (.str " rods")] Str.empty)) ssNext)
    (ssSeq (ssIf (stNot (stB (seCB dAll (saCons (sbOf (seLc (siOf (seVar 1)) (sgName 2) (fun g => .ok true g) (seCall φ_Rule_is_rod (saCons (sbVar 2) saNil)) [2])) saNil)))) (ssRaise .rods (jsL [seC (.str "the length of a rod is an integer from 1 to "), seFmt (seC (.int 40))] Str.empty)) ssNext)
    (ssSetF isRule 0 "_rods" (seVar 1))))
abbrev φ_Rule___init : Fn := bodyFn 2 3 ss_Rule___init
def ss_Rule_rods : SS := (ssRet (seCB dList (saCons (sbOf (seFld isRule "_rods" (sbVar 0))) saNil)))
abbrev φ_Rule_rods : Fn := bodyFn 1 1 ss_Rule_rods
def ss_Rule_options : SS := (ssRet seDNew)
abbrev φ_Rule_options : Fn := bodyFn 1 1 ss_Rule_options
def ss_Rule_plain : SS := (ssSeq (ssAsg (seOp dIx (sbOf (seCall φ_cut (saCons (sbVar 1) (saCons (sbOf (seC (.int 12))) (saCons (sbOf (seC (.int 40))) (saCons (sbOf (seC (.str "-"))) (saCons (sbOf (seC (.str ""))) saNil))))))) (sbOf (seC (.int 0)))) (sgName 2))
    (ssRet (seMakeSv .rule φ_Rule___init id 0 (seVar 2))))
abbrev φ_Rule_plain : Fn := bodyFn 2 3 ss_Rule_plain
section
variable {w : WD} {P : Program} {wl : World} {mg : Str → Option Value} {base : Heap}
abbrev st_is_integer : Stmt := top 8
theorem sc_is_integer : FnScope ["thing"] ["thing"] (defScope st_is_integer) := ⟨rfl, rfl, rfl, by decide +kernel, rfl, by decide +kernel, by decide +kernel⟩
theorem def_is_integer {f : Addr} {fd : FuncData} (Fd : Fun w.K "is_integer" "is_integer" st_is_integer f fd) (m_isinstance : mg "isinstance" = none) (m_int : mg "int" = none) (m_bool : mg "bool" = none) : Def P wl mg base w false false 1 f φ_is_integer := by
  refine def_D (ss := ss_is_integer) Fd sc_is_integer (Fd.binds (ps := ["thing"]) fun _ _ _ _ _ _ us hl => match us, hl with | [_], _ => rfl) fun cdv A outer sh H E hgd hrm => ?_
  have fam : Fam P wl mg base w false 0 (fun _ : Unit => cxOf (CXb false P wl) P wl w.K mg base ["thing"] "is_integer" (defScope st_is_integer) f cdv A outer sh H E) := ⟨fun _ => rfl, fun _ => rfl, fun _ => rfl, fun _ => rfl, fun _ => rfl, fun _ => hgd, fun _ => hrm⟩
  exact (dss_one (ds_ret (de_and (de_isiT m_isinstance m_int (by decide +kernel) isi_int (db_var 0)) (de_one (de_not (de_isiT m_isinstance m_bool (by decide +kernel) isi_bool (db_var 0)))))))
abbrev st_letter_at : Stmt := top 22
theorem sc_letter_at : FnScope ["text", "at", "letters"] ["text", "at", "letters"] (defScope st_letter_at) := ⟨rfl, rfl, rfl, by decide +kernel, rfl, by decide +kernel, by decide +kernel⟩
theorem def_letter_at {f : Addr} {fd : FuncData} (Fd : Fun w.K "letter_at" "letter_at" st_letter_at f fd) (m_len : mg "len" = none) : Def P wl mg base w false false 1 f φ_letter_at := by
  refine def_D (ss := ss_letter_at) Fd sc_letter_at (Fd.binds (ps := ["text", "at", "letters"]) fun _ _ _ _ _ _ us hl => match us, hl with | [_, _, _], _ => rfl) fun cdv A outer sh H E hgd hrm => ?_
  have fam : Fam P wl mg base w false 0 (fun _ : Unit => cxOf (CXb false P wl) P wl w.K mg base ["text", "at", "letters"] "letter_at" (defScope st_letter_at) f cdv A outer sh H E) := ⟨fun _ => rfl, fun _ => rfl, fun _ => rfl, fun _ => rfl, fun _ => rfl, fun _ => hgd, fun _ => hrm⟩
  exact (dss_cons (ds_if (dt_of (dw_and (dt_cmp (fun _ => op_ltU) od_cmp (db_var 1) (db_of (de_callB (fun _ => call_len) cd_len (fun _ => m_len) (by decide +kernel) (da_cons (db_var 0) da_nil)))) (dw_and1 (dt_cmp (fun _ => op_inU) od_in (db_of (de_ix (fun _ => ix_seq) od_ix (db_var 0) (db_var 1))) (db_var 2))))) (dss_one (ds_ret (de_ix (fun _ => ix_seq) od_ix (db_var 0) (db_var 1)))) dss_nil)
    (dss_one (ds_ret de_str)))
abbrev st_length_size : Stmt := top 21
theorem sc_length_size : FnScope ["text", "at", "most_length"] ["text", "at", "most_length"] (defScope st_length_size) := ⟨rfl, rfl, rfl, by decide +kernel, rfl, by decide +kernel, by decide +kernel⟩
theorem def_length_size {f : Addr} {fd : FuncData} (Fd : Fun w.K "length_size" "length_size" st_length_size f fd) (g_FIRST_DIGITS : Gcn w mg "FIRST_DIGITS" (.str "123456789")) (c_letter_at : Cal P wl mg base w false false 1 "letter_at" φ_letter_at) (g_DIGITS : Gcn w mg "DIGITS" (.str "0123456789")) (m_int : mg "int" = none) : Def P wl mg base w false false 2 f φ_length_size := by
  refine def_D (ss := ss_length_size) Fd sc_length_size (Fd.binds (ps := ["text", "at", "most_length"]) fun _ _ _ _ _ _ us hl => match us, hl with | [_, _, _], _ => rfl) fun cdv A outer sh H E hgd hrm => ?_
  have fam : Fam P wl mg base w false 1 (fun _ : Unit => cxOf (CXb false P wl) P wl w.K mg base ["text", "at", "most_length"] "length_size" (defScope st_length_size) f cdv A outer sh H E) := ⟨fun _ => rfl, fun _ => rfl, fun _ => rfl, fun _ => rfl, fun _ => rfl, fun _ => hgd, fun _ => hrm⟩
  exact (dss_cons (ds_if (dt_cmp (fun i => op_eqD (Fam.room fam i).units) od_eq (db_of (de_call fam Tk.no c_letter_at (da_cons (db_var 0) (da_cons (db_var 1) (da_cons (db_of (de_gc g_FIRST_DIGITS)) da_nil))))) (db_of de_str)) (dss_one (ds_ret de_int)) dss_nil)
    (dss_cons (ds_if (dt_of (dw_and (dt_cmp (fun i => op_neD (Fam.room fam i).units) od_ne (db_of (de_call fam Tk.no c_letter_at (da_cons (db_var 0) (da_cons (db_of (de_bin (fun _ => op_addU) od_add (db_var 1) (db_of de_int))) (da_cons (db_of (de_gc g_DIGITS)) da_nil))))) (db_of de_str)) (dw_and1 (dt_cmp (fun _ => op_leU) od_cmp (db_of (de_callTy (fun _ => call_intC) cd_intC (fun _ => m_int) (by decide +kernel) (da_cons (db_of (de_sl (db_var 0) (do_some (de_var 1)) (do_some (de_bin (fun _ => op_addU) od_add (db_var 1) (db_of de_int))))) da_nil))) (db_var 2))))) (dss_one (ds_ret de_int)) dss_nil)
    (dss_one (ds_ret de_int))))
abbrev st_cut : Stmt := top 20
theorem sc_cut : FnScope ["text", "most_rods", "most_length", "hinges", "aims", "lengths", "between", "aimed", "at", "size", "aim", "mark"] ["text", "most_rods", "most_length", "hinges", "aims"] (defScope st_cut) := ⟨rfl, rfl, rfl, by decide +kernel, rfl, by decide +kernel, by decide +kernel⟩
theorem def_cut {f : Addr} {fd : FuncData} (Fd : Fun w.K "cut" "cut" st_cut f fd) (m_isinstance : mg "isinstance" = none) (m_str : mg "str" = none) (c_length_size : Cal P wl mg base w false false 2 "length_size" φ_length_size) (m_int : mg "int" = none) (c_letter_at : Cal P wl mg base w false false 1 "letter_at" φ_letter_at) (m_len : mg "len" = none) : Def P wl mg base w false false 3 f φ_cut := by
  refine def_D (ss := ss_cut) Fd sc_cut (Fd.binds (ps := ["text", "most_rods", "most_length", "hinges", "aims"]) fun _ _ _ _ _ _ us hl => match us, hl with | [_, _, _, _, _], _ => rfl) fun cdv A outer sh H E hgd hrm => ?_
  have fam : Fam P wl mg base w false 2 (fun _ : Unit => cxOf (CXb false P wl) P wl w.K mg base ["text", "most_rods", "most_length", "hinges", "aims", "lengths", "between", "aimed", "at", "size", "aim", "mark"] "cut" (defScope st_cut) f cdv A outer sh H E) := ⟨fun _ => rfl, fun _ => rfl, fun _ => rfl, fun _ => rfl, fun _ => rfl, fun _ => hgd, fun _ => hrm⟩
  exact (dss_cons (ds_if (dt_not (dt_val (de_isiT m_isinstance m_str (by decide +kernel) isi_str (db_var 0)))) (dss_one ds_no) dss_nil)
    (dss_cons (ds_set 5 (fun _ => sc_cut.nd) (de_lst da_nil))
    (dss_cons (ds_set 6 (fun _ => sc_cut.nd) (de_lst da_nil))
    (dss_cons (ds_set 7 (fun _ => sc_cut.nd) (de_lst da_nil))
    (dss_cons (ds_set 8 (fun _ => sc_cut.nd) de_int)
    (dss_one (ds_while fuel (fun _ => passes_of rfl) (dt_val de_bl) (dss_cons (ds_set 9 (fun _ => sc_cut.nd) (de_call fam Tk.no c_length_size (da_cons (db_var 0) (da_cons (db_var 8) (da_cons (db_var 2) da_nil)))))
    (dss_cons (ds_if (dt_cmp (fun i => op_eqD (Fam.room fam i).units) od_eq (db_var 9) (db_of de_int)) (dss_one ds_no) dss_nil)
    (dss_cons (ds_expr (de_mutV 5 (fun _ _ _ _ => own_list) PySem.F.plainAttrs_list PySem.F.slot_list_append PySem.F.type_list_append (fun _ => mt_append) mv_append (da_cons (db_of (de_callTy (fun _ => call_intC) cd_intC (fun _ => m_int) (by decide +kernel) (da_cons (db_of (de_sl (db_var 0) (do_some (de_var 8)) (do_some (de_bin (fun _ => op_addU) od_add (db_var 8) (db_var 9))))) da_nil))) da_nil)))
    (dss_cons (ds_set 10 (fun _ => sc_cut.nd) (de_call fam Tk.no c_letter_at (da_cons (db_var 0) (da_cons (db_of (de_bin (fun _ => op_addU) od_add (db_var 8) (db_var 9))) (da_cons (db_var 4) da_nil)))))
    (dss_cons (ds_expr (de_mutV 7 (fun _ _ _ _ => own_list) PySem.F.plainAttrs_list PySem.F.slot_list_append PySem.F.type_list_append (fun _ => mt_append) mv_append (da_cons (db_of (de_var 10)) da_nil)))
    (dss_cons (ds_augI 8 (fun _ => ip_add) (fun _ => sc_cut.nd) (de_bin (fun _ => op_addU) od_add (db_var 9) (db_of (de_callB (fun _ => call_len) cd_len (fun _ => m_len) (by decide +kernel) (da_cons (db_var 10) da_nil)))))
    (dss_cons (ds_if (dt_cmp (fun i => op_eqD (Fam.room fam i).units) od_eq (db_var 8) (db_of (de_callB (fun _ => call_len) cd_len (fun _ => m_len) (by decide +kernel) (da_cons (db_var 0) da_nil)))) (dss_one (ds_ret (de_tup (da_cons (db_of (de_var 5)) (da_cons (db_of (de_var 6)) (da_cons (db_of (de_var 7)) da_nil)))))) dss_nil)
    (dss_cons (ds_set 11 (fun _ => sc_cut.nd) (de_call fam Tk.no c_letter_at (da_cons (db_var 0) (da_cons (db_var 8) (da_cons (db_var 3) da_nil)))))
    (dss_cons (ds_if (dt_of (dw_or (dt_cmp (fun i => op_eqD (Fam.room fam i).units) od_eq (db_var 11) (db_of de_str)) (dw_or1 (dt_cmp (fun i => op_eqD (Fam.room fam i).units) od_eq (db_of (de_callB (fun _ => call_len) cd_len (fun _ => m_len) (by decide +kernel) (da_cons (db_var 5) da_nil))) (db_var 1))))) (dss_one ds_no) dss_nil)
    (dss_cons (ds_expr (de_mutV 6 (fun _ _ _ _ => own_list) PySem.F.plainAttrs_list PySem.F.slot_list_append PySem.F.type_list_append (fun _ => mt_append) mv_append (da_cons (db_of (de_var 11)) da_nil)))
    (dss_one (ds_augI 8 (fun _ => ip_add) (fun _ => sc_cut.nd) de_int)))))))))))))))))))
abbrev st_Rule_is_rod : Stmt := inClass (top 25) 7
theorem sc_Rule_is_rod : FnScope ["thing"] ["thing"] (defScope st_Rule_is_rod) := ⟨rfl, rfl, rfl, by decide +kernel, rfl, by decide +kernel, by decide +kernel⟩
theorem def_Rule_is_rod {f : Addr} {fd : FuncData} (Fd : Fun w.K "is_rod" "Rule.is_rod" st_Rule_is_rod f fd) (c_is_integer : Cal P wl mg base w false false 1 "is_integer" φ_is_integer) (v_Rule_MOST_LENGTH : CVl w mg "Rule" .rule "MOST_LENGTH" (.int 40)) : Def P wl mg base w false false 2 f φ_Rule_is_rod := by
  refine def_D (ss := ss_Rule_is_rod) Fd sc_Rule_is_rod (Fd.binds (ps := ["thing"]) fun _ _ _ _ _ _ us hl => match us, hl with | [_], _ => rfl) fun cdv A outer sh H E hgd hrm => ?_
  have fam : Fam P wl mg base w false 1 (fun _ : Unit => cxOf (CXb false P wl) P wl w.K mg base ["thing"] "Rule.is_rod" (defScope st_Rule_is_rod) f cdv A outer sh H E) := ⟨fun _ => rfl, fun _ => rfl, fun _ => rfl, fun _ => rfl, fun _ => rfl, fun _ => hgd, fun _ => hrm⟩
  exact (dss_one (ds_ret (de_and (de_call fam Tk.no c_is_integer (da_cons (db_var 0) da_nil)) (de_one (de_chain (fun _ => op_leU) od_cmp dCmp_bool (fun _ => op_leU) od_cmp (db_of de_int) (db_var 0) (db_of (de_cval v_Rule_MOST_LENGTH)))))))
abbrev st_Rule___init : Stmt := inClass (top 25) 2
theorem sc_Rule___init : FnScope ["self", "rods", "rod"] ["self", "rods"] (defScope st_Rule___init) := ⟨rfl, rfl, rfl, by decide +kernel, rfl, by decide +kernel, by decide +kernel⟩
theorem body_Rule___init {f : Addr} (m_len : mg "len" = none) (v_Rule_MOST_RODS : CVl w mg "Rule" .rule "MOST_RODS" (.int 12)) (x_RodsError : ExnF w mg "RodsError" .rods) (s_Rule_is_rod : Stc P wl mg base w false 2 "Rule" "is_rod" .rule φ_Rule_is_rod) (m_all : mg "all" = none) (v_Rule_MOST_LENGTH : CVl w mg "Rule" .rule "MOST_LENGTH" (.int 40)) (a_rods : NoA w isRule "_rods") (cdv : Value) (A : Around) (outer : List Env) (sh : Shared) (H : Hp) (E : XK) (hrm : Room 2 (A.deeper (envOfC "Rule.__init__" (defScope st_Rule___init) sh.heap.objs.size f cdv))) :
    DSs (fun _ : Unit => cxOf (CXb true P wl) P wl w.K mg base ["self", "rods", "rod"] "Rule.__init__" (defScope st_Rule___init) f cdv A outer sh H E) w (fun cls d _ H => E cls d H) (defBody st_Rule___init) ss_Rule___init := by
  have fam : Fam P wl mg base w false 2 (fun _ : Unit => cxOf (CXb true P wl) P wl w.K mg base ["self", "rods", "rod"] "Rule.__init__" (defScope st_Rule___init) f cdv A outer sh H E) := ⟨fun _ => rfl, fun _ => rfl, fun _ => rfl, fun _ => rfl, fun _ => rfl, fun _ => (fun z => nomatch z), fun _ => hrm⟩
  exact (dss_cons (ds_if (dt_not (dt_chain (fun _ => op_leU) od_cmp dCmp_bool (fun _ => op_leU) od_cmp (db_of de_int) (db_of (de_callB (fun _ => call_len) cd_len (fun _ => m_len) (by decide +kernel) (da_cons (db_var 1) da_nil))) (db_of (de_cval v_Rule_MOST_RODS)))) (dss_one (ds_raise x_RodsError (fun _ => takes_of rfl rfl rfl rfl) (de_js (dj_str (dj_fmt (de_cval v_Rule_MOST_RODS) (dj_str dj_nil)))))) dss_nil)
    (dss_cons (ds_if (dt_not (dt_val (de_callB (fun _ => cr_all rfl) cd_all (fun _ => m_all) (by decide +kernel) (da_cons (db_of (de_lc [("rod", 2)] (fun _ => sc_Rule___init.nd) (fun _ => blkOk_by (N := ["self", "rods", "rod"]) (sc := defScope st_Rule___init) (by decide +kernel)) (di_U (de_var 1)) (dg_name (vs := [2]) 2 (by decide) (fun _ => sc_Rule___init.nd)) dts_nil (de_scall (Fam.blk fam _) s_Rule_is_rod (da_cons (db_var 2) da_nil)))) da_nil)))) (dss_one (ds_raise x_RodsError (fun _ => takes_of rfl rfl rfl rfl) (de_js (dj_str (dj_fmt (de_cval v_Rule_MOST_LENGTH) dj_nil))))) dss_nil)
    (dss_one (ds_setF 0 a_rods (de_var 1)))))
abbrev st_Rule_rods : Stmt := inClass (top 25) 3
theorem sc_Rule_rods : FnScope ["self"] ["self"] (defScope st_Rule_rods) := ⟨rfl, rfl, rfl, by decide +kernel, rfl, by decide +kernel, by decide +kernel⟩
theorem def_Rule_rods {f : Addr} {fd : FuncData} (Fd : Fun w.K "rods" "Rule.rods" st_Rule_rods f fd) (a_rods : NoA w isRule "_rods") (m_list : mg "list" = none) : Def P wl mg base w false false 1 f φ_Rule_rods := by
  refine def_D (ss := ss_Rule_rods) Fd sc_Rule_rods (Fd.binds (ps := ["self"]) fun _ _ _ _ _ _ us hl => match us, hl with | [_], _ => rfl) fun cdv A outer sh H E hgd hrm => ?_
  have fam : Fam P wl mg base w false 0 (fun _ : Unit => cxOf (CXb false P wl) P wl w.K mg base ["self"] "Rule.rods" (defScope st_Rule_rods) f cdv A outer sh H E) := ⟨fun _ => rfl, fun _ => rfl, fun _ => rfl, fun _ => rfl, fun _ => rfl, fun _ => hgd, fun _ => hrm⟩
  exact (dss_one (ds_ret (de_callTy (fun _ => call_list_of) cd_list (fun _ => m_list) (by decide +kernel) (da_cons (db_of (de_fld a_rods (db_var 0))) da_nil))))
abbrev st_Rule_options : Stmt := inClass (top 25) 6
theorem sc_Rule_options : FnScope ["self"] ["self"] (defScope st_Rule_options) := ⟨rfl, rfl, rfl, by decide +kernel, rfl, by decide +kernel, by decide +kernel⟩
theorem def_Rule_options {f : Addr} {fd : FuncData} (Fd : Fun w.K "options" "Rule.options" st_Rule_options f fd) : Def P wl mg base w false false 1 f φ_Rule_options := by
  refine def_D (ss := ss_Rule_options) Fd sc_Rule_options (Fd.binds (ps := ["self"]) fun _ _ _ _ _ _ us hl => match us, hl with | [_], _ => rfl) fun cdv A outer sh H E hgd hrm => ?_
  have fam : Fam P wl mg base w false 0 (fun _ : Unit => cxOf (CXb false P wl) P wl w.K mg base ["self"] "Rule.options" (defScope st_Rule_options) f cdv A outer sh H E) := ⟨fun _ => rfl, fun _ => rfl, fun _ => rfl, fun _ => rfl, fun _ => rfl, fun _ => hgd, fun _ => hrm⟩
  exact (dss_one (ds_ret de_dnew))
abbrev st_Rule_plain : Stmt := inClass (top 25) 8
theorem sc_Rule_plain : FnScope ["cls", "text", "rods"] ["cls", "text"] (defScope st_Rule_plain) := ⟨rfl, rfl, rfl, by decide +kernel, rfl, by decide +kernel, by decide +kernel⟩
theorem def_Rule_plain {f : Addr} {fd : FuncData} (Fd : Fun w.K "plain" "Rule.plain" st_Rule_plain f fd) (g_NO_AIMS : Gcn w mg "NO_AIMS" (.str "")) (g_FREE : Gcn w mg "FREE" (.str "-")) (v_Rule_MOST_LENGTH : CVl w mg "Rule" .rule "MOST_LENGTH" (.int 40)) (v_Rule_MOST_RODS : CVl w mg "Rule" .rule "MOST_RODS" (.int 12)) (c_cut : Cal P wl mg base w false false 3 "cut" φ_cut) (k_Rule_ : Mak P wl mg base w true 3 .rule [] φ_Rule___init id) : Def P wl mg base w false true 5 f φ_Rule_plain := by
  refine def_D (ss := ss_Rule_plain) Fd sc_Rule_plain (Fd.binds (ps := ["cls", "text"]) fun _ _ _ _ _ _ us hl => match us, hl with | [_, _], _ => rfl) fun cdv A outer sh H E hgd hrm => ?_
  have fam : Fam P wl mg base w false 4 (fun _ : Unit => cxOf (CXb true P wl) P wl w.K mg base ["cls", "text", "rods"] "Rule.plain" (defScope st_Rule_plain) f cdv A outer sh H E) := ⟨fun _ => rfl, fun _ => rfl, fun _ => rfl, fun _ => rfl, fun _ => rfl, fun _ => hgd, fun _ => hrm⟩
  exact (dss_cons (ds_set 2 (fun _ => sc_Rule_plain.nd) (de_ix (fun _ => ix_seq) od_ix (db_of (de_call fam Tk.no c_cut (da_cons (db_var 1) (da_cons (db_of (de_cval v_Rule_MOST_RODS)) (da_cons (db_of (de_cval v_Rule_MOST_LENGTH)) (da_cons (db_of (de_gc g_FREE)) (da_cons (db_of (de_gc g_NO_AIMS)) da_nil))))))) (db_of de_int)))
    (dss_one (ds_ret (de_makeSv 0 fam (Tk.of (fun _ => takes_of rfl rfl rfl rfl)) k_Rule_ (de_var 2)))))
theorem init_Rule___init_ {f : Addr} {fd : FuncData} {kws : List (Str × V)} (Fd : FunD w.K "__init__" "Rule.__init__" (defArgs st_Rule___init) (defBody st_Rule___init) (defScope st_Rule___init) [] kws f fd) (m_len : mg "len" = none) (v_Rule_MOST_RODS : CVl w mg "Rule" .rule "MOST_RODS" (.int 12)) (x_RodsError : ExnF w mg "RodsError" .rods) (s_Rule_is_rod : Stc P wl mg base w false 2 "Rule" "is_rod" .rule φ_Rule_is_rod) (m_all : mg "all" = none) (v_Rule_MOST_LENGTH : CVl w mg "Rule" .rule "MOST_LENGTH" (.int 40)) (a_rods : NoA w isRule "_rods") :
    R7.FnK P wl w.K mg base (CXb true P wl) 3 f [] (spStar w φ_Rule___init id) := by
  refine init_D (bx := true) (N := ["self", "rods", "rod"]) (k := 2) (p1 := "self") (pv := "rods") (opts := []) (ks := []) (ss := ss_Rule___init) (g := id) (gV := id) Fd sc_Rule___init (fun r l => r) (fun zs l => l) (fun kV doc pm an cdv ct M A Q Ex sh a rest ws hK X l h => ?_) fun cdv A outer sh H E hrm => body_Rule___init m_len v_Rule_MOST_RODS x_RodsError s_Rule_is_rod m_all v_Rule_MOST_LENGTH a_rods cdv A outer sh H E hrm
  obtain rfl : ws = [] := List.eq_nil_of_length_eq_zero l
  exact R7.bind_starK (B := fun a rest => bindArgs (PySem.W.fnOf "__init__" "Rule.__init__" (defArgs st_Rule___init) (defBody st_Rule___init) (defScope st_Rule___init) .none kV doc pm an cdv ct) ⟨a :: rest, List.zip [] []⟩) (G := fun a t => List.zip (["self"] : List Str) (a :: id []) ++ [(("rods" : Str), t)]) (fun a => rfl) (fun a r rs => rfl) a rest h
end
end M7
set_option maxHeartbeats 400000
namespace M7
open PySem PySem.Spec PyProof.Rows L2
def ss_check_option : SS := (ssSeq (ssIf (stNot (stB (seIsi tTuple (sbVar 0)))) (ssRaise .lock (seC (.str "an option is a tuple"))) ssNext)
    (ssSeq (ssIf (stNot (stB (seCB dAll (saCons (sbOf (seLc (siOf (seVar 0)) (sgName 2) (fun g => .ok true g) (seAnd (seCall φ_is_integer (saCons (sbVar 2) saNil)) (seChain dLe dLe (sbOf (seC (.int 1))) (sbVar 2) (sbVar 1))) [2])) saNil)))) (ssRaise .lock (jsL [seC (.str "the numbers of this option are integers from 1 to "), seFmt (seVar 1)] Str.empty)) ssNext)
    (ssIf (stB (seOp dNe (sbOf (seLenSet (sbVar 0))) (sbOf (seCB dLen (saCons (sbVar 0) saNil))))) (ssRaise .lock (seC (.str "the numbers of an option are different ones"))) ssNext)))
abbrev φ_check_option : Fn := bodyFn 2 3 ss_check_option
def ss_option_pair : SS := (ssSeq (ssDrop (seCall φ_check_option (saCons (sbVar 0) (saCons (sbVar 2) saNil))))
    (ssSeq (ssDrop (seCall φ_check_option (saCons (sbVar 1) (saCons (sbVar 2) saNil))))
    (ssSeq (ssIf (stB (seCB dAny (saCons (sbOf (seLc (siOf (seVar 0)) (sgName 3) (fun g => .ok true g) (seOp (dIn false) (sbVar 3) (sbVar 1)) [3])) saNil))) (ssRaise .lock (seC (.str "a number is in two options that exclude each other"))) ssNext)
    (ssRet (seTup (saCons (sbOf (seCB dTuple (saCons (sbOf (seCB dSorted (saCons (sbVar 0) saNil))) saNil))) (saCons (sbOf (seCB dTuple (saCons (sbOf (seCB dSorted (saCons (sbVar 1) saNil))) saNil))) saNil)))))))
abbrev φ_option_pair : Fn := bodyFn 3 4 ss_option_pair
def ss_Held___init : SS := (ssSeq (ssDrop (seClsS φ_Rule___init 0 id (sbVar 0) (seVar 3) saNil))
    (ssAsg (seCall φ_option_pair (saCons (sbVar 1) (saCons (sbVar 2) (saCons (sbOf (seOp dSub (sbOf (seCB dLen (saCons (sbVar 3) saNil))) (sbOf (seC (.int 1))))) saNil)))) (sgTup 2 (sgCons (sgFld isRule 0 "_straight") (sgCons (sgFld isRule 0 "_folded") sgNil)))))
abbrev φ_Held___init : Fn := bodyFn 4 4 ss_Held___init
def ss_Held_options : SS := (ssRet (seDisp [.inr "straight", .inr "folded"] (saCons (sbOf (seFld isRule "_straight" (sbVar 0))) (saCons (sbOf (seFld isRule "_folded" (sbVar 0))) saNil))))
abbrev φ_Held_options : Fn := bodyFn 1 1 ss_Held_options
def ss_Aimed___init : SS := (ssSeq (ssDrop (seClsS φ_Rule___init 0 id (sbVar 0) (seVar 3) saNil))
    (ssAsg (seCall φ_option_pair (saCons (sbVar 1) (saCons (sbVar 2) (saCons (sbOf (seCB dLen (saCons (sbVar 3) saNil))) saNil)))) (sgTup 2 (sgCons (sgFld isRule 0 "_right") (sgCons (sgFld isRule 0 "_left") sgNil)))))
abbrev φ_Aimed___init : Fn := bodyFn 4 4 ss_Aimed___init
def ss_Aimed_options : SS := (ssRet (seDisp [.inr "right", .inr "left"] (saCons (sbOf (seFld isRule "_right" (sbVar 0))) (saCons (sbOf (seFld isRule "_left" (sbVar 0))) saNil))))
abbrev φ_Aimed_options : Fn := bodyFn 1 1 ss_Aimed_options
def ss_Bound___init : SS := (ssSeq (ssDrop (seClsS φ_Held___init 2 id (sbVar 0) (seVar 5) (saCons (sbOf (seVar 1)) (saCons (sbOf (seVar 2)) saNil))))
    (ssDrop (seClsS φ_Aimed___init 2 id (sbVar 0) (seVar 5) (saCons (sbOf (seVar 3)) (saCons (sbOf (seVar 4)) saNil)))))
abbrev φ_Bound___init : Fn := bodyFn 6 6 ss_Bound___init
def ss_Bound_options : SS := (ssRet (seDisp [.inr "straight", .inr "folded", .inr "right", .inr "left"] (saCons (sbOf (seFld isRule "_straight" (sbVar 0))) (saCons (sbOf (seFld isRule "_folded" (sbVar 0))) (saCons (sbOf (seFld isRule "_right" (sbVar 0))) (saCons (sbOf (seFld isRule "_left" (sbVar 0))) saNil))))))
abbrev φ_Bound_options : Fn := bodyFn 1 1 ss_Bound_options
section
variable {w : WD} {P : Program} {wl : World} {mg : Str → Option Value} {base : Heap}
abbrev st_check_option : Stmt := top 33
theorem sc_check_option : FnScope ["thing", "most", "k"] ["thing", "most"] (defScope st_check_option) := ⟨rfl, rfl, rfl, by decide +kernel, rfl, by decide +kernel, by decide +kernel⟩
theorem def_check_option {f : Addr} {fd : FuncData} (Fd : Fun w.K "check_option" "check_option" st_check_option f fd) (m_isinstance : mg "isinstance" = none) (m_tuple : mg "tuple" = none) (x_LockError : ExnF w mg "LockError" .lock) (c_is_integer : Cal P wl mg base w false false 1 "is_integer" φ_is_integer) (m_all : mg "all" = none) (m_len : mg "len" = none) (m_set : mg "set" = none) : Def P wl mg base w false true 2 f φ_check_option := by
  refine def_D (ss := ss_check_option) Fd sc_check_option (Fd.binds (ps := ["thing", "most"]) fun _ _ _ _ _ _ us hl => match us, hl with | [_, _], _ => rfl) fun cdv A outer sh H E hgd hrm => ?_
  have fam : Fam P wl mg base w false 1 (fun _ : Unit => cxOf (CXb true P wl) P wl w.K mg base ["thing", "most", "k"] "check_option" (defScope st_check_option) f cdv A outer sh H E) := ⟨fun _ => rfl, fun _ => rfl, fun _ => rfl, fun _ => rfl, fun _ => rfl, fun _ => hgd, fun _ => hrm⟩
  exact (dss_cons (ds_if (dt_not (dt_val (de_isiT m_isinstance m_tuple (by decide +kernel) isi_tuple (db_var 0)))) (dss_one (ds_raise x_LockError (fun _ => takes_of rfl rfl rfl rfl) de_str)) dss_nil)
    (dss_cons (ds_if (dt_not (dt_val (de_callB (fun _ => cr_all rfl) cd_all (fun _ => m_all) (by decide +kernel) (da_cons (db_of (de_lc [("k", 2)] (fun _ => sc_check_option.nd) (fun _ => blkOk_by (N := ["thing", "most", "k"]) (sc := defScope st_check_option) (by decide +kernel)) (di_U (de_var 0)) (dg_name (vs := [2]) 2 (by decide) (fun _ => sc_check_option.nd)) dts_nil (de_and (de_call (Fam.blk fam _) Tk.no c_is_integer (da_cons (db_var 2) da_nil)) (de_one (de_chain (fun _ => op_leU) od_cmp dCmp_bool (fun _ => op_leU) od_cmp (db_of de_int) (db_var 2) (db_var 1)))))) da_nil)))) (dss_one (ds_raise x_LockError (fun _ => takes_of rfl rfl rfl rfl) (de_js (dj_str (dj_fmt (de_var 1) dj_nil))))) dss_nil)
    (dss_one (ds_if (dt_cmp (fun i => op_neD (Fam.room fam i).units) od_ne (db_of (de_lenSet (fun _ => m_len) (fun _ => m_set) (db_var 0))) (db_of (de_callB (fun _ => call_len) cd_len (fun _ => m_len) (by decide +kernel) (da_cons (db_var 0) da_nil)))) (dss_one (ds_raise x_LockError (fun _ => takes_of rfl rfl rfl rfl) de_str)) dss_nil))))
abbrev st_option_pair : Stmt := top 32
theorem sc_option_pair : FnScope ["one", "other", "most", "k"] ["one", "other", "most"] (defScope st_option_pair) := ⟨rfl, rfl, rfl, by decide +kernel, rfl, by decide +kernel, by decide +kernel⟩
theorem def_option_pair {f : Addr} {fd : FuncData} (Fd : Fun w.K "option_pair" "option_pair" st_option_pair f fd) (c_check_option : Cal P wl mg base w false true 2 "check_option" φ_check_option) (m_any : mg "any" = none) (x_LockError : ExnF w mg "LockError" .lock) (m_sorted : mg "sorted" = none) (m_tuple : mg "tuple" = none) : Def P wl mg base w false true 3 f φ_option_pair := by
  refine def_D (ss := ss_option_pair) Fd sc_option_pair (Fd.binds (ps := ["one", "other", "most"]) fun _ _ _ _ _ _ us hl => match us, hl with | [_, _, _], _ => rfl) fun cdv A outer sh H E hgd hrm => ?_
  have fam : Fam P wl mg base w false 2 (fun _ : Unit => cxOf (CXb true P wl) P wl w.K mg base ["one", "other", "most", "k"] "option_pair" (defScope st_option_pair) f cdv A outer sh H E) := ⟨fun _ => rfl, fun _ => rfl, fun _ => rfl, fun _ => rfl, fun _ => rfl, fun _ => hgd, fun _ => hrm⟩
  exact (dss_cons (ds_expr (de_call fam (Tk.of (fun _ => takes_of rfl rfl rfl rfl)) c_check_option (da_cons (db_var 0) (da_cons (db_var 2) da_nil))))
    (dss_cons (ds_expr (de_call fam (Tk.of (fun _ => takes_of rfl rfl rfl rfl)) c_check_option (da_cons (db_var 1) (da_cons (db_var 2) da_nil))))
    (dss_cons (ds_if (dt_val (de_callB (fun _ => cr_any rfl) cd_any (fun _ => m_any) (by decide +kernel) (da_cons (db_of (de_lc [("k", 3)] (fun _ => sc_option_pair.nd) (fun _ => blkOk_by (N := ["one", "other", "most", "k"]) (sc := defScope st_option_pair) (by decide +kernel)) (di_U (de_var 0)) (dg_name (vs := [3]) 3 (by decide) (fun _ => sc_option_pair.nd)) dts_nil (de_cmp (fun _ => op_inU) od_in (db_var 3) (db_var 1)))) da_nil))) (dss_one (ds_raise x_LockError (fun _ => takes_of rfl rfl rfl rfl) de_str)) dss_nil)
    (dss_one (ds_ret (de_tup (da_cons (db_of (de_callTy (fun _ => call_tuple_of) cd_tuple (fun _ => m_tuple) (by decide +kernel) (da_cons (db_of (de_callB (fun _ => CallRor L2.cr_sortedI R7.cr_sortedIT) cd_sorted (fun _ => m_sorted) (by decide +kernel) (da_cons (db_var 0) da_nil))) da_nil))) (da_cons (db_of (de_callTy (fun _ => call_tuple_of) cd_tuple (fun _ => m_tuple) (by decide +kernel) (da_cons (db_of (de_callB (fun _ => CallRor L2.cr_sortedI R7.cr_sortedIT) cd_sorted (fun _ => m_sorted) (by decide +kernel) (da_cons (db_var 1) da_nil))) da_nil))) da_nil))))))))
abbrev st_Held___init : Stmt := inClass (top 26) 0
theorem sc_Held___init : FnScope ["self", "straight", "folded", "rods"] ["self", "straight", "folded", "rods"] (defScope st_Held___init) := ⟨rfl, rfl, rfl, by decide +kernel, rfl, by decide +kernel, by decide +kernel⟩
theorem body_Held___init {f : Addr} (b_Rule_ : Bas P wl mg base w true 3 .rule "__init__" [] φ_Rule___init id) (gm_Rule : mg "Rule" = some (.ref (w.cls .rule))) (m_len : mg "len" = none) (c_option_pair : Cal P wl mg base w false true 3 "option_pair" φ_option_pair) (a_folded : NoA w isRule "_folded") (a_straight : NoA w isRule "_straight") (cdv : Value) (A : Around) (outer : List Env) (sh : Shared) (H : Hp) (E : XK) (hrm : Room 3 (A.deeper (envOfC "Held.__init__" (defScope st_Held___init) sh.heap.objs.size f cdv))) :
    DSs (fun _ : Unit => cxOf (CXb true P wl) P wl w.K mg base ["self", "straight", "folded", "rods"] "Held.__init__" (defScope st_Held___init) f cdv A outer sh H E) w (fun cls d _ H => E cls d H) (defBody st_Held___init) ss_Held___init := by
  have fam : Fam P wl mg base w false 3 (fun _ : Unit => cxOf (CXb true P wl) P wl w.K mg base ["self", "straight", "folded", "rods"] "Held.__init__" (defScope st_Held___init) f cdv A outer sh H E) := ⟨fun _ => rfl, fun _ => rfl, fun _ => rfl, fun _ => rfl, fun _ => rfl, fun _ => (fun z => nomatch z), fun _ => hrm⟩
  exact (dss_cons (ds_expr (de_clsS fam (Tk.of (fun _ => takes_of rfl rfl rfl rfl)) b_Rule_ gm_Rule (db_var 0) (de_var 3) dk_nil))
    (dss_one (ds_asg (de_call fam (Tk.of (fun _ => takes_of rfl rfl rfl rfl)) c_option_pair (da_cons (db_var 1) (da_cons (db_var 2) (da_cons (db_of (de_bin (fun _ => op_sub) od_sub (db_of (de_callB (fun _ => call_len) cd_len (fun _ => m_len) (by decide +kernel) (da_cons (db_var 3) da_nil))) (db_of de_int))) da_nil)))) (dg_tup (vs := []) (dgs_consF 0 a_straight (dgs_consF 0 a_folded dgs_nil))))))
abbrev st_Held_options : Stmt := inClass (top 26) 2
theorem sc_Held_options : FnScope ["self"] ["self"] (defScope st_Held_options) := ⟨rfl, rfl, rfl, by decide +kernel, rfl, by decide +kernel, by decide +kernel⟩
theorem def_Held_options {f : Addr} {fd : FuncData} (Fd : Fun w.K "options" "Held.options" st_Held_options f fd) (a_folded : NoA w isRule "_folded") (a_straight : NoA w isRule "_straight") : Def P wl mg base w false false 1 f φ_Held_options := by
  refine def_D (ss := ss_Held_options) Fd sc_Held_options (Fd.binds (ps := ["self"]) fun _ _ _ _ _ _ us hl => match us, hl with | [_], _ => rfl) fun cdv A outer sh H E hgd hrm => ?_
  have fam : Fam P wl mg base w false 0 (fun _ : Unit => cxOf (CXb false P wl) P wl w.K mg base ["self"] "Held.options" (defScope st_Held_options) f cdv A outer sh H E) := ⟨fun _ => rfl, fun _ => rfl, fun _ => rfl, fun _ => rfl, fun _ => rfl, fun _ => hgd, fun _ => hrm⟩
  exact (dss_one (ds_ret (de_disp (dp_str (db_of (de_fld a_straight (db_var 0))) (dp_str (db_of (de_fld a_folded (db_var 0))) dp_nil)))))
abbrev st_Aimed___init : Stmt := inClass (top 27) 0
theorem sc_Aimed___init : FnScope ["self", "right", "left", "rods"] ["self", "right", "left", "rods"] (defScope st_Aimed___init) := ⟨rfl, rfl, rfl, by decide +kernel, rfl, by decide +kernel, by decide +kernel⟩
theorem body_Aimed___init {f : Addr} (b_Rule_ : Bas P wl mg base w true 3 .rule "__init__" [] φ_Rule___init id) (gm_Rule : mg "Rule" = some (.ref (w.cls .rule))) (m_len : mg "len" = none) (c_option_pair : Cal P wl mg base w false true 3 "option_pair" φ_option_pair) (a_left : NoA w isRule "_left") (a_right : NoA w isRule "_right") (cdv : Value) (A : Around) (outer : List Env) (sh : Shared) (H : Hp) (E : XK) (hrm : Room 3 (A.deeper (envOfC "Aimed.__init__" (defScope st_Aimed___init) sh.heap.objs.size f cdv))) :
    DSs (fun _ : Unit => cxOf (CXb true P wl) P wl w.K mg base ["self", "right", "left", "rods"] "Aimed.__init__" (defScope st_Aimed___init) f cdv A outer sh H E) w (fun cls d _ H => E cls d H) (defBody st_Aimed___init) ss_Aimed___init := by
  have fam : Fam P wl mg base w false 3 (fun _ : Unit => cxOf (CXb true P wl) P wl w.K mg base ["self", "right", "left", "rods"] "Aimed.__init__" (defScope st_Aimed___init) f cdv A outer sh H E) := ⟨fun _ => rfl, fun _ => rfl, fun _ => rfl, fun _ => rfl, fun _ => rfl, fun _ => (fun z => nomatch z), fun _ => hrm⟩
  exact (dss_cons (ds_expr (de_clsS fam (Tk.of (fun _ => takes_of rfl rfl rfl rfl)) b_Rule_ gm_Rule (db_var 0) (de_var 3) dk_nil))
    (dss_one (ds_asg (de_call fam (Tk.of (fun _ => takes_of rfl rfl rfl rfl)) c_option_pair (da_cons (db_var 1) (da_cons (db_var 2) (da_cons (db_of (de_callB (fun _ => call_len) cd_len (fun _ => m_len) (by decide +kernel) (da_cons (db_var 3) da_nil))) da_nil)))) (dg_tup (vs := []) (dgs_consF 0 a_right (dgs_consF 0 a_left dgs_nil))))))
abbrev st_Aimed_options : Stmt := inClass (top 27) 2
theorem sc_Aimed_options : FnScope ["self"] ["self"] (defScope st_Aimed_options) := ⟨rfl, rfl, rfl, by decide +kernel, rfl, by decide +kernel, by decide +kernel⟩
theorem def_Aimed_options {f : Addr} {fd : FuncData} (Fd : Fun w.K "options" "Aimed.options" st_Aimed_options f fd) (a_left : NoA w isRule "_left") (a_right : NoA w isRule "_right") : Def P wl mg base w false false 1 f φ_Aimed_options := by
  refine def_D (ss := ss_Aimed_options) Fd sc_Aimed_options (Fd.binds (ps := ["self"]) fun _ _ _ _ _ _ us hl => match us, hl with | [_], _ => rfl) fun cdv A outer sh H E hgd hrm => ?_
  have fam : Fam P wl mg base w false 0 (fun _ : Unit => cxOf (CXb false P wl) P wl w.K mg base ["self"] "Aimed.options" (defScope st_Aimed_options) f cdv A outer sh H E) := ⟨fun _ => rfl, fun _ => rfl, fun _ => rfl, fun _ => rfl, fun _ => rfl, fun _ => hgd, fun _ => hrm⟩
  exact (dss_one (ds_ret (de_disp (dp_str (db_of (de_fld a_right (db_var 0))) (dp_str (db_of (de_fld a_left (db_var 0))) dp_nil)))))
abbrev st_Bound___init : Stmt := inClass (top 28) 0
theorem sc_Bound___init : FnScope ["self", "straight", "folded", "right", "left", "rods"] ["self", "straight", "folded", "right", "left", "rods"] (defScope st_Bound___init) := ⟨rfl, rfl, rfl, by decide +kernel, rfl, by decide +kernel, by decide +kernel⟩
theorem body_Bound___init {f : Addr} (b_Held_straight_folded : Bas P wl mg base w true 4 .held "__init__" ["straight", "folded"] φ_Held___init id) (gm_Held : mg "Held" = some (.ref (w.cls .held))) (b_Aimed_right_left : Bas P wl mg base w true 4 .aimed "__init__" ["right", "left"] φ_Aimed___init id) (gm_Aimed : mg "Aimed" = some (.ref (w.cls .aimed))) (cdv : Value) (A : Around) (outer : List Env) (sh : Shared) (H : Hp) (E : XK) (hrm : Room 4 (A.deeper (envOfC "Bound.__init__" (defScope st_Bound___init) sh.heap.objs.size f cdv))) :
    DSs (fun _ : Unit => cxOf (CXb true P wl) P wl w.K mg base ["self", "straight", "folded", "right", "left", "rods"] "Bound.__init__" (defScope st_Bound___init) f cdv A outer sh H E) w (fun cls d _ H => E cls d H) (defBody st_Bound___init) ss_Bound___init := by
  have fam : Fam P wl mg base w false 4 (fun _ : Unit => cxOf (CXb true P wl) P wl w.K mg base ["self", "straight", "folded", "right", "left", "rods"] "Bound.__init__" (defScope st_Bound___init) f cdv A outer sh H E) := ⟨fun _ => rfl, fun _ => rfl, fun _ => rfl, fun _ => rfl, fun _ => rfl, fun _ => (fun z => nomatch z), fun _ => hrm⟩
  exact (dss_cons (ds_expr (de_clsS fam (Tk.of (fun _ => takes_of rfl rfl rfl rfl)) b_Held_straight_folded gm_Held (db_var 0) (de_var 5) (dk_cons (db_of (de_var 1)) (dk_cons (db_of (de_var 2)) dk_nil))))
    (dss_one (ds_expr (de_clsS fam (Tk.of (fun _ => takes_of rfl rfl rfl rfl)) b_Aimed_right_left gm_Aimed (db_var 0) (de_var 5) (dk_cons (db_of (de_var 3)) (dk_cons (db_of (de_var 4)) dk_nil))))))
abbrev st_Bound_options : Stmt := inClass (top 28) 1
theorem sc_Bound_options : FnScope ["self"] ["self"] (defScope st_Bound_options) := ⟨rfl, rfl, rfl, by decide +kernel, rfl, by decide +kernel, by decide +kernel⟩
theorem def_Bound_options {f : Addr} {fd : FuncData} (Fd : Fun w.K "options" "Bound.options" st_Bound_options f fd) (a_left : NoA w isRule "_left") (a_right : NoA w isRule "_right") (a_folded : NoA w isRule "_folded") (a_straight : NoA w isRule "_straight") : Def P wl mg base w false false 1 f φ_Bound_options := by
  refine def_D (ss := ss_Bound_options) Fd sc_Bound_options (Fd.binds (ps := ["self"]) fun _ _ _ _ _ _ us hl => match us, hl with | [_], _ => rfl) fun cdv A outer sh H E hgd hrm => ?_
  have fam : Fam P wl mg base w false 0 (fun _ : Unit => cxOf (CXb false P wl) P wl w.K mg base ["self"] "Bound.options" (defScope st_Bound_options) f cdv A outer sh H E) := ⟨fun _ => rfl, fun _ => rfl, fun _ => rfl, fun _ => rfl, fun _ => rfl, fun _ => hgd, fun _ => hrm⟩
  exact (dss_one (ds_ret (de_disp (dp_str (db_of (de_fld a_straight (db_var 0))) (dp_str (db_of (de_fld a_folded (db_var 0))) (dp_str (db_of (de_fld a_right (db_var 0))) (dp_str (db_of (de_fld a_left (db_var 0))) dp_nil)))))))
theorem init_Held___init_folded_straight {f : Addr} {fd : FuncData} {kws : List (Str × V)} (Fd : FunD w.K "__init__" "Held.__init__" (defArgs st_Held___init) (defBody st_Held___init) (defScope st_Held___init) [] kws f fd) (b_Rule_ : Bas P wl mg base w true 3 .rule "__init__" [] φ_Rule___init id) (gm_Rule : mg "Rule" = some (.ref (w.cls .rule))) (m_len : mg "len" = none) (c_option_pair : Cal P wl mg base w false true 3 "option_pair" φ_option_pair) (a_folded : NoA w isRule "_folded") (a_straight : NoA w isRule "_straight") :
    R7.FnK P wl w.K mg base (CXb true P wl) 4 f ["folded", "straight"] (spStar w φ_Held___init swap2) := by
  refine init_D (bx := true) (N := ["self", "straight", "folded", "rods"]) (k := 3) (p1 := "self") (pv := "rods") (opts := ["straight", "folded"]) (ks := ["folded", "straight"]) (ss := ss_Held___init) (g := swap2) (gV := swap2) Fd sc_Held___init (fun r l => vals_swap2 r l) (fun zs l => by obtain ⟨a, b, rfl⟩ := len2 l; rfl) (fun kV doc pm an cdv ct M A Q Ex sh a rest ws hK X l h => ?_) fun cdv A outer sh H E hrm => body_Held___init b_Rule_ gm_Rule m_len c_option_pair a_folded a_straight cdv A outer sh H E hrm
  obtain ⟨w0, w1, rfl⟩ := len2 l
  exact R7.bind_starK (B := fun a rest => bindArgs (PySem.W.fnOf "__init__" "Held.__init__" (defArgs st_Held___init) (defBody st_Held___init) (defScope st_Held___init) .none kV doc pm an cdv ct) ⟨a :: rest, List.zip ["folded", "straight"] [w0, w1]⟩) (G := fun a t => List.zip (["self", "straight", "folded"] : List Str) (a :: swap2 [w0, w1]) ++ [(("rods" : Str), t)]) (fun a => rfl) (fun a r rs => rfl) a rest h
theorem init_Held___init_straight_folded {f : Addr} {fd : FuncData} {kws : List (Str × V)} (Fd : FunD w.K "__init__" "Held.__init__" (defArgs st_Held___init) (defBody st_Held___init) (defScope st_Held___init) [] kws f fd) (b_Rule_ : Bas P wl mg base w true 3 .rule "__init__" [] φ_Rule___init id) (gm_Rule : mg "Rule" = some (.ref (w.cls .rule))) (m_len : mg "len" = none) (c_option_pair : Cal P wl mg base w false true 3 "option_pair" φ_option_pair) (a_folded : NoA w isRule "_folded") (a_straight : NoA w isRule "_straight") :
    R7.FnK P wl w.K mg base (CXb true P wl) 4 f ["straight", "folded"] (spStar w φ_Held___init id) := by
  refine init_D (bx := true) (N := ["self", "straight", "folded", "rods"]) (k := 3) (p1 := "self") (pv := "rods") (opts := ["straight", "folded"]) (ks := ["straight", "folded"]) (ss := ss_Held___init) (g := id) (gV := id) Fd sc_Held___init (fun r l => r) (fun zs l => l) (fun kV doc pm an cdv ct M A Q Ex sh a rest ws hK X l h => ?_) fun cdv A outer sh H E hrm => body_Held___init b_Rule_ gm_Rule m_len c_option_pair a_folded a_straight cdv A outer sh H E hrm
  obtain ⟨w0, w1, rfl⟩ := len2 l
  exact R7.bind_starK (B := fun a rest => bindArgs (PySem.W.fnOf "__init__" "Held.__init__" (defArgs st_Held___init) (defBody st_Held___init) (defScope st_Held___init) .none kV doc pm an cdv ct) ⟨a :: rest, List.zip ["straight", "folded"] [w0, w1]⟩) (G := fun a t => List.zip (["self", "straight", "folded"] : List Str) (a :: id [w0, w1]) ++ [(("rods" : Str), t)]) (fun a => rfl) (fun a r rs => rfl) a rest h
theorem init_Aimed___init_left_right {f : Addr} {fd : FuncData} {kws : List (Str × V)} (Fd : FunD w.K "__init__" "Aimed.__init__" (defArgs st_Aimed___init) (defBody st_Aimed___init) (defScope st_Aimed___init) [] kws f fd) (b_Rule_ : Bas P wl mg base w true 3 .rule "__init__" [] φ_Rule___init id) (gm_Rule : mg "Rule" = some (.ref (w.cls .rule))) (m_len : mg "len" = none) (c_option_pair : Cal P wl mg base w false true 3 "option_pair" φ_option_pair) (a_left : NoA w isRule "_left") (a_right : NoA w isRule "_right") :
    R7.FnK P wl w.K mg base (CXb true P wl) 4 f ["left", "right"] (spStar w φ_Aimed___init swap2) := by
  refine init_D (bx := true) (N := ["self", "right", "left", "rods"]) (k := 3) (p1 := "self") (pv := "rods") (opts := ["right", "left"]) (ks := ["left", "right"]) (ss := ss_Aimed___init) (g := swap2) (gV := swap2) Fd sc_Aimed___init (fun r l => vals_swap2 r l) (fun zs l => by obtain ⟨a, b, rfl⟩ := len2 l; rfl) (fun kV doc pm an cdv ct M A Q Ex sh a rest ws hK X l h => ?_) fun cdv A outer sh H E hrm => body_Aimed___init b_Rule_ gm_Rule m_len c_option_pair a_left a_right cdv A outer sh H E hrm
  obtain ⟨w0, w1, rfl⟩ := len2 l
  exact R7.bind_starK (B := fun a rest => bindArgs (PySem.W.fnOf "__init__" "Aimed.__init__" (defArgs st_Aimed___init) (defBody st_Aimed___init) (defScope st_Aimed___init) .none kV doc pm an cdv ct) ⟨a :: rest, List.zip ["left", "right"] [w0, w1]⟩) (G := fun a t => List.zip (["self", "right", "left"] : List Str) (a :: swap2 [w0, w1]) ++ [(("rods" : Str), t)]) (fun a => rfl) (fun a r rs => rfl) a rest h
theorem init_Aimed___init_right_left {f : Addr} {fd : FuncData} {kws : List (Str × V)} (Fd : FunD w.K "__init__" "Aimed.__init__" (defArgs st_Aimed___init) (defBody st_Aimed___init) (defScope st_Aimed___init) [] kws f fd) (b_Rule_ : Bas P wl mg base w true 3 .rule "__init__" [] φ_Rule___init id) (gm_Rule : mg "Rule" = some (.ref (w.cls .rule))) (m_len : mg "len" = none) (c_option_pair : Cal P wl mg base w false true 3 "option_pair" φ_option_pair) (a_left : NoA w isRule "_left") (a_right : NoA w isRule "_right") :
    R7.FnK P wl w.K mg base (CXb true P wl) 4 f ["right", "left"] (spStar w φ_Aimed___init id) := by
  refine init_D (bx := true) (N := ["self", "right", "left", "rods"]) (k := 3) (p1 := "self") (pv := "rods") (opts := ["right", "left"]) (ks := ["right", "left"]) (ss := ss_Aimed___init) (g := id) (gV := id) Fd sc_Aimed___init (fun r l => r) (fun zs l => l) (fun kV doc pm an cdv ct M A Q Ex sh a rest ws hK X l h => ?_) fun cdv A outer sh H E hrm => body_Aimed___init b_Rule_ gm_Rule m_len c_option_pair a_left a_right cdv A outer sh H E hrm
  obtain ⟨w0, w1, rfl⟩ := len2 l
  exact R7.bind_starK (B := fun a rest => bindArgs (PySem.W.fnOf "__init__" "Aimed.__init__" (defArgs st_Aimed___init) (defBody st_Aimed___init) (defScope st_Aimed___init) .none kV doc pm an cdv ct) ⟨a :: rest, List.zip ["right", "left"] [w0, w1]⟩) (G := fun a t => List.zip (["self", "right", "left"] : List Str) (a :: id [w0, w1]) ++ [(("rods" : Str), t)]) (fun a => rfl) (fun a r rs => rfl) a rest h
theorem init_Bound___init_straight_folded_right_left {f : Addr} {fd : FuncData} {kws : List (Str × V)} (Fd : FunD w.K "__init__" "Bound.__init__" (defArgs st_Bound___init) (defBody st_Bound___init) (defScope st_Bound___init) [] kws f fd) (b_Held_straight_folded : Bas P wl mg base w true 4 .held "__init__" ["straight", "folded"] φ_Held___init id) (gm_Held : mg "Held" = some (.ref (w.cls .held))) (b_Aimed_right_left : Bas P wl mg base w true 4 .aimed "__init__" ["right", "left"] φ_Aimed___init id) (gm_Aimed : mg "Aimed" = some (.ref (w.cls .aimed))) :
    R7.FnK P wl w.K mg base (CXb true P wl) 5 f ["straight", "folded", "right", "left"] (spStar w φ_Bound___init id) := by
  refine init_D (bx := true) (N := ["self", "straight", "folded", "right", "left", "rods"]) (k := 4) (p1 := "self") (pv := "rods") (opts := ["straight", "folded", "right", "left"]) (ks := ["straight", "folded", "right", "left"]) (ss := ss_Bound___init) (g := id) (gV := id) Fd sc_Bound___init (fun r l => r) (fun zs l => l) (fun kV doc pm an cdv ct M A Q Ex sh a rest ws hK X l h => ?_) fun cdv A outer sh H E hrm => body_Bound___init b_Held_straight_folded gm_Held b_Aimed_right_left gm_Aimed cdv A outer sh H E hrm
  obtain ⟨w0, w1, w2, w3, rfl⟩ := len4 l
  exact R7.bind_starK (B := fun a rest => bindArgs (PySem.W.fnOf "__init__" "Bound.__init__" (defArgs st_Bound___init) (defBody st_Bound___init) (defScope st_Bound___init) .none kV doc pm an cdv ct) ⟨a :: rest, List.zip ["straight", "folded", "right", "left"] [w0, w1, w2, w3]⟩) (G := fun a t => List.zip (["self", "straight", "folded", "right", "left"] : List Str) (a :: id [w0, w1, w2, w3]) ++ [(("rods" : Str), t)]) (fun a => rfl) (fun a r rs => rfl) a rest h
end
end M7
set_option maxHeartbeats 400000
namespace M7
open PySem PySem.Spec PyProof.Rows L2
def ss_check_rule : SS := (ssIf (stNot (stB (seIsi (tCls (onRules true true true true)) (sbVar 0)))) (ssRaise .rule (seC (.str "this is not a rule"))) ssNext)
abbrev φ_check_rule : Fn := bodyFn 1 1 ss_check_rule
def tb_options : CN → Option Fn
  | .rule => some φ_Rule_options
  | .held => some φ_Held_options
  | .aimed => some φ_Aimed_options
  | .bound => some φ_Bound_options
  | _ => none
def ss_all_options : SS := (ssSeq (ssAsg (seMeth "options" tb_options (sbVar 0) saNil) (sgName 1))
    (ssRet (seDc (siOf (seC (.tup [.str "straight", .str "folded", .str "right", .str "left"]))) (sgName 2) (fun g => .ok true g) (seVar 2) (seDGet2 (sbVar 1) (sbVar 2) (sbOf (seTup saNil))) [2])))
abbrev φ_all_options : Fn := bodyFn 1 3 ss_all_options
def ss_from_other_end : SS := (ssRet (seCB dTuple (saCons (sbOf (seLc (siOf (seVar 0)) (sgName 2) (fun g => .ok true g) (seOp dSub (sbOf (seOp dAdd (sbVar 1) (sbOf (seC (.int 1))))) (sbVar 2)) [2])) saNil)))
abbrev φ_from_other_end : Fn := bodyFn 2 3 ss_from_other_end
def tb_rods : CN → Option Fn
  | .rule => some φ_Rule_rods
  | .held => some φ_Rule_rods
  | .aimed => some φ_Rule_rods
  | .bound => some φ_Rule_rods
  | _ => none
def ss_flipped : SS := (ssSeq (ssDrop (seCall φ_check_rule (saCons (sbVar 0) saNil)))
    (ssSeq (ssAsg (seRevL (sbOf (seProp tb_rods (sbVar 0)))) (sgName 1))
    (ssSeq (ssAsg (seCall φ_all_options (saCons (sbVar 0) saNil)) (sgName 2))
    (ssSeq (ssAsg (seCall φ_from_other_end (saCons (sbOf (seOp dDGet (sbVar 2) (sbOf (seC (.str "straight"))))) (saCons (sbOf (seOp dSub (sbOf (seCB dLen (saCons (sbVar 1) saNil))) (sbOf (seC (.int 1))))) saNil))) (sgName 3))
    (ssSeq (ssAsg (seCall φ_from_other_end (saCons (sbOf (seOp dDGet (sbVar 2) (sbOf (seC (.str "folded"))))) (saCons (sbOf (seOp dSub (sbOf (seCB dLen (saCons (sbVar 1) saNil))) (sbOf (seC (.int 1))))) saNil))) (sgName 4))
    (ssSeq (ssAsg (seCall φ_from_other_end (saCons (sbOf (seOp dDGet (sbVar 2) (sbOf (seC (.str "left"))))) (saCons (sbOf (seCB dLen (saCons (sbVar 1) saNil))) saNil))) (sgName 5))
    (ssSeq (ssAsg (seCall φ_from_other_end (saCons (sbOf (seOp dDGet (sbVar 2) (sbOf (seC (.str "right"))))) (saCons (sbOf (seCB dLen (saCons (sbVar 1) saNil))) saNil))) (sgName 6))
    (ssRet (seMakeS .bound φ_Bound___init 4 id (seVar 1) (saCons (sbOf (seVar 3)) (saCons (sbOf (seVar 4)) (saCons (sbOf (seVar 5)) (saCons (sbOf (seVar 6)) saNil)))))))))))))
abbrev φ_flipped : Fn := bodyFn 1 7 ss_flipped
def ss_numbers_of : SS := (ssRet (seCB dTuple (saCons (sbOf (seLc (siV (enK 1) (saCons (sbOf (seVar 1)) saNil)) (sgTup 2 (sgCons (sgName 2) (sgCons (sgName 3) sgNil))) (stB (seOp dEq (sbVar 3) (sbVar 0))) (seVar 2) [2, 3])) saNil)))
abbrev φ_numbers_of : Fn := bodyFn 2 4 ss_numbers_of
def ss_read : SS := (ssSeq (ssAsg (seCall φ_cut (saCons (sbVar 0) (saCons (sbOf (seC (.int 12))) (saCons (sbOf (seC (.int 40))) (saCons (sbOf (seC (.str "-=~"))) (saCons (sbOf (seC (.str "><"))) saNil)))))) (sgTup 3 (sgCons (sgName 1) (sgCons (sgName 2) (sgCons (sgName 3) sgNil)))))
    (ssSeq (ssAsg (seCall φ_numbers_of (saCons (sbOf (seC (.str "="))) (saCons (sbVar 2) saNil))) (sgName 4))
    (ssSeq (ssAsg (seCall φ_numbers_of (saCons (sbOf (seC (.str "~"))) (saCons (sbVar 2) saNil))) (sgName 5))
    (ssSeq (ssAsg (seCall φ_numbers_of (saCons (sbOf (seC (.str ">"))) (saCons (sbVar 3) saNil))) (sgName 6))
    (ssSeq (ssAsg (seCall φ_numbers_of (saCons (sbOf (seC (.str "<"))) (saCons (sbVar 3) saNil))) (sgName 7))
    (ssRet (seMakeS .bound φ_Bound___init 4 id (seVar 1) (saCons (sbOf (seVar 4)) (saCons (sbOf (seVar 5)) (saCons (sbOf (seVar 6)) (saCons (sbOf (seVar 7)) saNil)))))))))))
abbrev φ_read : Fn := bodyFn 1 8 ss_read
section
variable {w : WD} {P : Program} {wl : World} {mg : Str → Option Value} {base : Heap}
abbrev st_check_rule : Stmt := top 30
theorem sc_check_rule : FnScope ["thing"] ["thing"] (defScope st_check_rule) := ⟨rfl, rfl, rfl, by decide +kernel, rfl, by decide +kernel, by decide +kernel⟩
theorem def_check_rule {f : Addr} {fd : FuncData} (Fd : Fun w.K "check_rule" "check_rule" st_check_rule f fd) (m_isinstance : mg "isinstance" = none) (gm_Rule : mg "Rule" = some (.ref (w.cls .rule))) (i_Rule : IsiF w (.ref (w.cls .rule)) (tCls (onRules true true true true))) (x_RuleError : ExnF w mg "RuleError" .rule) : Def P wl mg base w false true 1 f φ_check_rule := by
  refine def_D (ss := ss_check_rule) Fd sc_check_rule (Fd.binds (ps := ["thing"]) fun _ _ _ _ _ _ us hl => match us, hl with | [_], _ => rfl) fun cdv A outer sh H E hgd hrm => ?_
  have fam : Fam P wl mg base w false 0 (fun _ : Unit => cxOf (CXb true P wl) P wl w.K mg base ["thing"] "check_rule" (defScope st_check_rule) f cdv A outer sh H E) := ⟨fun _ => rfl, fun _ => rfl, fun _ => rfl, fun _ => rfl, fun _ => rfl, fun _ => hgd, fun _ => hrm⟩
  exact (dss_one (ds_if (dt_not (dt_val (de_isiC m_isinstance gm_Rule i_Rule (db_var 0)))) (dss_one (ds_raise x_RuleError (fun _ => takes_of rfl rfl rfl rfl) de_str)) dss_nil))
abbrev st_all_options : Stmt := top 31
theorem sc_all_options : FnScope ["rule", "given", "name"] ["rule"] (defScope st_all_options) := ⟨rfl, rfl, rfl, by decide +kernel, rfl, by decide +kernel, by decide +kernel⟩
theorem def_all_options {f : Addr} {fd : FuncData} (Fd : Fun w.K "all_options" "all_options" st_all_options f fd) (o_options : Mets P wl mg base w false false 1 "options" tb_options) (g_OPTIONS : Gcn w mg "OPTIONS" (.tup [.str "straight", .str "folded", .str "right", .str "left"])) : Def P wl mg base w false false 2 f φ_all_options := by
  refine def_D (ss := ss_all_options) Fd sc_all_options (Fd.binds (ps := ["rule"]) fun _ _ _ _ _ _ us hl => match us, hl with | [_], _ => rfl) fun cdv A outer sh H E hgd hrm => ?_
  have fam : Fam P wl mg base w false 1 (fun _ : Unit => cxOf (CXb false P wl) P wl w.K mg base ["rule", "given", "name"] "all_options" (defScope st_all_options) f cdv A outer sh H E) := ⟨fun _ => rfl, fun _ => rfl, fun _ => rfl, fun _ => rfl, fun _ => rfl, fun _ => hgd, fun _ => hrm⟩
  exact (dss_cons (ds_set 1 (fun _ => sc_all_options.nd) (de_meth0 fam Tk.no o_options (db_var 0)))
    (dss_one (ds_ret (de_dc [("name", 2)] (fun _ => sc_all_options.nd) (fun _ => blkOk_by (N := ["rule", "given", "name"]) (sc := defScope st_all_options) (by decide +kernel)) (di_U (de_gc g_OPTIONS)) (dg_name (vs := [2]) 2 (by decide) (fun _ => sc_all_options.nd)) dts_nil (de_var 2) (de_dget2 (Fam.blk fam _) (db_var 1) (db_var 2) (db_of (de_tup da_nil)))))))
abbrev st_from_other_end : Stmt := top 34
theorem sc_from_other_end : FnScope ["numbers", "many", "k"] ["numbers", "many"] (defScope st_from_other_end) := ⟨rfl, rfl, rfl, by decide +kernel, rfl, by decide +kernel, by decide +kernel⟩
theorem def_from_other_end {f : Addr} {fd : FuncData} (Fd : Fun w.K "from_other_end" "from_other_end" st_from_other_end f fd) (m_tuple : mg "tuple" = none) : Def P wl mg base w false false 1 f φ_from_other_end := by
  refine def_D (ss := ss_from_other_end) Fd sc_from_other_end (Fd.binds (ps := ["numbers", "many"]) fun _ _ _ _ _ _ us hl => match us, hl with | [_, _], _ => rfl) fun cdv A outer sh H E hgd hrm => ?_
  have fam : Fam P wl mg base w false 0 (fun _ : Unit => cxOf (CXb false P wl) P wl w.K mg base ["numbers", "many", "k"] "from_other_end" (defScope st_from_other_end) f cdv A outer sh H E) := ⟨fun _ => rfl, fun _ => rfl, fun _ => rfl, fun _ => rfl, fun _ => rfl, fun _ => hgd, fun _ => hrm⟩
  exact (dss_one (ds_ret (de_callTy (fun _ => call_tuple_of) cd_tuple (fun _ => m_tuple) (by decide +kernel) (da_cons (db_of (de_lc [("k", 2)] (fun _ => sc_from_other_end.nd) (fun _ => blkOk_by (N := ["numbers", "many", "k"]) (sc := defScope st_from_other_end) (by decide +kernel)) (di_U (de_var 0)) (dg_name (vs := [2]) 2 (by decide) (fun _ => sc_from_other_end.nd)) dts_nil (de_bin (fun _ => op_sub) od_sub (db_of (de_bin (fun _ => op_addU) od_add (db_var 1) (db_of de_int))) (db_var 2)))) da_nil))))
abbrev st_flipped : Stmt := top 29
theorem sc_flipped : FnScope ["rule", "rods", "given", "straight", "folded", "right", "left"] ["rule"] (defScope st_flipped) := ⟨rfl, rfl, rfl, by decide +kernel, rfl, by decide +kernel, by decide +kernel⟩
theorem def_flipped {f : Addr} {fd : FuncData} (Fd : Fun w.K "flipped" "flipped" st_flipped f fd) (c_check_rule : Cal P wl mg base w false true 1 "check_rule" φ_check_rule) (p_rods : Prps P wl mg base w 1 "rods" tb_rods) (c_all_options : Cal P wl mg base w false false 2 "all_options" φ_all_options) (m_len : mg "len" = none) (c_from_other_end : Cal P wl mg base w false false 1 "from_other_end" φ_from_other_end) (gm_Bound : mg "Bound" = some (.ref (w.cls .bound))) (k_Bound_straight_folded_right_left : Mak P wl mg base w true 5 .bound ["straight", "folded", "right", "left"] φ_Bound___init id) : Def P wl mg base w false true 7 f φ_flipped := by
  refine def_D (ss := ss_flipped) Fd sc_flipped (Fd.binds (ps := ["rule"]) fun _ _ _ _ _ _ us hl => match us, hl with | [_], _ => rfl) fun cdv A outer sh H E hgd hrm => ?_
  have fam : Fam P wl mg base w false 6 (fun _ : Unit => cxOf (CXb true P wl) P wl w.K mg base ["rule", "rods", "given", "straight", "folded", "right", "left"] "flipped" (defScope st_flipped) f cdv A outer sh H E) := ⟨fun _ => rfl, fun _ => rfl, fun _ => rfl, fun _ => rfl, fun _ => rfl, fun _ => hgd, fun _ => hrm⟩
  exact (dss_cons (ds_expr (de_call fam (Tk.of (fun _ => takes_of rfl rfl rfl rfl)) c_check_rule (da_cons (db_var 0) da_nil)))
    (dss_cons (ds_set 1 (fun _ => sc_flipped.nd) (de_revL (db_of (de_prop fam p_rods (db_var 0)))))
    (dss_cons (ds_set 2 (fun _ => sc_flipped.nd) (de_call fam Tk.no c_all_options (da_cons (db_var 0) da_nil)))
    (dss_cons (ds_set 3 (fun _ => sc_flipped.nd) (de_call fam Tk.no c_from_other_end (da_cons (db_of (de_dget fam (db_var 2) (db_of de_str) (fun _ _ => rfl))) (da_cons (db_of (de_bin (fun _ => op_sub) od_sub (db_of (de_callB (fun _ => call_len) cd_len (fun _ => m_len) (by decide +kernel) (da_cons (db_var 1) da_nil))) (db_of de_int))) da_nil))))
    (dss_cons (ds_set 4 (fun _ => sc_flipped.nd) (de_call fam Tk.no c_from_other_end (da_cons (db_of (de_dget fam (db_var 2) (db_of de_str) (fun _ _ => rfl))) (da_cons (db_of (de_bin (fun _ => op_sub) od_sub (db_of (de_callB (fun _ => call_len) cd_len (fun _ => m_len) (by decide +kernel) (da_cons (db_var 1) da_nil))) (db_of de_int))) da_nil))))
    (dss_cons (ds_set 5 (fun _ => sc_flipped.nd) (de_call fam Tk.no c_from_other_end (da_cons (db_of (de_dget fam (db_var 2) (db_of de_str) (fun _ _ => rfl))) (da_cons (db_of (de_callB (fun _ => call_len) cd_len (fun _ => m_len) (by decide +kernel) (da_cons (db_var 1) da_nil))) da_nil))))
    (dss_cons (ds_set 6 (fun _ => sc_flipped.nd) (de_call fam Tk.no c_from_other_end (da_cons (db_of (de_dget fam (db_var 2) (db_of de_str) (fun _ _ => rfl))) (da_cons (db_of (de_callB (fun _ => call_len) cd_len (fun _ => m_len) (by decide +kernel) (da_cons (db_var 1) da_nil))) da_nil))))
    (dss_one (ds_ret (de_makeS fam (Tk.of (fun _ => takes_of rfl rfl rfl rfl)) k_Bound_straight_folded_right_left gm_Bound (de_var 1) (dk_cons (db_of (de_var 3)) (dk_cons (db_of (de_var 4)) (dk_cons (db_of (de_var 5)) (dk_cons (db_of (de_var 6)) dk_nil))))))))))))))
abbrev st_numbers_of : Stmt := top 37
theorem sc_numbers_of : FnScope ["mark", "row", "k", "other"] ["mark", "row"] (defScope st_numbers_of) := ⟨rfl, rfl, rfl, by decide +kernel, rfl, by decide +kernel, by decide +kernel⟩
theorem def_numbers_of {f : Addr} {fd : FuncData} (Fd : Fun w.K "numbers_of" "numbers_of" st_numbers_of f fd) (m_enumerate : mg "enumerate" = none) (m_tuple : mg "tuple" = none) : Def P wl mg base w false false 1 f φ_numbers_of := by
  refine def_D (ss := ss_numbers_of) Fd sc_numbers_of (Fd.binds (ps := ["mark", "row"]) fun _ _ _ _ _ _ us hl => match us, hl with | [_, _], _ => rfl) fun cdv A outer sh H E hgd hrm => ?_
  have fam : Fam P wl mg base w false 0 (fun _ : Unit => cxOf (CXb false P wl) P wl w.K mg base ["mark", "row", "k", "other"] "numbers_of" (defScope st_numbers_of) f cdv A outer sh H E) := ⟨fun _ => rfl, fun _ => rfl, fun _ => rfl, fun _ => rfl, fun _ => rfl, fun _ => hgd, fun _ => hrm⟩
  exact (dss_one (ds_ret (de_callTy (fun _ => call_tuple_of) cd_tuple (fun _ => m_tuple) (by decide +kernel) (da_cons (db_of (de_lc [("k", 2), ("other", 3)] (fun _ => sc_numbers_of.nd) (fun _ => blkOk_by (N := ["mark", "row", "k", "other"]) (sc := defScope st_numbers_of) (by decide +kernel)) (di_enumK (fun _ => m_enumerate) (da_cons (db_of (de_var 1)) da_nil)) (dg_tup (vs := [2, 3]) (dgs_cons 2 (by decide) (fun _ => sc_numbers_of.nd) (dgs_cons 3 (by decide) (fun _ => sc_numbers_of.nd) dgs_nil))) (dts_one (dt_cmp (fun i => op_eqD (Fam.room (Fam.blk fam _) i).units) od_eq (db_var 3) (db_var 0))) (de_var 2))) da_nil))))
abbrev st_read : Stmt := top 36
theorem sc_read : FnScope ["text", "rods", "hinges", "aims", "straight", "folded", "right", "left"] ["text"] (defScope st_read) := ⟨rfl, rfl, rfl, by decide +kernel, rfl, by decide +kernel, by decide +kernel⟩
theorem def_read {f : Addr} {fd : FuncData} (Fd : Fun w.K "read" "read" st_read f fd) (g_AIMS : Gcn w mg "AIMS" (.str "><")) (g_HINGES : Gcn w mg "HINGES" (.str "-=~")) (v_Rule_MOST_LENGTH : CVl w mg "Rule" .rule "MOST_LENGTH" (.int 40)) (v_Rule_MOST_RODS : CVl w mg "Rule" .rule "MOST_RODS" (.int 12)) (c_cut : Cal P wl mg base w false false 3 "cut" φ_cut) (g_STRAIGHT : Gcn w mg "STRAIGHT" (.str "=")) (c_numbers_of : Cal P wl mg base w false false 1 "numbers_of" φ_numbers_of) (g_FOLDED : Gcn w mg "FOLDED" (.str "~")) (g_RIGHT : Gcn w mg "RIGHT" (.str ">")) (g_LEFT : Gcn w mg "LEFT" (.str "<")) (gm_Bound : mg "Bound" = some (.ref (w.cls .bound))) (k_Bound_straight_folded_right_left : Mak P wl mg base w true 5 .bound ["straight", "folded", "right", "left"] φ_Bound___init id) : Def P wl mg base w false true 7 f φ_read := by
  refine def_D (ss := ss_read) Fd sc_read (Fd.binds (ps := ["text"]) fun _ _ _ _ _ _ us hl => match us, hl with | [_], _ => rfl) fun cdv A outer sh H E hgd hrm => ?_
  have fam : Fam P wl mg base w false 6 (fun _ : Unit => cxOf (CXb true P wl) P wl w.K mg base ["text", "rods", "hinges", "aims", "straight", "folded", "right", "left"] "read" (defScope st_read) f cdv A outer sh H E) := ⟨fun _ => rfl, fun _ => rfl, fun _ => rfl, fun _ => rfl, fun _ => rfl, fun _ => hgd, fun _ => hrm⟩
  exact (dss_cons (ds_asg (de_call fam Tk.no c_cut (da_cons (db_var 0) (da_cons (db_of (de_cval v_Rule_MOST_RODS)) (da_cons (db_of (de_cval v_Rule_MOST_LENGTH)) (da_cons (db_of (de_gc g_HINGES)) (da_cons (db_of (de_gc g_AIMS)) da_nil)))))) (dg_tup (vs := [1, 2, 3]) (dgs_cons 1 (by decide) (fun _ => sc_read.nd) (dgs_cons 2 (by decide) (fun _ => sc_read.nd) (dgs_cons 3 (by decide) (fun _ => sc_read.nd) dgs_nil)))))
    (dss_cons (ds_set 4 (fun _ => sc_read.nd) (de_call fam Tk.no c_numbers_of (da_cons (db_of (de_gc g_STRAIGHT)) (da_cons (db_var 2) da_nil))))
    (dss_cons (ds_set 5 (fun _ => sc_read.nd) (de_call fam Tk.no c_numbers_of (da_cons (db_of (de_gc g_FOLDED)) (da_cons (db_var 2) da_nil))))
    (dss_cons (ds_set 6 (fun _ => sc_read.nd) (de_call fam Tk.no c_numbers_of (da_cons (db_of (de_gc g_RIGHT)) (da_cons (db_var 3) da_nil))))
    (dss_cons (ds_set 7 (fun _ => sc_read.nd) (de_call fam Tk.no c_numbers_of (da_cons (db_of (de_gc g_LEFT)) (da_cons (db_var 3) da_nil))))
    (dss_one (ds_ret (de_makeS fam (Tk.of (fun _ => takes_of rfl rfl rfl rfl)) k_Bound_straight_folded_right_left gm_Bound (de_var 1) (dk_cons (db_of (de_var 4)) (dk_cons (db_of (de_var 5)) (dk_cons (db_of (de_var 6)) (dk_cons (db_of (de_var 7)) dk_nil))))))))))))
end
end M7
set_option maxHeartbeats 400000
namespace M7
open PySem PySem.Spec PyProof.Rows L2
def ss_law_cell : SS := (ssSeq (ssIf (stB (seOp dLt (sbVar 1) (sbOf (seCB dLen (saCons (sbVar 0) saNil))))) (ssRet (seOp dIx (sbVar 0) (sbVar 1))) ssNext)
    (ssRet (seC (.int 0))))
abbrev φ_law_cell : Fn := bodyFn 2 2 ss_law_cell
def ss_law_source : SS := (ssRet (seLst (saCons (sbOf (seCB dMax2 (saCons (sbOf (seC (.int 0))) (saCons (sbOf (seOp dSub (sbVar 0) (sbOf (seOp dPow (sbOf (seC (.int 10))) (sbOf (seC (.int 18))))))) saNil)))) (saCons (sbOf (seOp dAdd (sbOf (seOp dMod (sbVar 0) (sbOf (seC (.int 2147483629))))) (sbOf (seC (.int 1))))) (saCons (sbOf (seC (.int 0))) saNil)))))
abbrev φ_law_source : Fn := bodyFn 1 1 ss_law_source
def ss_law_draw : SS := (ssSeq (ssIf (stB (seOp dGt (sbOf (seOp dIx (sbVar 0) (sbOf (seC (.int 0))))) (sbOf (seC (.int 0))))) (ssSeq (ssAsg (seOp dMod (sbOf (seOp dIx (sbVar 0) (sbOf (seC (.int 0))))) (sbVar 1)) (sgName 2))
    (ssSeq (ssSetL 0 (seOp dDiv (sbOf (seOp dIx (sbVar 0) (sbOf (seC (.int 0))))) (sbVar 1)) (seC (.int 0)))
    (ssRet (seMove 2)))) ssNext)
    (ssSeq (ssSetL 0 (seOp dAdd (sbOf (seOp dIx (sbVar 0) (sbOf (seC (.int 2))))) (sbOf (seC (.int 1)))) (seC (.int 2)))
    (ssSeq (ssSetL 0 (seOp dMod (sbOf (seOp dAdd (sbOf (seOp dAdd (sbOf (seOp dMulI (sbOf (seOp dIx (sbVar 0) (sbOf (seC (.int 1))))) (sbOf (seC (.int 48271))))) (sbOf (seOp dMulI (sbOf (seC (.int 1009))) (sbOf (seOp dIx (sbVar 0) (sbOf (seC (.int 2))))))))) (sbOf (seC (.int 7))))) (sbOf (seC (.int 2147483647)))) (seC (.int 1)))
    (ssSeq (ssAsg (seOp dMod (sbOf (seOp dAdd (sbOf (seOp dAdd (sbOf (seOp dMulI (sbOf (seOp dIx (sbVar 0) (sbOf (seC (.int 1))))) (sbOf (seOp dIx (sbVar 0) (sbOf (seC (.int 1))))))) (sbOf (seOp dMulI (sbOf (seC (.int 69621))) (sbOf (seOp dIx (sbVar 0) (sbOf (seC (.int 1))))))))) (sbOf (seC (.int 11))))) (sbOf (seC (.int 2147483629)))) (sgName 3))
    (ssSeq (ssAsg (seOp dMod (sbOf (seOp dAdd (sbOf (seOp dMulI (sbVar 3) (sbVar 3))) (sbOf (seOp dMulI (sbOf (seC (.int 40014))) (sbVar 3))))) (sbOf (seC (.int 2147483587)))) (sgName 3))
    (ssRet (seOp dMod (sbOf (seOp dDiv (sbVar 3) (sbOf (seC (.int 16))))) (sbVar 1))))))))
abbrev φ_law_draw : Fn := bodyFn 2 4 ss_law_draw
def ss_law_choose : SS := (ssRet (seOp dIx (sbVar 1) (sbOf (seCall φ_law_draw (saCons (sbVar 0) (saCons (sbOf (seCB dLen (saCons (sbVar 1) saNil))) saNil))))))
abbrev φ_law_choose : Fn := bodyFn 2 2 ss_law_choose
def ss_law_is_equal : SS := (ssRet (seOp dEq (sbOf (seCB dRep (saCons (sbVar 0) saNil))) (sbOf (seCB dRep (saCons (sbVar 1) saNil)))))
abbrev φ_law_is_equal : Fn := bodyFn 2 2 ss_law_is_equal
def ss_law_rods_b0 : SS := (ssSeq (ssIf (stB (seOp dEq (sbVar 3) (sbOf (seC (.int 0))))) (ssDrop (seMutV isLst 5 fAppend (saCons (sbOf (seOp dAdd (sbOf (seC (.int 1))) (sbOf (seCall φ_law_draw (saCons (sbVar 0) (saCons (sbOf (seC (.int 4))) saNil)))))) saNil))) ssNext)
    (ssSeq (ssIf (stB (seOp dEq (sbVar 3) (sbOf (seC (.int 1))))) (ssDrop (seMutV isLst 5 fAppend (saCons (sbOf (seVar 4)) saNil))) ssNext)
    (ssSeq (ssIf (stB (seOp dEq (sbVar 3) (sbOf (seC (.int 2))))) (ssDrop (seMutV isLst 5 fAppend (saCons (sbOf (seCB dMax2 (saCons (sbOf (seC (.int 1))) (saCons (sbOf (seOp dSub (sbVar 4) (sbOf (seOp dMod (sbVar 6) (sbOf (seC (.int 2))))))) saNil)))) saNil))) ssNext)
    (ssSeq (ssIf (stB (seOp dEq (sbVar 3) (sbOf (seC (.int 3))))) (ssDrop (seMutV isLst 5 fAppend (saCons (sbOf (seOp dAdd (sbOf (seC (.int 30))) (sbOf (seCall φ_law_draw (saCons (sbVar 0) (saCons (sbOf (seC (.int 11))) saNil)))))) saNil))) ssNext)
    (ssIf (stB (seOp dEq (sbVar 3) (sbOf (seC (.int 4))))) (ssDrop (seMutV isLst 5 fAppend (saCons (sbOf (seOp dAdd (sbOf (seC (.int 1))) (sbOf (seCall φ_law_draw (saCons (sbVar 0) (saCons (sbOf (seC (.int 40))) saNil)))))) saNil))) ssNext)))))
def ss_law_rods : SS := (ssSeq (ssPar 2 3 (seOp dAdd (sbOf (seC (.int 1))) (sbOf (seCall φ_law_draw (saCons (sbVar 0) (saCons (sbVar 1) saNil))))) (seCall φ_law_draw (saCons (sbVar 0) (saCons (sbOf (seC (.int 5))) saNil))))
    (ssSeq (ssPar 4 5 (seOp dAdd (sbOf (seC (.int 1))) (sbOf (seCall φ_law_draw (saCons (sbVar 0) (saCons (sbOf (seC (.int 40))) saNil))))) (seLst saNil))
    (ssSeq (ssFor (siA rg1 (saCons (sbVar 2) saNil)) (sgName 6) ss_law_rods_b0)
    (ssRet (seMove 5)))))
abbrev φ_law_rods : Fn := bodyFn 2 7 ss_law_rods
def ss_law_option_b0 : SS := (ssIf (stB (seOp dNe (sbVar 3) (sbOf (seLst saNil)))) (ssDrop (seMutV isLst 4 fAppend (saCons (sbOf (seMutD isLst 3 fPopAt (saCons (sbOf (seCall φ_law_draw (saCons (sbVar 0) (saCons (sbOf (seCB dLen (saCons (sbVar 3) saNil))) saNil)))) saNil))) saNil))) ssNext)
def ss_law_option : SS := (ssSeq (ssPar 3 4 (seLc (siA rg2 (saCons (sbOf (seC (.int 1))) (saCons (sbOf (seOp dAdd (sbVar 1) (sbOf (seC (.int 1))))) saNil))) (sgName 6) (stB (seOp (dIn true) (sbVar 6) (sbVar 2))) (seVar 6) [6]) (seLst saNil))
    (ssSeq (ssFor (siA rg1 (saCons (sbOf (seCall φ_law_draw (saCons (sbVar 0) (saCons (sbOf (seC (.int 4))) saNil)))) saNil)) (sgName 5) ss_law_option_b0)
    (ssRet (seCB dTuple (saCons (sbVar 4) saNil)))))
abbrev φ_law_option : Fn := bodyFn 3 7 ss_law_option
def ss_law_options : SS := (ssSeq (ssAsg (seCall φ_law_option (saCons (sbVar 0) (saCons (sbOf (seOp dSub (sbVar 1) (sbOf (seC (.int 1))))) (saCons (sbOf (seTup saNil)) saNil)))) (sgName 2))
    (ssSeq (ssAsg (seCall φ_law_option (saCons (sbVar 0) (saCons (sbOf (seOp dSub (sbVar 1) (sbOf (seC (.int 1))))) (saCons (sbVar 2) saNil)))) (sgName 3))
    (ssSeq (ssAsg (seCall φ_law_option (saCons (sbVar 0) (saCons (sbVar 1) (saCons (sbOf (seTup saNil)) saNil)))) (sgName 4))
    (ssSeq (ssAsg (seCall φ_law_option (saCons (sbVar 0) (saCons (sbVar 1) (saCons (sbVar 4) saNil)))) (sgName 5))
    (ssRet (seLst (saCons (sbOf (seVar 2)) (saCons (sbOf (seVar 3)) (saCons (sbOf (seVar 4)) (saCons (sbOf (seVar 5)) saNil))))))))))
abbrev φ_law_options : Fn := bodyFn 2 6 ss_law_options
def ss_law_text_b0 : SS := (ssSeq (ssIf (stB (seOp dGt (sbVar 3) (sbOf (seC (.int 0))))) (ssAsg (seOp dAdd (sbVar 2) (sbOf (seIf (stB (seOp (dIn false) (sbVar 3) (sbOf (seOp dIx (sbVar 1) (sbOf (seC (.int 0))))))) (seC (.str "=")) (seIf (stB (seOp (dIn false) (sbVar 3) (sbOf (seOp dIx (sbVar 1) (sbOf (seC (.int 1))))))) (seC (.str "~")) (seC (.str "-")))))) (sgName 2)) ssNext)
    (ssAsg (seOp dAdd (sbOf (seOp dAdd (sbVar 2) (sbOf (seCB dStr (saCons (sbVar 4) saNil))))) (sbOf (seIf (stB (seOp (dIn false) (sbOf (seOp dAdd (sbVar 3) (sbOf (seC (.int 1))))) (sbOf (seOp dIx (sbVar 1) (sbOf (seC (.int 2))))))) (seC (.str ">")) (seIf (stB (seOp (dIn false) (sbOf (seOp dAdd (sbVar 3) (sbOf (seC (.int 1))))) (sbOf (seOp dIx (sbVar 1) (sbOf (seC (.int 3))))))) (seC (.str "<")) (seC (.str "")))))) (sgName 2)))
def ss_law_text : SS := (ssSeq (ssAsg (seC (.str "")) (sgName 2))
    (ssSeq (ssFor (siV en1 (saCons (sbOf (seVar 0)) saNil)) (sgTup 2 (sgCons (sgName 3) (sgCons (sgName 4) sgNil))) ss_law_text_b0)
    (ssRet (seMove 2))))
abbrev φ_law_text : Fn := bodyFn 2 5 ss_law_text
def ss_law_held : SS := (ssSeq (ssIf (stB (seOp dEq (sbOf (seCB dLen (saCons (sbVar 0) saNil))) (sbOf (seC (.int 1))))) (ssRet (seMake .held φ_Held___init 2 id (saCons (sbOf (seOp dIx (sbVar 0) (sbOf (seC (.int 0))))) saNil) (saCons (sbOf (seVar 1)) (saCons (sbOf (seVar 2)) saNil)))) ssNext)
    (ssSeq (ssIf (stB (seOp dEq (sbOf (seCB dLen (saCons (sbVar 0) saNil))) (sbOf (seC (.int 2))))) (ssRet (seMake .held φ_Held___init 2 id (saCons (sbOf (seOp dIx (sbVar 0) (sbOf (seC (.int 0))))) (saCons (sbOf (seOp dIx (sbVar 0) (sbOf (seC (.int 1))))) saNil)) (saCons (sbOf (seVar 1)) (saCons (sbOf (seVar 2)) saNil)))) ssNext)
    (ssSeq (ssIf (stB (seOp dEq (sbOf (seCB dLen (saCons (sbVar 0) saNil))) (sbOf (seC (.int 3))))) (ssRet (seMake .held φ_Held___init 2 swap2 (saCons (sbOf (seOp dIx (sbVar 0) (sbOf (seC (.int 0))))) (saCons (sbOf (seOp dIx (sbVar 0) (sbOf (seC (.int 1))))) (saCons (sbOf (seOp dIx (sbVar 0) (sbOf (seC (.int 2))))) saNil))) (saCons (sbOf (seVar 2)) (saCons (sbOf (seVar 1)) saNil)))) ssNext)
    (ssRet (seMake .held φ_Held___init 2 id (saCons (sbOf (seOp dIx (sbVar 0) (sbOf (seC (.int 0))))) (saCons (sbOf (seOp dIx (sbVar 0) (sbOf (seC (.int 1))))) (saCons (sbOf (seOp dIx (sbVar 0) (sbOf (seC (.int 2))))) (saCons (sbOf (seOp dIx (sbVar 0) (sbOf (seC (.int 3))))) saNil)))) (saCons (sbOf (seVar 1)) (saCons (sbOf (seVar 2)) saNil)))))))
abbrev φ_law_held : Fn := bodyFn 3 3 ss_law_held
def ss_law_aimed : SS := (ssSeq (ssIf (stB (seOp dEq (sbOf (seCB dLen (saCons (sbVar 0) saNil))) (sbOf (seC (.int 1))))) (ssRet (seMake .aimed φ_Aimed___init 2 id (saCons (sbOf (seOp dIx (sbVar 0) (sbOf (seC (.int 0))))) saNil) (saCons (sbOf (seVar 1)) (saCons (sbOf (seVar 2)) saNil)))) ssNext)
    (ssSeq (ssIf (stB (seOp dEq (sbOf (seCB dLen (saCons (sbVar 0) saNil))) (sbOf (seC (.int 2))))) (ssRet (seMake .aimed φ_Aimed___init 2 swap2 (saCons (sbOf (seOp dIx (sbVar 0) (sbOf (seC (.int 0))))) (saCons (sbOf (seOp dIx (sbVar 0) (sbOf (seC (.int 1))))) saNil)) (saCons (sbOf (seVar 2)) (saCons (sbOf (seVar 1)) saNil)))) ssNext)
    (ssSeq (ssIf (stB (seOp dEq (sbOf (seCB dLen (saCons (sbVar 0) saNil))) (sbOf (seC (.int 3))))) (ssRet (seMake .aimed φ_Aimed___init 2 id (saCons (sbOf (seOp dIx (sbVar 0) (sbOf (seC (.int 0))))) (saCons (sbOf (seOp dIx (sbVar 0) (sbOf (seC (.int 1))))) (saCons (sbOf (seOp dIx (sbVar 0) (sbOf (seC (.int 2))))) saNil))) (saCons (sbOf (seVar 1)) (saCons (sbOf (seVar 2)) saNil)))) ssNext)
    (ssRet (seMake .aimed φ_Aimed___init 2 id (saCons (sbOf (seOp dIx (sbVar 0) (sbOf (seC (.int 0))))) (saCons (sbOf (seOp dIx (sbVar 0) (sbOf (seC (.int 1))))) (saCons (sbOf (seOp dIx (sbVar 0) (sbOf (seC (.int 2))))) (saCons (sbOf (seOp dIx (sbVar 0) (sbOf (seC (.int 3))))) saNil)))) (saCons (sbOf (seVar 1)) (saCons (sbOf (seVar 2)) saNil)))))))
abbrev φ_law_aimed : Fn := bodyFn 3 3 ss_law_aimed
def ss_law_told : SS := (ssSeq (ssAsg (seTup (saCons (sbOf (seLst (saCons (sbOf (seC (.str "straight"))) (saCons (sbOf (seC (.str "folded"))) (saCons (sbOf (seC (.str "right"))) (saCons (sbOf (seC (.str "left"))) saNil)))))) (saCons (sbOf (seMeth "options" tb_options (sbVar 0) saNil)) saNil))) (sgTup 2 (sgCons (sgName 1) (sgCons (sgName 2) sgNil))))
    (ssRet (seLst (saCons (sbOf (seProp tb_rods (sbVar 0))) (saCons (sbOf (seLc (siOf (seVar 1)) (sgName 3) (fun g => .ok true g) (seIf (stB (seOp (dDIn false) (sbVar 3) (sbVar 2))) (seOp dDGet (sbVar 2) (sbVar 3)) (seTup saNil)) [3])) saNil)))))
abbrev φ_law_told : Fn := bodyFn 1 4 ss_law_told
section
variable {w : WD} {P : Program} {wl : World} {mg : Str → Option Value} {base : Heap}
abbrev st_law_cell : Stmt := top 39
theorem sc_law_cell : FnScope ["_law_script", "_law_index"] ["_law_script", "_law_index"] (defScope st_law_cell) := ⟨rfl, rfl, rfl, by decide +kernel, rfl, by decide +kernel, by decide +kernel⟩
theorem def_law_cell {f : Addr} {fd : FuncData} (Fd : Fun w.K "_law_cell" "_law_cell" st_law_cell f fd) (m_len : mg "len" = none) : Def P wl mg base w false false 1 f φ_law_cell := by
  refine def_D (ss := ss_law_cell) Fd sc_law_cell (Fd.binds (ps := ["_law_script", "_law_index"]) fun _ _ _ _ _ _ us hl => match us, hl with | [_, _], _ => rfl) fun cdv A outer sh H E hgd hrm => ?_
  have fam : Fam P wl mg base w false 0 (fun _ : Unit => cxOf (CXb false P wl) P wl w.K mg base ["_law_script", "_law_index"] "_law_cell" (defScope st_law_cell) f cdv A outer sh H E) := ⟨fun _ => rfl, fun _ => rfl, fun _ => rfl, fun _ => rfl, fun _ => rfl, fun _ => hgd, fun _ => hrm⟩
  exact (dss_cons (ds_if (dt_cmp (fun _ => op_ltU) od_cmp (db_var 1) (db_of (de_callB (fun _ => call_len) cd_len (fun _ => m_len) (by decide +kernel) (da_cons (db_var 0) da_nil)))) (dss_one (ds_ret (de_ix (fun _ => ix_seq) od_ix (db_var 0) (db_var 1)))) dss_nil)
    (dss_one (ds_ret de_int)))
abbrev st_law_source : Stmt := top 40
theorem sc_law_source : FnScope ["_law_cell_here"] ["_law_cell_here"] (defScope st_law_source) := ⟨rfl, rfl, rfl, by decide +kernel, rfl, by decide +kernel, by decide +kernel⟩
theorem def_law_source {f : Addr} {fd : FuncData} (Fd : Fun w.K "_law_source" "_law_source" st_law_source f fd) (m_max : mg "max" = none) : Def P wl mg base w false false 1 f φ_law_source := by
  refine def_D (ss := ss_law_source) Fd sc_law_source (Fd.binds (ps := ["_law_cell_here"]) fun _ _ _ _ _ _ us hl => match us, hl with | [_], _ => rfl) fun cdv A outer sh H E hgd hrm => ?_
  have fam : Fam P wl mg base w false 0 (fun _ : Unit => cxOf (CXb false P wl) P wl w.K mg base ["_law_cell_here"] "_law_source" (defScope st_law_source) f cdv A outer sh H E) := ⟨fun _ => rfl, fun _ => rfl, fun _ => rfl, fun _ => rfl, fun _ => rfl, fun _ => hgd, fun _ => hrm⟩
  exact (dss_one (ds_ret (de_lst (da_cons (db_of (de_callB (fun _ => call_max2 rfl) cd_max2 (fun _ => m_max) (by decide +kernel) (da_cons (db_of de_int) (da_cons (db_of (de_bin (fun _ => op_sub) od_sub (db_var 0) (db_of (de_bin (fun _ => op_pow) od_pow (db_of de_int) (db_of de_int))))) da_nil)))) (da_cons (db_of (de_bin (fun _ => op_addU) od_add (db_of (de_bin (fun _ => op_mod) od_mod (db_var 0) (db_of de_int))) (db_of de_int))) (da_cons (db_of de_int) da_nil))))))
abbrev st_law_draw : Stmt := top 41
theorem sc_law_draw : FnScope ["_law_source_here", "_law_many", "_law_found", "_law_mixed"] ["_law_source_here", "_law_many"] (defScope st_law_draw) := ⟨rfl, rfl, rfl, by decide +kernel, rfl, by decide +kernel, by decide +kernel⟩
theorem def_law_draw {f : Addr} {fd : FuncData} (Fd : Fun w.K "_law_draw" "_law_draw" st_law_draw f fd) : Def P wl mg base w false false 1 f φ_law_draw := by
  refine def_D (ss := ss_law_draw) Fd sc_law_draw (Fd.binds (ps := ["_law_source_here", "_law_many"]) fun _ _ _ _ _ _ us hl => match us, hl with | [_, _], _ => rfl) fun cdv A outer sh H E hgd hrm => ?_
  have fam : Fam P wl mg base w false 0 (fun _ : Unit => cxOf (CXb false P wl) P wl w.K mg base ["_law_source_here", "_law_many", "_law_found", "_law_mixed"] "_law_draw" (defScope st_law_draw) f cdv A outer sh H E) := ⟨fun _ => rfl, fun _ => rfl, fun _ => rfl, fun _ => rfl, fun _ => rfl, fun _ => hgd, fun _ => hrm⟩
  exact (dss_cons (ds_if (dt_cmp (fun _ => op_gtU) od_cmp (db_of (de_ix (fun _ => ix_seq) od_ix (db_var 0) (db_of de_int))) (db_of de_int)) (dss_cons (ds_set 2 (fun _ => sc_law_draw.nd) (de_bin (fun _ => op_mod) od_mod (db_of (de_ix (fun _ => ix_seq) od_ix (db_var 0) (db_of de_int))) (db_var 1)))
    (dss_cons (ds_setL 0 (de_bin (fun _ => op_fdiv) od_div (db_of (de_ix (fun _ => ix_seq) od_ix (db_var 0) (db_of de_int))) (db_var 1)) de_int)
    (dss_one (ds_ret (de_move 2))))) dss_nil)
    (dss_cons (ds_setL 0 (de_bin (fun _ => op_addU) od_add (db_of (de_ix (fun _ => ix_seq) od_ix (db_var 0) (db_of de_int))) (db_of de_int)) de_int)
    (dss_cons (ds_setL 0 (de_bin (fun _ => op_mod) od_mod (db_of (de_bin (fun _ => op_addU) od_add (db_of (de_bin (fun _ => op_addU) od_add (db_of (de_bin (fun _ => op_mul) od_mulI (db_of (de_ix (fun _ => ix_seq) od_ix (db_var 0) (db_of de_int))) (db_of de_int))) (db_of (de_bin (fun _ => op_mul) od_mulI (db_of de_int) (db_of (de_ix (fun _ => ix_seq) od_ix (db_var 0) (db_of de_int))))))) (db_of de_int))) (db_of de_int)) de_int)
    (dss_cons (ds_set 3 (fun _ => sc_law_draw.nd) (de_bin (fun _ => op_mod) od_mod (db_of (de_bin (fun _ => op_addU) od_add (db_of (de_bin (fun _ => op_addU) od_add (db_of (de_bin (fun _ => op_mul) od_mulI (db_of (de_ix (fun _ => ix_seq) od_ix (db_var 0) (db_of de_int))) (db_of (de_ix (fun _ => ix_seq) od_ix (db_var 0) (db_of de_int))))) (db_of (de_bin (fun _ => op_mul) od_mulI (db_of de_int) (db_of (de_ix (fun _ => ix_seq) od_ix (db_var 0) (db_of de_int))))))) (db_of de_int))) (db_of de_int)))
    (dss_cons (ds_set 3 (fun _ => sc_law_draw.nd) (de_bin (fun _ => op_mod) od_mod (db_of (de_bin (fun _ => op_addU) od_add (db_of (de_bin (fun _ => op_mul) od_mulI (db_var 3) (db_var 3))) (db_of (de_bin (fun _ => op_mul) od_mulI (db_of de_int) (db_var 3))))) (db_of de_int)))
    (dss_one (ds_ret (de_bin (fun _ => op_mod) od_mod (db_of (de_bin (fun _ => op_fdiv) od_div (db_var 3) (db_of de_int))) (db_var 1)))))))))
abbrev st_law_choose : Stmt := top 42
theorem sc_law_choose : FnScope ["_law_source_here", "_law_values"] ["_law_source_here", "_law_values"] (defScope st_law_choose) := ⟨rfl, rfl, rfl, by decide +kernel, rfl, by decide +kernel, by decide +kernel⟩
theorem def_law_choose {f : Addr} {fd : FuncData} (Fd : Fun w.K "_law_choose" "_law_choose" st_law_choose f fd) (m_len : mg "len" = none) (c_law_draw : Cal P wl mg base w false false 1 "_law_draw" φ_law_draw) : Def P wl mg base w false false 2 f φ_law_choose := by
  refine def_D (ss := ss_law_choose) Fd sc_law_choose (Fd.binds (ps := ["_law_source_here", "_law_values"]) fun _ _ _ _ _ _ us hl => match us, hl with | [_, _], _ => rfl) fun cdv A outer sh H E hgd hrm => ?_
  have fam : Fam P wl mg base w false 1 (fun _ : Unit => cxOf (CXb false P wl) P wl w.K mg base ["_law_source_here", "_law_values"] "_law_choose" (defScope st_law_choose) f cdv A outer sh H E) := ⟨fun _ => rfl, fun _ => rfl, fun _ => rfl, fun _ => rfl, fun _ => rfl, fun _ => hgd, fun _ => hrm⟩
  exact (dss_one (ds_ret (de_ix (fun _ => ix_seq) od_ix (db_var 1) (db_of (de_call fam Tk.no c_law_draw (da_cons (db_var 0) (da_cons (db_of (de_callB (fun _ => call_len) cd_len (fun _ => m_len) (by decide +kernel) (da_cons (db_var 1) da_nil))) da_nil)))))))
abbrev st_law_is_equal : Stmt := top 43
theorem sc_law_is_equal : FnScope ["_law_actual", "_law_expected"] ["_law_actual", "_law_expected"] (defScope st_law_is_equal) := ⟨rfl, rfl, rfl, by decide +kernel, rfl, by decide +kernel, by decide +kernel⟩
theorem def_law_is_equal {f : Addr} {fd : FuncData} (Fd : Fun w.K "_law_is_equal" "_law_is_equal" st_law_is_equal f fd) (sysb : R7.SysB base) (m_repr : mg "repr" = none) : Def P wl mg base w true false 1 f φ_law_is_equal := by
  refine def_D (ss := ss_law_is_equal) Fd sc_law_is_equal (Fd.binds (ps := ["_law_actual", "_law_expected"]) fun _ _ _ _ _ _ us hl => match us, hl with | [_, _], _ => rfl) fun cdv A outer sh H E hgd hrm => ?_
  have fam : Fam P wl mg base w true 0 (fun _ : Unit => cxOf (CXb false P wl) P wl w.K mg base ["_law_actual", "_law_expected"] "_law_is_equal" (defScope st_law_is_equal) f cdv A outer sh H E) := ⟨fun _ => rfl, fun _ => rfl, fun _ => rfl, fun _ => rfl, fun _ => rfl, fun _ => hgd, fun _ => hrm⟩
  exact (dss_one (ds_ret (de_cmp (fun i => op_eqD (Fam.room fam i).units) od_eq (db_of (de_callB (call_repF fam sysb) cd_rep (fun _ => m_repr) (by decide +kernel) (da_cons (db_var 0) da_nil))) (db_of (de_callB (call_repF fam sysb) cd_rep (fun _ => m_repr) (by decide +kernel) (da_cons (db_var 1) da_nil))))))
abbrev st_law_rods : Stmt := top 44
theorem sc_law_rods : FnScope ["_law_source_here", "_law_most", "_law_many", "_law_way", "_law_one", "_law_found", "_law_at"] ["_law_source_here", "_law_most"] (defScope st_law_rods) := ⟨rfl, rfl, rfl, by decide +kernel, rfl, by decide +kernel, by decide +kernel⟩
theorem def_law_rods {f : Addr} {fd : FuncData} (Fd : Fun w.K "_law_rods" "_law_rods" st_law_rods f fd) (c_law_draw : Cal P wl mg base w false false 1 "_law_draw" φ_law_draw) (m_range : mg "range" = none) (m_max : mg "max" = none) : Def P wl mg base w false false 2 f φ_law_rods := by
  refine def_D (ss := ss_law_rods) Fd sc_law_rods (Fd.binds (ps := ["_law_source_here", "_law_most"]) fun _ _ _ _ _ _ us hl => match us, hl with | [_, _], _ => rfl) fun cdv A outer sh H E hgd hrm => ?_
  have fam : Fam P wl mg base w false 1 (fun _ : Unit => cxOf (CXb false P wl) P wl w.K mg base ["_law_source_here", "_law_most", "_law_many", "_law_way", "_law_one", "_law_found", "_law_at"] "_law_rods" (defScope st_law_rods) f cdv A outer sh H E) := ⟨fun _ => rfl, fun _ => rfl, fun _ => rfl, fun _ => rfl, fun _ => rfl, fun _ => hgd, fun _ => hrm⟩
  exact (dss_cons (ds_par 2 3 (fun _ => sc_law_rods.nd) (de_bin (fun _ => op_addU) od_add (db_of de_int) (db_of (de_call fam Tk.no c_law_draw (da_cons (db_var 0) (da_cons (db_var 1) da_nil))))) (de_call fam Tk.no c_law_draw (da_cons (db_var 0) (da_cons (db_of de_int) da_nil))))
    (dss_cons (ds_par 4 5 (fun _ => sc_law_rods.nd) (de_bin (fun _ => op_addU) od_add (db_of de_int) (db_of (de_call fam Tk.no c_law_draw (da_cons (db_var 0) (da_cons (db_of de_int) da_nil))))) (de_lst da_nil))
    (dss_cons (ds_for (ss := ss_law_rods_b0) (fun _ => passes_of rfl) (di_range1 (fun _ => m_range) (da_cons (db_var 2) da_nil)) (dg_name (vs := [6]) 6 (by decide) (fun _ => sc_law_rods.nd)) (dss_cons (ds_if (dt_cmp (fun i => op_eqD (Fam.room fam i).units) od_eq (db_var 3) (db_of de_int)) (dss_one (ds_expr (de_mutV 5 (fun _ _ _ _ => own_list) PySem.F.plainAttrs_list PySem.F.slot_list_append PySem.F.type_list_append (fun _ => mt_append) mv_append (da_cons (db_of (de_bin (fun _ => op_addU) od_add (db_of de_int) (db_of (de_call fam Tk.no c_law_draw (da_cons (db_var 0) (da_cons (db_of de_int) da_nil)))))) da_nil)))) dss_nil)
    (dss_cons (ds_if (dt_cmp (fun i => op_eqD (Fam.room fam i).units) od_eq (db_var 3) (db_of de_int)) (dss_one (ds_expr (de_mutV 5 (fun _ _ _ _ => own_list) PySem.F.plainAttrs_list PySem.F.slot_list_append PySem.F.type_list_append (fun _ => mt_append) mv_append (da_cons (db_of (de_var 4)) da_nil)))) dss_nil)
    (dss_cons (ds_if (dt_cmp (fun i => op_eqD (Fam.room fam i).units) od_eq (db_var 3) (db_of de_int)) (dss_one (ds_expr (de_mutV 5 (fun _ _ _ _ => own_list) PySem.F.plainAttrs_list PySem.F.slot_list_append PySem.F.type_list_append (fun _ => mt_append) mv_append (da_cons (db_of (de_callB (fun _ => call_max2 rfl) cd_max2 (fun _ => m_max) (by decide +kernel) (da_cons (db_of de_int) (da_cons (db_of (de_bin (fun _ => op_sub) od_sub (db_var 4) (db_of (de_bin (fun _ => op_mod) od_mod (db_var 6) (db_of de_int))))) da_nil)))) da_nil)))) dss_nil)
    (dss_cons (ds_if (dt_cmp (fun i => op_eqD (Fam.room fam i).units) od_eq (db_var 3) (db_of de_int)) (dss_one (ds_expr (de_mutV 5 (fun _ _ _ _ => own_list) PySem.F.plainAttrs_list PySem.F.slot_list_append PySem.F.type_list_append (fun _ => mt_append) mv_append (da_cons (db_of (de_bin (fun _ => op_addU) od_add (db_of de_int) (db_of (de_call fam Tk.no c_law_draw (da_cons (db_var 0) (da_cons (db_of de_int) da_nil)))))) da_nil)))) dss_nil)
    (dss_one (ds_if (dt_cmp (fun i => op_eqD (Fam.room fam i).units) od_eq (db_var 3) (db_of de_int)) (dss_one (ds_expr (de_mutV 5 (fun _ _ _ _ => own_list) PySem.F.plainAttrs_list PySem.F.slot_list_append PySem.F.type_list_append (fun _ => mt_append) mv_append (da_cons (db_of (de_bin (fun _ => op_addU) od_add (db_of de_int) (db_of (de_call fam Tk.no c_law_draw (da_cons (db_var 0) (da_cons (db_of de_int) da_nil)))))) da_nil)))) dss_nil)))))))
    (dss_one (ds_ret (de_move 5))))))
abbrev st_law_option : Stmt := top 45
theorem sc_law_option : FnScope ["_law_source_here", "_law_most", "_law_taken", "_law_rest", "_law_found", "_law_lap", "_law_number"] ["_law_source_here", "_law_most", "_law_taken"] (defScope st_law_option) := ⟨rfl, rfl, rfl, by decide +kernel, rfl, by decide +kernel, by decide +kernel⟩
theorem def_law_option {f : Addr} {fd : FuncData} (Fd : Fun w.K "_law_option" "_law_option" st_law_option f fd) (m_range : mg "range" = none) (c_law_draw : Cal P wl mg base w false false 1 "_law_draw" φ_law_draw) (m_len : mg "len" = none) (m_tuple : mg "tuple" = none) : Def P wl mg base w false false 2 f φ_law_option := by
  refine def_D (ss := ss_law_option) Fd sc_law_option (Fd.binds (ps := ["_law_source_here", "_law_most", "_law_taken"]) fun _ _ _ _ _ _ us hl => match us, hl with | [_, _, _], _ => rfl) fun cdv A outer sh H E hgd hrm => ?_
  have fam : Fam P wl mg base w false 1 (fun _ : Unit => cxOf (CXb false P wl) P wl w.K mg base ["_law_source_here", "_law_most", "_law_taken", "_law_rest", "_law_found", "_law_lap", "_law_number"] "_law_option" (defScope st_law_option) f cdv A outer sh H E) := ⟨fun _ => rfl, fun _ => rfl, fun _ => rfl, fun _ => rfl, fun _ => rfl, fun _ => hgd, fun _ => hrm⟩
  exact (dss_cons (ds_par 3 4 (fun _ => sc_law_option.nd) (de_lc [("_law_number", 6)] (fun _ => sc_law_option.nd) (fun _ => blkOk_by (N := ["_law_source_here", "_law_most", "_law_taken", "_law_rest", "_law_found", "_law_lap", "_law_number"]) (sc := defScope st_law_option) (by decide +kernel)) (di_range2 (fun _ => m_range) (da_cons (db_of de_int) (da_cons (db_of (de_bin (fun _ => op_addU) od_add (db_var 1) (db_of de_int))) da_nil))) (dg_name (vs := [6]) 6 (by decide) (fun _ => sc_law_option.nd)) (dts_one (dt_cmp (fun _ => op_notInU) od_in (db_var 6) (db_var 2))) (de_var 6)) (de_lst da_nil))
    (dss_cons (ds_for (ss := ss_law_option_b0) (fun _ => passes_of rfl) (di_range1 (fun _ => m_range) (da_cons (db_of (de_call fam Tk.no c_law_draw (da_cons (db_var 0) (da_cons (db_of de_int) da_nil)))) da_nil)) (dg_name (vs := [5]) 5 (by decide) (fun _ => sc_law_option.nd)) (dss_one (ds_if (dt_cmp (fun i => op_neD (Fam.room fam i).units) od_ne (db_var 3) (db_of (de_lst da_nil))) (dss_one (ds_expr (de_mutV 4 (fun _ _ _ _ => own_list) PySem.F.plainAttrs_list PySem.F.slot_list_append PySem.F.type_list_append (fun _ => mt_append) mv_append (da_cons (db_of (de_mutD 3 (fun _ _ _ _ => own_list) PySem.F.plainAttrs_list PySem.F.slot_list_pop PySem.F.type_list_pop (fun _ => mt_popAt) md_popAt (da_cons (db_of (de_call fam Tk.no c_law_draw (da_cons (db_var 0) (da_cons (db_of (de_callB (fun _ => call_len) cd_len (fun _ => m_len) (by decide +kernel) (da_cons (db_var 3) da_nil))) da_nil)))) da_nil))) da_nil)))) dss_nil)))
    (dss_one (ds_ret (de_callTy (fun _ => call_tuple_of) cd_tuple (fun _ => m_tuple) (by decide +kernel) (da_cons (db_var 4) da_nil))))))
abbrev st_law_options : Stmt := top 46
theorem sc_law_options : FnScope ["_law_source_here", "_law_many", "_law_equal", "_law_bent", "_law_east", "_law_west"] ["_law_source_here", "_law_many"] (defScope st_law_options) := ⟨rfl, rfl, rfl, by decide +kernel, rfl, by decide +kernel, by decide +kernel⟩
theorem def_law_options {f : Addr} {fd : FuncData} (Fd : Fun w.K "_law_options" "_law_options" st_law_options f fd) (c_law_option : Cal P wl mg base w false false 2 "_law_option" φ_law_option) : Def P wl mg base w false false 3 f φ_law_options := by
  refine def_D (ss := ss_law_options) Fd sc_law_options (Fd.binds (ps := ["_law_source_here", "_law_many"]) fun _ _ _ _ _ _ us hl => match us, hl with | [_, _], _ => rfl) fun cdv A outer sh H E hgd hrm => ?_
  have fam : Fam P wl mg base w false 2 (fun _ : Unit => cxOf (CXb false P wl) P wl w.K mg base ["_law_source_here", "_law_many", "_law_equal", "_law_bent", "_law_east", "_law_west"] "_law_options" (defScope st_law_options) f cdv A outer sh H E) := ⟨fun _ => rfl, fun _ => rfl, fun _ => rfl, fun _ => rfl, fun _ => rfl, fun _ => hgd, fun _ => hrm⟩
  exact (dss_cons (ds_set 2 (fun _ => sc_law_options.nd) (de_call fam Tk.no c_law_option (da_cons (db_var 0) (da_cons (db_of (de_bin (fun _ => op_sub) od_sub (db_var 1) (db_of de_int))) (da_cons (db_of (de_tup da_nil)) da_nil)))))
    (dss_cons (ds_set 3 (fun _ => sc_law_options.nd) (de_call fam Tk.no c_law_option (da_cons (db_var 0) (da_cons (db_of (de_bin (fun _ => op_sub) od_sub (db_var 1) (db_of de_int))) (da_cons (db_var 2) da_nil)))))
    (dss_cons (ds_set 4 (fun _ => sc_law_options.nd) (de_call fam Tk.no c_law_option (da_cons (db_var 0) (da_cons (db_var 1) (da_cons (db_of (de_tup da_nil)) da_nil)))))
    (dss_cons (ds_set 5 (fun _ => sc_law_options.nd) (de_call fam Tk.no c_law_option (da_cons (db_var 0) (da_cons (db_var 1) (da_cons (db_var 4) da_nil)))))
    (dss_one (ds_ret (de_lst (da_cons (db_of (de_var 2)) (da_cons (db_of (de_var 3)) (da_cons (db_of (de_var 4)) (da_cons (db_of (de_var 5)) da_nil)))))))))))
abbrev st_law_text : Stmt := top 47
theorem sc_law_text : FnScope ["_law_rods_here", "_law_options_here", "_law_found", "_law_at", "_law_rod"] ["_law_rods_here", "_law_options_here"] (defScope st_law_text) := ⟨rfl, rfl, rfl, by decide +kernel, rfl, by decide +kernel, by decide +kernel⟩
theorem def_law_text {f : Addr} {fd : FuncData} (Fd : Fun w.K "_law_text" "_law_text" st_law_text f fd) (m_enumerate : mg "enumerate" = none) (m_str : mg "str" = none) : Def P wl mg base w false false 1 f φ_law_text := by
  refine def_D (ss := ss_law_text) Fd sc_law_text (Fd.binds (ps := ["_law_rods_here", "_law_options_here"]) fun _ _ _ _ _ _ us hl => match us, hl with | [_, _], _ => rfl) fun cdv A outer sh H E hgd hrm => ?_
  have fam : Fam P wl mg base w false 0 (fun _ : Unit => cxOf (CXb false P wl) P wl w.K mg base ["_law_rods_here", "_law_options_here", "_law_found", "_law_at", "_law_rod"] "_law_text" (defScope st_law_text) f cdv A outer sh H E) := ⟨fun _ => rfl, fun _ => rfl, fun _ => rfl, fun _ => rfl, fun _ => rfl, fun _ => hgd, fun _ => hrm⟩
  exact (dss_cons (ds_set 2 (fun _ => sc_law_text.nd) de_str)
    (dss_cons (ds_for (ss := ss_law_text_b0) (fun _ => passes_of rfl) (di_enum (fun _ => m_enumerate) (da_cons (db_of (de_var 0)) da_nil)) (dg_tup (vs := [3, 4]) (dgs_cons 3 (by decide) (fun _ => sc_law_text.nd) (dgs_cons 4 (by decide) (fun _ => sc_law_text.nd) dgs_nil))) (dss_cons (ds_if (dt_cmp (fun _ => op_gtU) od_cmp (db_var 3) (db_of de_int)) (dss_one (ds_set 2 (fun _ => sc_law_text.nd) (de_bin (fun _ => op_addU) od_add (db_var 2) (db_of (de_if (dt_cmp (fun _ => op_inU) od_in (db_var 3) (db_of (de_ix (fun _ => ix_seq) od_ix (db_var 1) (db_of de_int)))) de_str (de_if (dt_cmp (fun _ => op_inU) od_in (db_var 3) (db_of (de_ix (fun _ => ix_seq) od_ix (db_var 1) (db_of de_int)))) de_str de_str)))))) dss_nil)
    (dss_one (ds_set 2 (fun _ => sc_law_text.nd) (de_bin (fun _ => op_addU) od_add (db_of (de_bin (fun _ => op_addU) od_add (db_var 2) (db_of (de_callTy (fun _ => call_strU) cd_str (fun _ => m_str) (by decide +kernel) (da_cons (db_var 4) da_nil))))) (db_of (de_if (dt_cmp (fun _ => op_inU) od_in (db_of (de_bin (fun _ => op_addU) od_add (db_var 3) (db_of de_int))) (db_of (de_ix (fun _ => ix_seq) od_ix (db_var 1) (db_of de_int)))) de_str (de_if (dt_cmp (fun _ => op_inU) od_in (db_of (de_bin (fun _ => op_addU) od_add (db_var 3) (db_of de_int))) (db_of (de_ix (fun _ => ix_seq) od_ix (db_var 1) (db_of de_int)))) de_str de_str))))))))
    (dss_one (ds_ret (de_move 2)))))
abbrev st_law_held : Stmt := top 48
theorem sc_law_held : FnScope ["_law_rods_here", "_law_equal", "_law_bent"] ["_law_rods_here", "_law_equal", "_law_bent"] (defScope st_law_held) := ⟨rfl, rfl, rfl, by decide +kernel, rfl, by decide +kernel, by decide +kernel⟩
theorem def_law_held {f : Addr} {fd : FuncData} (Fd : Fun w.K "_law_held" "_law_held" st_law_held f fd) (m_len : mg "len" = none) (gm_Held : mg "Held" = some (.ref (w.cls .held))) (k_Held_straight_folded : Mak P wl mg base w true 4 .held ["straight", "folded"] φ_Held___init id) (k_Held_folded_straight : Mak P wl mg base w true 4 .held ["folded", "straight"] φ_Held___init swap2) : Def P wl mg base w false true 6 f φ_law_held := by
  refine def_D (ss := ss_law_held) Fd sc_law_held (Fd.binds (ps := ["_law_rods_here", "_law_equal", "_law_bent"]) fun _ _ _ _ _ _ us hl => match us, hl with | [_, _, _], _ => rfl) fun cdv A outer sh H E hgd hrm => ?_
  have fam : Fam P wl mg base w false 5 (fun _ : Unit => cxOf (CXb true P wl) P wl w.K mg base ["_law_rods_here", "_law_equal", "_law_bent"] "_law_held" (defScope st_law_held) f cdv A outer sh H E) := ⟨fun _ => rfl, fun _ => rfl, fun _ => rfl, fun _ => rfl, fun _ => rfl, fun _ => hgd, fun _ => hrm⟩
  exact (dss_cons (ds_if (dt_cmp (fun i => op_eqD (Fam.room fam i).units) od_eq (db_of (de_callB (fun _ => call_len) cd_len (fun _ => m_len) (by decide +kernel) (da_cons (db_var 0) da_nil))) (db_of de_int)) (dss_one (ds_ret (de_make fam (Tk.of (fun _ => takes_of rfl rfl rfl rfl)) k_Held_straight_folded gm_Held (da_cons (db_of (de_ix (fun _ => ix_seq) od_ix (db_var 0) (db_of de_int))) da_nil) (dk_cons (db_of (de_var 1)) (dk_cons (db_of (de_var 2)) dk_nil))))) dss_nil)
    (dss_cons (ds_if (dt_cmp (fun i => op_eqD (Fam.room fam i).units) od_eq (db_of (de_callB (fun _ => call_len) cd_len (fun _ => m_len) (by decide +kernel) (da_cons (db_var 0) da_nil))) (db_of de_int)) (dss_one (ds_ret (de_make fam (Tk.of (fun _ => takes_of rfl rfl rfl rfl)) k_Held_straight_folded gm_Held (da_cons (db_of (de_ix (fun _ => ix_seq) od_ix (db_var 0) (db_of de_int))) (da_cons (db_of (de_ix (fun _ => ix_seq) od_ix (db_var 0) (db_of de_int))) da_nil)) (dk_cons (db_of (de_var 1)) (dk_cons (db_of (de_var 2)) dk_nil))))) dss_nil)
    (dss_cons (ds_if (dt_cmp (fun i => op_eqD (Fam.room fam i).units) od_eq (db_of (de_callB (fun _ => call_len) cd_len (fun _ => m_len) (by decide +kernel) (da_cons (db_var 0) da_nil))) (db_of de_int)) (dss_one (ds_ret (de_make fam (Tk.of (fun _ => takes_of rfl rfl rfl rfl)) k_Held_folded_straight gm_Held (da_cons (db_of (de_ix (fun _ => ix_seq) od_ix (db_var 0) (db_of de_int))) (da_cons (db_of (de_ix (fun _ => ix_seq) od_ix (db_var 0) (db_of de_int))) (da_cons (db_of (de_ix (fun _ => ix_seq) od_ix (db_var 0) (db_of de_int))) da_nil))) (dk_cons (db_of (de_var 2)) (dk_cons (db_of (de_var 1)) dk_nil))))) dss_nil)
    (dss_one (ds_ret (de_make fam (Tk.of (fun _ => takes_of rfl rfl rfl rfl)) k_Held_straight_folded gm_Held (da_cons (db_of (de_ix (fun _ => ix_seq) od_ix (db_var 0) (db_of de_int))) (da_cons (db_of (de_ix (fun _ => ix_seq) od_ix (db_var 0) (db_of de_int))) (da_cons (db_of (de_ix (fun _ => ix_seq) od_ix (db_var 0) (db_of de_int))) (da_cons (db_of (de_ix (fun _ => ix_seq) od_ix (db_var 0) (db_of de_int))) da_nil)))) (dk_cons (db_of (de_var 1)) (dk_cons (db_of (de_var 2)) dk_nil))))))))
abbrev st_law_aimed : Stmt := top 49
theorem sc_law_aimed : FnScope ["_law_rods_here", "_law_east", "_law_west"] ["_law_rods_here", "_law_east", "_law_west"] (defScope st_law_aimed) := ⟨rfl, rfl, rfl, by decide +kernel, rfl, by decide +kernel, by decide +kernel⟩
theorem def_law_aimed {f : Addr} {fd : FuncData} (Fd : Fun w.K "_law_aimed" "_law_aimed" st_law_aimed f fd) (m_len : mg "len" = none) (gm_Aimed : mg "Aimed" = some (.ref (w.cls .aimed))) (k_Aimed_right_left : Mak P wl mg base w true 4 .aimed ["right", "left"] φ_Aimed___init id) (k_Aimed_left_right : Mak P wl mg base w true 4 .aimed ["left", "right"] φ_Aimed___init swap2) : Def P wl mg base w false true 6 f φ_law_aimed := by
  refine def_D (ss := ss_law_aimed) Fd sc_law_aimed (Fd.binds (ps := ["_law_rods_here", "_law_east", "_law_west"]) fun _ _ _ _ _ _ us hl => match us, hl with | [_, _, _], _ => rfl) fun cdv A outer sh H E hgd hrm => ?_
  have fam : Fam P wl mg base w false 5 (fun _ : Unit => cxOf (CXb true P wl) P wl w.K mg base ["_law_rods_here", "_law_east", "_law_west"] "_law_aimed" (defScope st_law_aimed) f cdv A outer sh H E) := ⟨fun _ => rfl, fun _ => rfl, fun _ => rfl, fun _ => rfl, fun _ => rfl, fun _ => hgd, fun _ => hrm⟩
  exact (dss_cons (ds_if (dt_cmp (fun i => op_eqD (Fam.room fam i).units) od_eq (db_of (de_callB (fun _ => call_len) cd_len (fun _ => m_len) (by decide +kernel) (da_cons (db_var 0) da_nil))) (db_of de_int)) (dss_one (ds_ret (de_make fam (Tk.of (fun _ => takes_of rfl rfl rfl rfl)) k_Aimed_right_left gm_Aimed (da_cons (db_of (de_ix (fun _ => ix_seq) od_ix (db_var 0) (db_of de_int))) da_nil) (dk_cons (db_of (de_var 1)) (dk_cons (db_of (de_var 2)) dk_nil))))) dss_nil)
    (dss_cons (ds_if (dt_cmp (fun i => op_eqD (Fam.room fam i).units) od_eq (db_of (de_callB (fun _ => call_len) cd_len (fun _ => m_len) (by decide +kernel) (da_cons (db_var 0) da_nil))) (db_of de_int)) (dss_one (ds_ret (de_make fam (Tk.of (fun _ => takes_of rfl rfl rfl rfl)) k_Aimed_left_right gm_Aimed (da_cons (db_of (de_ix (fun _ => ix_seq) od_ix (db_var 0) (db_of de_int))) (da_cons (db_of (de_ix (fun _ => ix_seq) od_ix (db_var 0) (db_of de_int))) da_nil)) (dk_cons (db_of (de_var 2)) (dk_cons (db_of (de_var 1)) dk_nil))))) dss_nil)
    (dss_cons (ds_if (dt_cmp (fun i => op_eqD (Fam.room fam i).units) od_eq (db_of (de_callB (fun _ => call_len) cd_len (fun _ => m_len) (by decide +kernel) (da_cons (db_var 0) da_nil))) (db_of de_int)) (dss_one (ds_ret (de_make fam (Tk.of (fun _ => takes_of rfl rfl rfl rfl)) k_Aimed_right_left gm_Aimed (da_cons (db_of (de_ix (fun _ => ix_seq) od_ix (db_var 0) (db_of de_int))) (da_cons (db_of (de_ix (fun _ => ix_seq) od_ix (db_var 0) (db_of de_int))) (da_cons (db_of (de_ix (fun _ => ix_seq) od_ix (db_var 0) (db_of de_int))) da_nil))) (dk_cons (db_of (de_var 1)) (dk_cons (db_of (de_var 2)) dk_nil))))) dss_nil)
    (dss_one (ds_ret (de_make fam (Tk.of (fun _ => takes_of rfl rfl rfl rfl)) k_Aimed_right_left gm_Aimed (da_cons (db_of (de_ix (fun _ => ix_seq) od_ix (db_var 0) (db_of de_int))) (da_cons (db_of (de_ix (fun _ => ix_seq) od_ix (db_var 0) (db_of de_int))) (da_cons (db_of (de_ix (fun _ => ix_seq) od_ix (db_var 0) (db_of de_int))) (da_cons (db_of (de_ix (fun _ => ix_seq) od_ix (db_var 0) (db_of de_int))) da_nil)))) (dk_cons (db_of (de_var 1)) (dk_cons (db_of (de_var 2)) dk_nil))))))))
abbrev st_law_told : Stmt := top 50
theorem sc_law_told : FnScope ["_law_rule", "_law_words", "_law_options_here", "_law_word"] ["_law_rule"] (defScope st_law_told) := ⟨rfl, rfl, rfl, by decide +kernel, rfl, by decide +kernel, by decide +kernel⟩
theorem def_law_told {f : Addr} {fd : FuncData} (Fd : Fun w.K "_law_told" "_law_told" st_law_told f fd) (o_options : Mets P wl mg base w false false 1 "options" tb_options) (p_rods : Prps P wl mg base w 1 "rods" tb_rods) : Def P wl mg base w false false 3 f φ_law_told := by
  refine def_D (ss := ss_law_told) Fd sc_law_told (Fd.binds (ps := ["_law_rule"]) fun _ _ _ _ _ _ us hl => match us, hl with | [_], _ => rfl) fun cdv A outer sh H E hgd hrm => ?_
  have fam : Fam P wl mg base w false 2 (fun _ : Unit => cxOf (CXb false P wl) P wl w.K mg base ["_law_rule", "_law_words", "_law_options_here", "_law_word"] "_law_told" (defScope st_law_told) f cdv A outer sh H E) := ⟨fun _ => rfl, fun _ => rfl, fun _ => rfl, fun _ => rfl, fun _ => rfl, fun _ => hgd, fun _ => hrm⟩
  exact (dss_cons (ds_asg (de_tup (da_cons (db_of (de_lst (da_cons (db_of de_str) (da_cons (db_of de_str) (da_cons (db_of de_str) (da_cons (db_of de_str) da_nil)))))) (da_cons (db_of (de_meth0 fam Tk.no o_options (db_var 0))) da_nil))) (dg_tup (vs := [1, 2]) (dgs_cons 1 (by decide) (fun _ => sc_law_told.nd) (dgs_cons 2 (by decide) (fun _ => sc_law_told.nd) dgs_nil))))
    (dss_one (ds_ret (de_lst (da_cons (db_of (de_prop fam p_rods (db_var 0))) (da_cons (db_of (de_lc [("_law_word", 3)] (fun _ => sc_law_told.nd) (fun _ => blkOk_by (N := ["_law_rule", "_law_words", "_law_options_here", "_law_word"]) (sc := defScope st_law_told) (by decide +kernel)) (di_U (de_var 1)) (dg_name (vs := [3]) 3 (by decide) (fun _ => sc_law_told.nd)) dts_nil (de_if (dt_din (Fam.blk fam _) (db_var 3) (db_var 2)) (de_dget (Fam.blk fam _) (db_var 2) (db_var 3) (fun _ _ => rfl)) (de_tup da_nil)))) da_nil))))))
end
end M7
set_option maxHeartbeats 400000
namespace M7
open PySem PySem.Spec PyProof.Rows L2
def ss_law_due_b0 : SS := (ssDrop (seMutV isLst 3 fAppend (saCons (sbOf (seCB dTuple (saCons (sbOf (seCB dSorted (saCons (sbOf (seLc (siOf (seOp dIx (sbVar 1) (sbVar 4))) (sgName 6) (fun g => .ok true g) (seOp dSub (sbVar 5) (sbVar 6)) [6])) saNil))) saNil))) saNil)))
def ss_law_due : SS := (ssSeq (ssPar 2 3 (seCB dLen (saCons (sbVar 0) saNil)) (seLst saNil))
    (ssSeq (ssFor (siOf (seLst (saCons (sbOf (seTup (saCons (sbOf (seC (.int 0))) (saCons (sbOf (seVar 2)) saNil)))) (saCons (sbOf (seTup (saCons (sbOf (seC (.int 1))) (saCons (sbOf (seVar 2)) saNil)))) (saCons (sbOf (seTup (saCons (sbOf (seC (.int 3))) (saCons (sbOf (seOp dAdd (sbVar 2) (sbOf (seC (.int 1))))) saNil)))) (saCons (sbOf (seTup (saCons (sbOf (seC (.int 2))) (saCons (sbOf (seOp dAdd (sbVar 2) (sbOf (seC (.int 1))))) saNil)))) saNil)))))) (sgTup 2 (sgCons (sgName 4) (sgCons (sgName 5) sgNil))) ss_law_due_b0)
    (ssRet (seLst (saCons (sbOf (seRevL (sbVar 0))) (saCons (sbOf (seVar 3)) saNil))))))
abbrev φ_law_due : Fn := bodyFn 2 7 ss_law_due
def ss_law_is_right : SS := (ssSeq (ssPar 3 4 (seCB dRep (saCons (sbOf (seCall φ_law_told (saCons (sbVar 0) saNil))) saNil)) (seCall φ_flipped (saCons (sbVar 0) saNil)))
    (ssSeq (ssIf (stOr (stNot (stB (seIsi (tCls (onRules false false false true)) (sbVar 4)))) (stNot (stB (seCall φ_law_is_equal (saCons (sbOf (seCall φ_law_told (saCons (sbVar 4) saNil))) (saCons (sbOf (seCall φ_law_due (saCons (sbVar 1) (saCons (sbVar 2) saNil)))) saNil)))))) (ssRet (seC (.bl false))) ssNext)
    (ssSeq (ssAsg (seLst (saCons (sbOf (seVar 1)) (saCons (sbOf (seLc (siOf (seVar 2)) (sgName 6) (fun g => .ok true g) (seCB dTuple (saCons (sbOf (seCB dSorted (saCons (sbVar 6) saNil))) saNil)) [6])) saNil))) (sgName 5))
    (ssRet (seAnd (seCall φ_law_is_equal (saCons (sbOf (seCall φ_law_told (saCons (sbOf (seCall φ_flipped (saCons (sbVar 4) saNil))) saNil))) (saCons (sbVar 5) saNil))) (seOp dEq (sbOf (seCB dRep (saCons (sbOf (seCall φ_law_told (saCons (sbVar 0) saNil))) saNil))) (sbVar 3)))))))
abbrev φ_law_is_right : Fn := bodyFn 3 7 ss_law_is_right
def ss_law_is_refused : SS := (ssSeq (ssTryN mt_RuleError (ssDrop (seCall φ_flipped (saCons (sbVar 0) saNil))) (ssRet (seC (.bl true))))
    (ssRet (seC (.bl false))))
abbrev φ_law_is_refused : Fn := bodyFn 1 1 ss_law_is_refused
def ss_law_b0 : SS := (ssSeq (ssAsg (seCall φ_law_rods (saCons (sbVar 2) (saCons (sbOf (seC (.int 12))) saNil))) (sgName 4))
    (ssSeq (ssAsg (seCall φ_law_options (saCons (sbVar 2) (saCons (sbOf (seCB dLen (saCons (sbVar 4) saNil))) saNil))) (sgName 5))
    (ssSeq (ssIf (stNot (stB (seCall φ_law_is_right (saCons (sbOf (seCall φ_read (saCons (sbOf (seCall φ_law_text (saCons (sbVar 4) (saCons (sbVar 5) saNil)))) saNil))) (saCons (sbVar 4) (saCons (sbVar 5) saNil)))))) (ssRet (seC (.bl false))) ssNext)
    (ssSeq (ssAsg (seSl dSl (sbVar 4) soNone (soSome (seC (.int 4)))) (sgName 6))
    (ssSeq (ssAsg (seCall φ_law_options (saCons (sbVar 2) (saCons (sbOf (seCB dLen (saCons (sbVar 6) saNil))) saNil))) (sgTup 4 (sgCons (sgName 7) (sgCons (sgName 8) (sgCons (sgName 9) (sgCons (sgName 10) sgNil))))))
    (ssSeq (ssIf (stNot (stB (seCall φ_law_is_right (saCons (sbOf (seCall φ_law_held (saCons (sbVar 6) (saCons (sbVar 7) (saCons (sbVar 8) saNil))))) (saCons (sbVar 6) (saCons (sbOf (seLst (saCons (sbOf (seVar 7)) (saCons (sbOf (seVar 8)) (saCons (sbOf (seTup saNil)) (saCons (sbOf (seTup saNil)) saNil)))))) saNil)))))) (ssRet (seC (.bl false))) ssNext)
    (ssSeq (ssIf (stNot (stB (seCall φ_law_is_right (saCons (sbOf (seCall φ_law_aimed (saCons (sbVar 6) (saCons (sbVar 9) (saCons (sbVar 10) saNil))))) (saCons (sbVar 6) (saCons (sbOf (seLst (saCons (sbOf (seTup saNil)) (saCons (sbOf (seTup saNil)) (saCons (sbOf (seVar 9)) (saCons (sbOf (seVar 10)) saNil)))))) saNil)))))) (ssRet (seC (.bl false))) ssNext)
    (ssIf (stNot (stB (seCall φ_law_is_right (saCons (sbOf (seCall φ_Rule_plain (saD (.cls .rule) (saCons (sbOf (seM1 dJoin (sbOf (seC (.str "-"))) (sbOf (seLc (siOf (seVar 4)) (sgName 11) (fun g => .ok true g) (seCB dStr (saCons (sbVar 11) saNil)) [11])))) saNil)))) (saCons (sbVar 4) (saCons (sbOf (seLst (saCons (sbOf (seTup saNil)) (saCons (sbOf (seTup saNil)) (saCons (sbOf (seTup saNil)) (saCons (sbOf (seTup saNil)) saNil)))))) saNil)))))) (ssRet (seC (.bl false))) ssNext))))))))
def ss_law_b1 : SS := (ssSeq (ssAsg (seCall φ_law_source (saCons (sbOf (seCall φ_law_cell (saCons (sbVar 0) (saCons (sbVar 1) saNil)))) saNil)) (sgName 2))
    (ssSeq (ssFor (siA rg1 (saCons (sbOf (seC (.int 6))) saNil)) (sgName 3) ss_law_b0)
    (ssIf (stNot (stB (seCall φ_law_is_refused (saCons (sbOf (seCall φ_law_choose (saCons (sbVar 2) (saCons (sbOf (seLst (saCons (sbOf (seC .non)) (saCons (sbOf (seC (.int 0))) (saCons (sbOf (seC (.bl true))) (saCons (sbOf (seC (.str "2-1"))) (saCons (sbOf (seC (.str ""))) (saCons (sbOf (seTup (saCons (sbOf (seC (.int 2))) (saCons (sbOf (seC (.int 1))) saNil)))) (saCons (sbOf (seLst (saCons (sbOf (seC (.int 2))) saNil))) (saCons (sbOf seDNew) (saCons (sbOf (seTup saNil)) (saCons (sbOf (seC (.str "LR"))) (saCons (sbOf (seC (.int 12))) saNil))))))))))))) saNil)))) saNil)))) (ssRet (seC (.bl false))) ssNext)))
def ss_law : SS := (ssTryN mt_FoldError (ssSeq (ssFor (siA rg1 (saCons (sbOf (seCB dMax2 (saCons (sbOf (seC (.int 1))) (saCons (sbOf (seCB dMin2 (saCons (sbOf (seCB dLen (saCons (sbVar 0) saNil))) (saCons (sbOf (seC (.int 4))) saNil)))) saNil)))) saNil)) (sgName 1) ss_law_b1)
    (ssRet (seC (.bl true)))) (ssRet (seC (.bl false))))
abbrev φ_law : Fn := bodyFn 1 12 ss_law
section
variable {w : WD} {P : Program} {wl : World} {mg : Str → Option Value} {base : Heap}
abbrev st_law_due : Stmt := top 51
theorem sc_law_due : FnScope ["_law_rods_here", "_law_options_here", "_law_many", "_law_found", "_law_spot", "_law_end", "_law_number"] ["_law_rods_here", "_law_options_here"] (defScope st_law_due) := ⟨rfl, rfl, rfl, by decide +kernel, rfl, by decide +kernel, by decide +kernel⟩
theorem def_law_due {f : Addr} {fd : FuncData} (Fd : Fun w.K "_law_due" "_law_due" st_law_due f fd) (m_len : mg "len" = none) (m_sorted : mg "sorted" = none) (m_tuple : mg "tuple" = none) : Def P wl mg base w false false 1 f φ_law_due := by
  refine def_D (ss := ss_law_due) Fd sc_law_due (Fd.binds (ps := ["_law_rods_here", "_law_options_here"]) fun _ _ _ _ _ _ us hl => match us, hl with | [_, _], _ => rfl) fun cdv A outer sh H E hgd hrm => ?_
  have fam : Fam P wl mg base w false 0 (fun _ : Unit => cxOf (CXb false P wl) P wl w.K mg base ["_law_rods_here", "_law_options_here", "_law_many", "_law_found", "_law_spot", "_law_end", "_law_number"] "_law_due" (defScope st_law_due) f cdv A outer sh H E) := ⟨fun _ => rfl, fun _ => rfl, fun _ => rfl, fun _ => rfl, fun _ => rfl, fun _ => hgd, fun _ => hrm⟩
  exact (dss_cons (ds_par 2 3 (fun _ => sc_law_due.nd) (de_callB (fun _ => call_len) cd_len (fun _ => m_len) (by decide +kernel) (da_cons (db_var 0) da_nil)) (de_lst da_nil))
    (dss_cons (ds_for (ss := ss_law_due_b0) (fun _ => passes_of rfl) (di_U (de_lst (da_cons (db_of (de_tup (da_cons (db_of de_int) (da_cons (db_of (de_var 2)) da_nil)))) (da_cons (db_of (de_tup (da_cons (db_of de_int) (da_cons (db_of (de_var 2)) da_nil)))) (da_cons (db_of (de_tup (da_cons (db_of de_int) (da_cons (db_of (de_bin (fun _ => op_addU) od_add (db_var 2) (db_of de_int))) da_nil)))) (da_cons (db_of (de_tup (da_cons (db_of de_int) (da_cons (db_of (de_bin (fun _ => op_addU) od_add (db_var 2) (db_of de_int))) da_nil)))) da_nil)))))) (dg_tup (vs := [4, 5]) (dgs_cons 4 (by decide) (fun _ => sc_law_due.nd) (dgs_cons 5 (by decide) (fun _ => sc_law_due.nd) dgs_nil))) (dss_one (ds_expr (de_mutV 3 (fun _ _ _ _ => own_list) PySem.F.plainAttrs_list PySem.F.slot_list_append PySem.F.type_list_append (fun _ => mt_append) mv_append (da_cons (db_of (de_callTy (fun _ => call_tuple_of) cd_tuple (fun _ => m_tuple) (by decide +kernel) (da_cons (db_of (de_callB (fun _ => CallRor L2.cr_sortedI R7.cr_sortedIT) cd_sorted (fun _ => m_sorted) (by decide +kernel) (da_cons (db_of (de_lc [("_law_number", 6)] (fun _ => sc_law_due.nd) (fun _ => blkOk_by (N := ["_law_rods_here", "_law_options_here", "_law_many", "_law_found", "_law_spot", "_law_end", "_law_number"]) (sc := defScope st_law_due) (by decide +kernel)) (di_U (de_ix (fun _ => ix_seq) od_ix (db_var 1) (db_var 4))) (dg_name (vs := [6]) 6 (by decide) (fun _ => sc_law_due.nd)) dts_nil (de_bin (fun _ => op_sub) od_sub (db_var 5) (db_var 6)))) da_nil))) da_nil))) da_nil)))))
    (dss_one (ds_ret (de_lst (da_cons (db_of (de_revL (db_var 0))) (da_cons (db_of (de_var 3)) da_nil)))))))
abbrev st_law_is_right : Stmt := top 52
theorem sc_law_is_right : FnScope ["_law_rule", "_law_rods_here", "_law_options_here", "_law_kept", "_law_there", "_law_back", "_law_numbers"] ["_law_rule", "_law_rods_here", "_law_options_here"] (defScope st_law_is_right) := ⟨rfl, rfl, rfl, by decide +kernel, rfl, by decide +kernel, by decide +kernel⟩
theorem def_law_is_right {f : Addr} {fd : FuncData} (Fd : Fun w.K "_law_is_right" "_law_is_right" st_law_is_right f fd) (c_law_told : Cal P wl mg base w false false 3 "_law_told" φ_law_told) (sysb : R7.SysB base) (m_repr : mg "repr" = none) (c_flipped : Cal P wl mg base w false true 7 "flipped" φ_flipped) (m_isinstance : mg "isinstance" = none) (gm_Bound : mg "Bound" = some (.ref (w.cls .bound))) (i_Bound : IsiF w (.ref (w.cls .bound)) (tCls (onRules false false false true))) (c_law_due : Cal P wl mg base w false false 1 "_law_due" φ_law_due) (c_law_is_equal : Cal P wl mg base w true false 1 "_law_is_equal" φ_law_is_equal) (m_sorted : mg "sorted" = none) (m_tuple : mg "tuple" = none) : Def P wl mg base w true true 8 f φ_law_is_right := by
  refine def_D (ss := ss_law_is_right) Fd sc_law_is_right (Fd.binds (ps := ["_law_rule", "_law_rods_here", "_law_options_here"]) fun _ _ _ _ _ _ us hl => match us, hl with | [_, _, _], _ => rfl) fun cdv A outer sh H E hgd hrm => ?_
  have fam : Fam P wl mg base w true 7 (fun _ : Unit => cxOf (CXb true P wl) P wl w.K mg base ["_law_rule", "_law_rods_here", "_law_options_here", "_law_kept", "_law_there", "_law_back", "_law_numbers"] "_law_is_right" (defScope st_law_is_right) f cdv A outer sh H E) := ⟨fun _ => rfl, fun _ => rfl, fun _ => rfl, fun _ => rfl, fun _ => rfl, fun _ => hgd, fun _ => hrm⟩
  exact (dss_cons (ds_par 3 4 (fun _ => sc_law_is_right.nd) (de_callB (call_repF fam sysb) cd_rep (fun _ => m_repr) (by decide +kernel) (da_cons (db_of (de_call fam Tk.no c_law_told (da_cons (db_var 0) da_nil))) da_nil)) (de_call fam (Tk.of (fun _ => takes_of rfl rfl rfl rfl)) c_flipped (da_cons (db_var 0) da_nil)))
    (dss_cons (ds_if (dt_of (dw_or (dt_not (dt_val (de_isiC m_isinstance gm_Bound i_Bound (db_var 4)))) (dw_or1 (dt_not (dt_val (de_call fam Tk.no c_law_is_equal (da_cons (db_of (de_call fam Tk.no c_law_told (da_cons (db_var 4) da_nil))) (da_cons (db_of (de_call fam Tk.no c_law_due (da_cons (db_var 1) (da_cons (db_var 2) da_nil)))) da_nil)))))))) (dss_one (ds_ret de_bl)) dss_nil)
    (dss_cons (ds_set 5 (fun _ => sc_law_is_right.nd) (de_lst (da_cons (db_of (de_var 1)) (da_cons (db_of (de_lc [("_law_numbers", 6)] (fun _ => sc_law_is_right.nd) (fun _ => blkOk_by (N := ["_law_rule", "_law_rods_here", "_law_options_here", "_law_kept", "_law_there", "_law_back", "_law_numbers"]) (sc := defScope st_law_is_right) (by decide +kernel)) (di_U (de_var 2)) (dg_name (vs := [6]) 6 (by decide) (fun _ => sc_law_is_right.nd)) dts_nil (de_callTy (fun _ => call_tuple_of) cd_tuple (fun _ => m_tuple) (by decide +kernel) (da_cons (db_of (de_callB (fun _ => CallRor L2.cr_sortedI R7.cr_sortedIT) cd_sorted (fun _ => m_sorted) (by decide +kernel) (da_cons (db_var 6) da_nil))) da_nil)))) da_nil))))
    (dss_one (ds_ret (de_and (de_call fam Tk.no c_law_is_equal (da_cons (db_of (de_call fam Tk.no c_law_told (da_cons (db_of (de_call fam (Tk.of (fun _ => takes_of rfl rfl rfl rfl)) c_flipped (da_cons (db_var 4) da_nil))) da_nil))) (da_cons (db_var 5) da_nil))) (de_one (de_cmp (fun i => op_eqD (Fam.room fam i).units) od_eq (db_of (de_callB (call_repF fam sysb) cd_rep (fun _ => m_repr) (by decide +kernel) (da_cons (db_of (de_call fam Tk.no c_law_told (da_cons (db_var 0) da_nil))) da_nil))) (db_var 3)))))))))
abbrev st_law_is_refused : Stmt := top 53
theorem sc_law_is_refused : FnScope ["_law_value"] ["_law_value"] (defScope st_law_is_refused) := ⟨rfl, rfl, rfl, by decide +kernel, rfl, by decide +kernel, by decide +kernel⟩
theorem def_law_is_refused {f : Addr} {fd : FuncData} (Fd : Fun w.K "_law_is_refused" "_law_is_refused" st_law_is_refused f fd) (c_flipped : Cal P wl mg base w false true 7 "flipped" φ_flipped) (h_RuleError : Cth w mg "RuleError" .rule mt_RuleError) : Def P wl mg base w false false 8 f φ_law_is_refused := by
  refine def_D (ss := ss_law_is_refused) Fd sc_law_is_refused (Fd.binds (ps := ["_law_value"]) fun _ _ _ _ _ _ us hl => match us, hl with | [_], _ => rfl) fun cdv A outer sh H E hgd hrm => ?_
  have fam : Fam P wl mg base w false 7 (fun _ : Unit => cxOf (CXb false P wl) P wl w.K mg base ["_law_value"] "_law_is_refused" (defScope st_law_is_refused) f cdv A outer sh H E) := ⟨fun _ => rfl, fun _ => rfl, fun _ => rfl, fun _ => rfl, fun _ => rfl, fun _ => hgd, fun _ => hrm⟩
  exact (dss_cons (ds_tryN h_RuleError.ctc h_RuleError.nm (fun W' => (dss_one (ds_expr (de_call (Fam.tr fam) (Tk.of tr_takes) c_flipped (da_cons (db_var 0) da_nil))))) (dss_one (ds_ret de_bl)))
    (dss_one (ds_ret de_bl)))
abbrev st_law : Stmt := top 54
theorem sc_law : FnScope ["_law_script", "_law_k", "_law_source_here", "_law_lap", "_law_rods_here", "_law_options_here", "_law_few", "_law_equal", "_law_bent", "_law_east", "_law_west", "_law_rod"] ["_law_script"] (defScope st_law) := ⟨rfl, rfl, rfl, by decide +kernel, rfl, by decide +kernel, by decide +kernel⟩
theorem def_law {f : Addr} {fd : FuncData} (Fd : Fun w.K "law" "law" st_law f fd) (m_len : mg "len" = none) (m_min : mg "min" = none) (m_max : mg "max" = none) (m_range : mg "range" = none) (c_law_cell : Cal P wl mg base w false false 1 "_law_cell" φ_law_cell) (c_law_source : Cal P wl mg base w false false 1 "_law_source" φ_law_source) (c_law_rods : Cal P wl mg base w false false 2 "_law_rods" φ_law_rods) (c_law_options : Cal P wl mg base w false false 3 "_law_options" φ_law_options) (c_law_text : Cal P wl mg base w false false 1 "_law_text" φ_law_text) (c_read : Cal P wl mg base w false true 7 "read" φ_read) (c_law_is_right : Cal P wl mg base w true true 8 "_law_is_right" φ_law_is_right) (c_law_held : Cal P wl mg base w false true 6 "_law_held" φ_law_held) (c_law_aimed : Cal P wl mg base w false true 6 "_law_aimed" φ_law_aimed) (m_str : mg "str" = none) (t_Rule_plain : Cmt P wl mg base w true 5 .rule "plain" φ_Rule_plain) (gm_Rule : mg "Rule" = some (.ref (w.cls .rule))) (c_law_choose : Cal P wl mg base w false false 2 "_law_choose" φ_law_choose) (c_law_is_refused : Cal P wl mg base w false false 8 "_law_is_refused" φ_law_is_refused) (h_FoldError : Cth w mg "FoldError" .fold mt_FoldError) : Def P wl mg base w true false 9 f φ_law := by
  refine def_D (ss := ss_law) Fd sc_law (Fd.binds (ps := ["_law_script"]) fun _ _ _ _ _ _ us hl => match us, hl with | [_], _ => rfl) fun cdv A outer sh H E hgd hrm => ?_
  have fam : Fam P wl mg base w true 8 (fun _ : Unit => cxOf (CXb false P wl) P wl w.K mg base ["_law_script", "_law_k", "_law_source_here", "_law_lap", "_law_rods_here", "_law_options_here", "_law_few", "_law_equal", "_law_bent", "_law_east", "_law_west", "_law_rod"] "law" (defScope st_law) f cdv A outer sh H E) := ⟨fun _ => rfl, fun _ => rfl, fun _ => rfl, fun _ => rfl, fun _ => rfl, fun _ => hgd, fun _ => hrm⟩
  exact (dss_one (ds_tryN h_FoldError.ctc h_FoldError.nm (fun W' => (dss_cons (ds_for (ss := ss_law_b1) tr_passes (di_range1 (fun _ => m_range) (da_cons (db_of (de_callB (fun _ => call_max2 rfl) cd_max2 (fun _ => m_max) (by decide +kernel) (da_cons (db_of de_int) (da_cons (db_of (de_callB (fun _ => call_min2 rfl) cd_min2 (fun _ => m_min) (by decide +kernel) (da_cons (db_of (de_callB (fun _ => call_len) cd_len (fun _ => m_len) (by decide +kernel) (da_cons (db_var 0) da_nil))) (da_cons (db_of de_int) da_nil)))) da_nil)))) da_nil)) (dg_name (vs := [1]) 1 (by decide) (fun _ => sc_law.nd)) (dss_cons (ds_set 2 (fun _ => sc_law.nd) (de_call (Fam.tr fam) Tk.no c_law_source (da_cons (db_of (de_call (Fam.tr fam) Tk.no c_law_cell (da_cons (db_var 0) (da_cons (db_var 1) da_nil)))) da_nil)))
    (dss_cons (ds_for (ss := ss_law_b0) tr_passes (di_range1 (fun _ => m_range) (da_cons (db_of de_int) da_nil)) (dg_name (vs := [3]) 3 (by decide) (fun _ => sc_law.nd)) (dss_cons (ds_set 4 (fun _ => sc_law.nd) (de_call (Fam.tr fam) Tk.no c_law_rods (da_cons (db_var 2) (da_cons (db_of de_int) da_nil))))
    (dss_cons (ds_set 5 (fun _ => sc_law.nd) (de_call (Fam.tr fam) Tk.no c_law_options (da_cons (db_var 2) (da_cons (db_of (de_callB (fun _ => call_len) cd_len (fun _ => m_len) (by decide +kernel) (da_cons (db_var 4) da_nil))) da_nil))))
    (dss_cons (ds_if (dt_not (dt_val (de_call (Fam.tr fam) (Tk.of tr_takes) c_law_is_right (da_cons (db_of (de_call (Fam.tr fam) (Tk.of tr_takes) c_read (da_cons (db_of (de_call (Fam.tr fam) Tk.no c_law_text (da_cons (db_var 4) (da_cons (db_var 5) da_nil)))) da_nil))) (da_cons (db_var 4) (da_cons (db_var 5) da_nil)))))) (dss_one (ds_ret de_bl)) dss_nil)
    (dss_cons (ds_set 6 (fun _ => sc_law.nd) (de_sl (db_var 4) do_none (do_some de_int)))
    (dss_cons (ds_asg (de_call (Fam.tr fam) Tk.no c_law_options (da_cons (db_var 2) (da_cons (db_of (de_callB (fun _ => call_len) cd_len (fun _ => m_len) (by decide +kernel) (da_cons (db_var 6) da_nil))) da_nil))) (dg_tup (vs := [7, 8, 9, 10]) (dgs_cons 7 (by decide) (fun _ => sc_law.nd) (dgs_cons 8 (by decide) (fun _ => sc_law.nd) (dgs_cons 9 (by decide) (fun _ => sc_law.nd) (dgs_cons 10 (by decide) (fun _ => sc_law.nd) dgs_nil))))))
    (dss_cons (ds_if (dt_not (dt_val (de_call (Fam.tr fam) (Tk.of tr_takes) c_law_is_right (da_cons (db_of (de_call (Fam.tr fam) (Tk.of tr_takes) c_law_held (da_cons (db_var 6) (da_cons (db_var 7) (da_cons (db_var 8) da_nil))))) (da_cons (db_var 6) (da_cons (db_of (de_lst (da_cons (db_of (de_var 7)) (da_cons (db_of (de_var 8)) (da_cons (db_of (de_tup da_nil)) (da_cons (db_of (de_tup da_nil)) da_nil)))))) da_nil)))))) (dss_one (ds_ret de_bl)) dss_nil)
    (dss_cons (ds_if (dt_not (dt_val (de_call (Fam.tr fam) (Tk.of tr_takes) c_law_is_right (da_cons (db_of (de_call (Fam.tr fam) (Tk.of tr_takes) c_law_aimed (da_cons (db_var 6) (da_cons (db_var 9) (da_cons (db_var 10) da_nil))))) (da_cons (db_var 6) (da_cons (db_of (de_lst (da_cons (db_of (de_tup da_nil)) (da_cons (db_of (de_tup da_nil)) (da_cons (db_of (de_var 9)) (da_cons (db_of (de_var 10)) da_nil)))))) da_nil)))))) (dss_one (ds_ret de_bl)) dss_nil)
    (dss_one (ds_if (dt_not (dt_val (de_call (Fam.tr fam) (Tk.of tr_takes) c_law_is_right (da_cons (db_of (de_cmeth (Fam.tr fam) (Tk.of tr_takes) t_Rule_plain gm_Rule (da_cons (db_of (de_join (db_of de_str) (db_of (de_lc [("_law_rod", 11)] (fun _ => sc_law.nd) (fun _ => blkOk_by (N := ["_law_script", "_law_k", "_law_source_here", "_law_lap", "_law_rods_here", "_law_options_here", "_law_few", "_law_equal", "_law_bent", "_law_east", "_law_west", "_law_rod"]) (sc := defScope st_law) (by decide +kernel)) (di_U (de_var 4)) (dg_name (vs := [11]) 11 (by decide) (fun _ => sc_law.nd)) dts_nil (de_callTy (fun _ => call_strU) cd_str (fun _ => m_str) (by decide +kernel) (da_cons (db_var 11) da_nil)))))) da_nil))) (da_cons (db_var 4) (da_cons (db_of (de_lst (da_cons (db_of (de_tup da_nil)) (da_cons (db_of (de_tup da_nil)) (da_cons (db_of (de_tup da_nil)) (da_cons (db_of (de_tup da_nil)) da_nil)))))) da_nil)))))) (dss_one (ds_ret de_bl)) dss_nil))))))))))
    (dss_one (ds_if (dt_not (dt_val (de_call (Fam.tr fam) Tk.no c_law_is_refused (da_cons (db_of (de_call (Fam.tr fam) Tk.no c_law_choose (da_cons (db_var 2) (da_cons (db_of (de_lst (da_cons (db_of de_non) (da_cons (db_of de_int) (da_cons (db_of de_bl) (da_cons (db_of de_str) (da_cons (db_of de_str) (da_cons (db_of (de_tup (da_cons (db_of de_int) (da_cons (db_of de_int) da_nil)))) (da_cons (db_of (de_lst (da_cons (db_of de_int) da_nil))) (da_cons (db_of de_dnew) (da_cons (db_of (de_tup da_nil)) (da_cons (db_of de_str) (da_cons (db_of de_int) da_nil))))))))))))) da_nil)))) da_nil)))) (dss_one (ds_ret de_bl)) dss_nil)))))
    (dss_one (ds_ret de_bl)))) (dss_one (ds_ret de_bl))))
theorem fnx_law {f : Addr} {fd : FuncData} (Fd : Fun w.K "law" "law" st_law f fd) (m_len : mg "len" = none) (m_min : mg "min" = none) (m_max : mg "max" = none) (m_range : mg "range" = none) (c_law_cell : Cal P wl mg base w false false 1 "_law_cell" φ_law_cell) (c_law_source : Cal P wl mg base w false false 1 "_law_source" φ_law_source) (c_law_rods : Cal P wl mg base w false false 2 "_law_rods" φ_law_rods) (c_law_options : Cal P wl mg base w false false 3 "_law_options" φ_law_options) (c_law_text : Cal P wl mg base w false false 1 "_law_text" φ_law_text) (c_read : Cal P wl mg base w false true 7 "read" φ_read) (c_law_is_right : Cal P wl mg base w true true 8 "_law_is_right" φ_law_is_right) (c_law_held : Cal P wl mg base w false true 6 "_law_held" φ_law_held) (c_law_aimed : Cal P wl mg base w false true 6 "_law_aimed" φ_law_aimed) (m_str : mg "str" = none) (t_Rule_plain : Cmt P wl mg base w true 5 .rule "plain" φ_Rule_plain) (gm_Rule : mg "Rule" = some (.ref (w.cls .rule))) (c_law_choose : Cal P wl mg base w false false 2 "_law_choose" φ_law_choose) (c_law_is_refused : Cal P wl mg base w false false 8 "_law_is_refused" φ_law_is_refused) (h_FoldError : Cth w mg "FoldError" .fold mt_FoldError) : FnX true P wl w.K mg base (CXb false P wl) 9 f fd ["_law_script"] (spD w φ_law) := by
  refine fnx_D (N := ["_law_script", "_law_k", "_law_source_here", "_law_lap", "_law_rods_here", "_law_options_here", "_law_few", "_law_equal", "_law_bent", "_law_east", "_law_west", "_law_rod"]) (ps := ["_law_script"]) (k := 8) (ss := ss_law) Fd sc_law fun cdv A outer sh H E hgd hrm => ?_
  have fam : Fam P wl mg base w true 8 (fun _ : Unit => cxOf (CXb false P wl) P wl w.K mg base ["_law_script", "_law_k", "_law_source_here", "_law_lap", "_law_rods_here", "_law_options_here", "_law_few", "_law_equal", "_law_bent", "_law_east", "_law_west", "_law_rod"] "law" (defScope st_law) f cdv A outer sh H E) := ⟨fun _ => rfl, fun _ => rfl, fun _ => rfl, fun _ => rfl, fun _ => rfl, fun _ => hgd, fun _ => hrm⟩
  exact (dss_one (ds_tryN h_FoldError.ctc h_FoldError.nm (fun W' => (dss_cons (ds_for (ss := ss_law_b1) tr_passes (di_range1 (fun _ => m_range) (da_cons (db_of (de_callB (fun _ => call_max2 rfl) cd_max2 (fun _ => m_max) (by decide +kernel) (da_cons (db_of de_int) (da_cons (db_of (de_callB (fun _ => call_min2 rfl) cd_min2 (fun _ => m_min) (by decide +kernel) (da_cons (db_of (de_callB (fun _ => call_len) cd_len (fun _ => m_len) (by decide +kernel) (da_cons (db_var 0) da_nil))) (da_cons (db_of de_int) da_nil)))) da_nil)))) da_nil)) (dg_name (vs := [1]) 1 (by decide) (fun _ => sc_law.nd)) (dss_cons (ds_set 2 (fun _ => sc_law.nd) (de_call (Fam.tr fam) Tk.no c_law_source (da_cons (db_of (de_call (Fam.tr fam) Tk.no c_law_cell (da_cons (db_var 0) (da_cons (db_var 1) da_nil)))) da_nil)))
    (dss_cons (ds_for (ss := ss_law_b0) tr_passes (di_range1 (fun _ => m_range) (da_cons (db_of de_int) da_nil)) (dg_name (vs := [3]) 3 (by decide) (fun _ => sc_law.nd)) (dss_cons (ds_set 4 (fun _ => sc_law.nd) (de_call (Fam.tr fam) Tk.no c_law_rods (da_cons (db_var 2) (da_cons (db_of de_int) da_nil))))
    (dss_cons (ds_set 5 (fun _ => sc_law.nd) (de_call (Fam.tr fam) Tk.no c_law_options (da_cons (db_var 2) (da_cons (db_of (de_callB (fun _ => call_len) cd_len (fun _ => m_len) (by decide +kernel) (da_cons (db_var 4) da_nil))) da_nil))))
    (dss_cons (ds_if (dt_not (dt_val (de_call (Fam.tr fam) (Tk.of tr_takes) c_law_is_right (da_cons (db_of (de_call (Fam.tr fam) (Tk.of tr_takes) c_read (da_cons (db_of (de_call (Fam.tr fam) Tk.no c_law_text (da_cons (db_var 4) (da_cons (db_var 5) da_nil)))) da_nil))) (da_cons (db_var 4) (da_cons (db_var 5) da_nil)))))) (dss_one (ds_ret de_bl)) dss_nil)
    (dss_cons (ds_set 6 (fun _ => sc_law.nd) (de_sl (db_var 4) do_none (do_some de_int)))
    (dss_cons (ds_asg (de_call (Fam.tr fam) Tk.no c_law_options (da_cons (db_var 2) (da_cons (db_of (de_callB (fun _ => call_len) cd_len (fun _ => m_len) (by decide +kernel) (da_cons (db_var 6) da_nil))) da_nil))) (dg_tup (vs := [7, 8, 9, 10]) (dgs_cons 7 (by decide) (fun _ => sc_law.nd) (dgs_cons 8 (by decide) (fun _ => sc_law.nd) (dgs_cons 9 (by decide) (fun _ => sc_law.nd) (dgs_cons 10 (by decide) (fun _ => sc_law.nd) dgs_nil))))))
    (dss_cons (ds_if (dt_not (dt_val (de_call (Fam.tr fam) (Tk.of tr_takes) c_law_is_right (da_cons (db_of (de_call (Fam.tr fam) (Tk.of tr_takes) c_law_held (da_cons (db_var 6) (da_cons (db_var 7) (da_cons (db_var 8) da_nil))))) (da_cons (db_var 6) (da_cons (db_of (de_lst (da_cons (db_of (de_var 7)) (da_cons (db_of (de_var 8)) (da_cons (db_of (de_tup da_nil)) (da_cons (db_of (de_tup da_nil)) da_nil)))))) da_nil)))))) (dss_one (ds_ret de_bl)) dss_nil)
    (dss_cons (ds_if (dt_not (dt_val (de_call (Fam.tr fam) (Tk.of tr_takes) c_law_is_right (da_cons (db_of (de_call (Fam.tr fam) (Tk.of tr_takes) c_law_aimed (da_cons (db_var 6) (da_cons (db_var 9) (da_cons (db_var 10) da_nil))))) (da_cons (db_var 6) (da_cons (db_of (de_lst (da_cons (db_of (de_tup da_nil)) (da_cons (db_of (de_tup da_nil)) (da_cons (db_of (de_var 9)) (da_cons (db_of (de_var 10)) da_nil)))))) da_nil)))))) (dss_one (ds_ret de_bl)) dss_nil)
    (dss_one (ds_if (dt_not (dt_val (de_call (Fam.tr fam) (Tk.of tr_takes) c_law_is_right (da_cons (db_of (de_cmeth (Fam.tr fam) (Tk.of tr_takes) t_Rule_plain gm_Rule (da_cons (db_of (de_join (db_of de_str) (db_of (de_lc [("_law_rod", 11)] (fun _ => sc_law.nd) (fun _ => blkOk_by (N := ["_law_script", "_law_k", "_law_source_here", "_law_lap", "_law_rods_here", "_law_options_here", "_law_few", "_law_equal", "_law_bent", "_law_east", "_law_west", "_law_rod"]) (sc := defScope st_law) (by decide +kernel)) (di_U (de_var 4)) (dg_name (vs := [11]) 11 (by decide) (fun _ => sc_law.nd)) dts_nil (de_callTy (fun _ => call_strU) cd_str (fun _ => m_str) (by decide +kernel) (da_cons (db_var 11) da_nil)))))) da_nil))) (da_cons (db_var 4) (da_cons (db_of (de_lst (da_cons (db_of (de_tup da_nil)) (da_cons (db_of (de_tup da_nil)) (da_cons (db_of (de_tup da_nil)) (da_cons (db_of (de_tup da_nil)) da_nil)))))) da_nil)))))) (dss_one (ds_ret de_bl)) dss_nil))))))))))
    (dss_one (ds_if (dt_not (dt_val (de_call (Fam.tr fam) Tk.no c_law_is_refused (da_cons (db_of (de_call (Fam.tr fam) Tk.no c_law_choose (da_cons (db_var 2) (da_cons (db_of (de_lst (da_cons (db_of de_non) (da_cons (db_of de_int) (da_cons (db_of de_bl) (da_cons (db_of de_str) (da_cons (db_of de_str) (da_cons (db_of (de_tup (da_cons (db_of de_int) (da_cons (db_of de_int) da_nil)))) (da_cons (db_of (de_lst (da_cons (db_of de_int) da_nil))) (da_cons (db_of de_dnew) (da_cons (db_of (de_tup da_nil)) (da_cons (db_of de_str) (da_cons (db_of de_int) da_nil))))))))))))) da_nil)))) da_nil)))) (dss_one (ds_ret de_bl)) dss_nil)))))
    (dss_one (ds_ret de_bl)))) (dss_one (ds_ret de_bl))))
end
end M7
/-! The law's own defs, as plain functions. -/
namespace M7
open PySem PySem.Spec PyProof.Rows L2
theorem draw_ok (a b c m : Int) (h0 : 0 < m) (h1 : m < 1073741824) : ∃ r a' b' c' : Int, 0 ≤ r ∧ r < m ∧ φ_law_draw [(true, .lst [.int a, .int b, .int c]), (false, .int m)] = .ret false (.int r) [(true, .lst [.int a', .int b', .int c']), (false, .int m)] := by
  by_cases ha : 0 < a
  · refine ⟨a % m, a / m, b, c, Int.emod_nonneg _ (by omega), Int.emod_lt_of_pos _ h0, ?_⟩
    simp [φ_law_draw, bodyFn, ss_law_draw, argG, ssSeq, ssIf, ofO, stB, seOp, sbOf, seC, sbVar, O.bind, Ref.get, dIx, L2.atI, ixN, ofOpt, dGt, dCmp, ha, ssAsg, sgName, setS, dMod, i2, h0, Fl.pin, ssSetL, ownAt, Fl.own, dDiv, CDiv, h1, ssRet, seMove, endsOf, endOf, Fl.fz, ssNext]
  · obtain ⟨b1, eb⟩ : ∃ x, x = (b * 48271 + 1009 * (c + 1) + 7) % 2147483647 := ⟨_, rfl⟩
    obtain ⟨m1, e1⟩ : ∃ x, x = (b1 * b1 + 69621 * b1 + 11) % 2147483629 := ⟨_, rfl⟩
    obtain ⟨m2, e2⟩ : ∃ x, x = (m1 * m1 + 40014 * m1) % 2147483587 := ⟨_, rfl⟩
    have hb : 0 ≤ b1 ∧ b1 < 2147483647 := by rw [eb]; exact ⟨Int.emod_nonneg _ (by decide), Int.emod_lt_of_pos _ (by decide)⟩
    have hm : 0 ≤ m1 ∧ m1 < 2147483629 := by rw [e1]; exact ⟨Int.emod_nonneg _ (by decide), Int.emod_lt_of_pos _ (by decide)⟩
    have c1 : CMul b 48271 := .inr (by decide)
    have c2 : CMul 1009 (c + 1) := .inl (by decide)
    have c3 : CMul b1 b1 := .inl (by omega)
    have c4 : CMul 69621 b1 := .inl (by decide)
    have c5 : CMul m1 m1 := .inl (by omega)
    have c6 : CMul 40014 m1 := .inl (by decide)
    refine ⟨m2 / 16 % m, a, b1, c + 1, Int.emod_nonneg _ (by omega), Int.emod_lt_of_pos _ h0, ?_⟩
    simp [φ_law_draw, bodyFn, ss_law_draw, argG, ssSeq, ssIf, ofO, stB, seOp, sbOf, seC, sbVar, O.bind, Ref.get, dIx, L2.atI, ixN, ofOpt, dGt, dCmp, ha, ssAsg, sgName, setS, dMod, i2, h0, Fl.pin, ssSetL, ownAt, Fl.own, dDiv, CDiv, h1, ssRet, seMove, endsOf, endOf, Fl.fz, ssNext, dAdd, dMulI, c1, c2, c3, c4, c5, c6, ← eb, ← e1, ← e2]
end M7
namespace M7
open PySem PySem.Spec PyProof.Rows L2
theorem source_ok (n : Int) : ∃ x y : Int, φ_law_source [(false, .int n)] = .ret true (.lst [.int x, .int y, .int 0]) [(false, .int n)] := by
  refine ⟨if n - 10 ^ 18 > 0 then n - 10 ^ 18 else 0, n % 2147483629 + 1, ?_⟩
  have cp : CPow 10 18 := by unfold CPow; decide
  simp [φ_law_source, bodyFn, ss_law_source, argG, ssRet, ofO, seLst, saCons, sbOf, seCB, dMax2, seC, saNil, seOp, dSub, dPow, dAdd, dMod, i2, sbVar, O.bind, Ref.get, ofOpt, refsGet, datas, sized, show (3 : Nat) ≤ sizeLine by decide, endsOf, endOf, Fl.fz, cp]
theorem cell_ok (ns : List Int) (i : Int) (h0 : 0 ≤ i) (h1 : i < 1000) (hl : ns.length ≤ 63) : ∃ v : Int, φ_law_cell [(false, .scr (ns.map .int)), (false, .int i)] = .ret false (.int v) [(false, .scr (ns.map .int)), (false, .int i)] := by
  by_cases h : i < ns.length
  · obtain ⟨k, rfl⟩ : ∃ k : Nat, i = k := ⟨i.toNat, by omega⟩
    have hk : k < ns.length := by omega
    refine ⟨ns[k], ?_⟩
    simp [φ_law_cell, bodyFn, ss_law_cell, argG, ssSeq, ssIf, stB, seOp, sbVar, sbOf, seCB, refsGet, dLen, saCons, saNil, O.bind, Ref.get, ofOpt, dLt, dCmp, ofO, ssRet, dIx, L2.atI, ixN, seC, ssNext, endsOf, endOf, Fl.fz, hk]
  · refine ⟨0, ?_⟩
    simp [φ_law_cell, bodyFn, ss_law_cell, argG, ssSeq, ssIf, stB, seOp, sbVar, sbOf, seCB, refsGet, dLen, saCons, saNil, O.bind, Ref.get, ofOpt, dLt, dCmp, ofO, ssRet, dIx, L2.atI, ixN, seC, ssNext, endsOf, endOf, Fl.fz, h]
theorem choose_ok (a b c : Int) (ds : List D) (h0 : 0 < ds.length) (h1 : ds.length < 1073741824) : ∃ (d : D) (a' b' c' : Int), d ∈ ds ∧ φ_law_choose [(true, .lst [.int a, .int b, .int c]), (false, .lst ds)] = .ret false d [(true, .lst [.int a', .int b', .int c']), (false, .lst ds)] := by
  obtain ⟨r, a', b', c', r0, r1, e⟩ := draw_ok a b c ds.length (by omega) (by omega)
  obtain ⟨k, rfl⟩ : ∃ k : Nat, r = k := ⟨r.toNat, by omega⟩
  have hk : k < ds.length := by omega
  refine ⟨ds[k], a', b', c', List.getElem_mem hk, ?_⟩
  show bodyFn 2 2 ss_law_choose _ = _
  unfold bodyFn
  simp [ss_law_choose, argG, ssRet, ofO, seOp, sbVar, sbOf, seCall, saCons, saNil, seCB, refsGet, dLen, O.bind, Ref.get, ofOpt, distinct, lentOf, argsOf, argOf, Fl.own, e, giveBack, dIx, L2.atI, ixN, hk, endsOf, endOf, Fl.fz]
end M7
namespace M7
open PySem PySem.Spec PyProof.Rows L2
theorem loopL_nx {sg : SG} {body : SS} (I : Nat → G → Prop) : ∀ {ds : List D} {g : G} {i : Nat}, I i g → (∀ j d g, ds[j]? = some d → I (i + j) g → ∃ g1 g2, sg (false, d) g = some g1 ∧ body g1 = .nx g2 ∧ I (i + j + 1) g2) → ∃ g', loopL sg body ds g = .nx g' ∧ I (i + ds.length) g'
  | [], g, i, h, _ => ⟨g, rfl, h⟩
  | d :: ds, g, i, h, st => by
    obtain ⟨g1, g2, e1, e2, h2⟩ := st 0 d g rfl h
    obtain ⟨g', e3, h3⟩ := loopL_nx I (ds := ds) (g := g2) (i := i + 1) h2 fun j d g q hi => by
      have := st (j + 1) d g (by simpa using q) (by rw [show i + (j + 1) = i + 1 + j by omega]; exact hi)
      rw [show i + (j + 1) + 1 = i + 1 + j + 1 by omega] at this
      exact this
    refine ⟨g', ?_, by rw [List.length_cons, show i + (ds.length + 1) = i + 1 + ds.length by omega]; exact h3⟩
    unfold loopL
    rw [e1]
    simp only [e2]
    exact e3
theorem dEq_int (i j : Int) : dEq (.int i) (.int j) = some (false, .bl (decide (i = j))) := by
  unfold dEq
  rw [show ((M7.D.int i).cmpable && (M7.D.int j).cmpable) = true from rfl, if_pos rfl]
  show some (false, M7.D.bl (PyData.eqv (.int i) (.int j))) = _
  simp only [PyData.eqv]
  rw [show (i == j) = decide (i = j) from by rw [Bool.eq_iff_iff]; simp]
/-- a source: three ints of one's own -/
def isSrc (d : D) : Prop := ∃ a b c : Int, d = .lst [.int a, .int b, .int c]
def Rod (m : Int) : Prop := 1 ≤ m ∧ m ≤ 40
theorem rods_step (a b c : Int) (most many way one at_ : Int) (ms : List Int) (hw : 0 ≤ way ∧ way < 5) (h1 : Rod one) (hm : ∀ m ∈ ms, Rod m) (hl : ms.length < 1000) :
    ∃ a' b' c' m, Rod m ∧ ss_law_rods_b0 [some (.p, .lst [.int a, .int b, .int c]), some (.f, .int most), some (.f, .int many), some (.f, .int way), some (.f, .int one), some (.o, .lst (ms.map .int)), some (.f, .int at_)] =
      .nx [some (.p, .lst [.int a', .int b', .int c']), some (.f, .int most), some (.f, .int many), some (.f, .int way), some (.f, .int one), some (.o, .lst ((ms ++ [m]).map .int)), some (.f, .int at_)] := by
  have hz : ms.length < sizeLine := Nat.lt_trans hl (by decide)
  obtain rfl | rfl | rfl | rfl | rfl : way = 0 ∨ way = 1 ∨ way = 2 ∨ way = 3 ∨ way = 4 := by omega
  · obtain ⟨r, a', b', c', r0, r1, e⟩ := draw_ok a b c 4 (by decide) (by decide)
    refine ⟨a', b', c', 1 + r, ⟨by omega, by omega⟩, ?_⟩
    simp [ss_law_rods_b0, ssSeq, ssIf, stB, seOp, sbVar, sbOf, seC, O.bind, Ref.get, ofOpt, dEq_int, ofO, ssNext, ssDrop, seMutV, seMut, saCons, saNil, seCall, distinct, lentOf, argsOf, argOf, Fl.own, e, giveBack, dAdd, datas, fAppend, isLst, ownAt, hz]
  · refine ⟨a, b, c, one, h1, ?_⟩
    simp [ss_law_rods_b0, ssSeq, ssIf, stB, seOp, sbVar, sbOf, seC, O.bind, Ref.get, ofOpt, dEq_int, ofO, ssNext, ssDrop, seMutV, seMut, seVar, saCons, saNil, Fl.own, Fl.fz, datas, fAppend, isLst, ownAt, hz]
  · obtain ⟨k1, k2⟩ := h1
    refine ⟨a, b, c, if one - at_ % 2 > 1 then one - at_ % 2 else 1, ⟨by split <;> omega, by split <;> omega⟩, ?_⟩
    simp [ss_law_rods_b0, ssSeq, ssIf, stB, seOp, sbVar, sbOf, seC, O.bind, Ref.get, ofOpt, dEq_int, ofO, ssNext, ssDrop, seMutV, seMut, seVar, saCons, saNil, Fl.own, Fl.fz, datas, fAppend, isLst, ownAt, hz, seCB, refsGet, dMax2, dSub, dMod, i2]
  · obtain ⟨r, a', b', c', r0, r1, e⟩ := draw_ok a b c 11 (by decide) (by decide)
    refine ⟨a', b', c', 30 + r, ⟨by omega, by omega⟩, ?_⟩
    simp [ss_law_rods_b0, ssSeq, ssIf, stB, seOp, sbVar, sbOf, seC, O.bind, Ref.get, ofOpt, dEq_int, ofO, ssNext, ssDrop, seMutV, seMut, saCons, saNil, seCall, distinct, lentOf, argsOf, argOf, Fl.own, e, giveBack, dAdd, datas, fAppend, isLst, ownAt, hz]
  · obtain ⟨r, a', b', c', r0, r1, e⟩ := draw_ok a b c 40 (by decide) (by decide)
    refine ⟨a', b', c', 1 + r, ⟨by omega, by omega⟩, ?_⟩
    simp [ss_law_rods_b0, ssSeq, ssIf, stB, seOp, sbVar, sbOf, seC, O.bind, Ref.get, ofOpt, dEq_int, ofO, ssNext, ssDrop, seMutV, seMut, saCons, saNil, seCall, distinct, lentOf, argsOf, argOf, Fl.own, e, giveBack, dAdd, datas, fAppend, isLst, ownAt, hz]
theorem rods_ok (a b c most : Int) (h0 : 1 ≤ most) (h1 : most ≤ 900) : ∃ (ms : List Int) (a' b' c' : Int), 1 ≤ ms.length ∧ (ms.length : Int) ≤ most ∧ (∀ m ∈ ms, Rod m) ∧
    φ_law_rods [(true, .lst [.int a, .int b, .int c]), (false, .int most)] = .ret true (.lst (ms.map .int)) [(true, .lst [.int a', .int b', .int c']), (false, .int most)] := by
  obtain ⟨r1, a1, b1, c1, p1, q1, e1⟩ := draw_ok a b c most (by omega) (by omega)
  obtain ⟨r2, a2, b2, c2, p2, q2, e2⟩ := draw_ok a1 b1 c1 5 (by decide) (by decide)
  obtain ⟨r3, a3, b3, c3, p3, q3, e3⟩ := draw_ok a2 b2 c2 40 (by decide) (by decide)
  obtain ⟨g', e4, a', b', c', x, ms, hm, hl, hg⟩ := loopL_nx (sg := sgName 6) (body := ss_law_rods_b0) (ds := rangeD 0 (1 + r1).toNat) (i := 0)
    (fun i g => ∃ (a b c : Int) (x : Option (Fl × D)) (ms : List Int), (∀ m ∈ ms, Rod m) ∧ ms.length = i ∧ g = [some (.p, .lst [.int a, .int b, .int c]), some (.f, .int most), some (.f, .int (1 + r1)), some (.f, .int r2), some (.f, .int (1 + r3)), some (.o, .lst (ms.map .int)), x] ∧ (∀ y, x = some y → ∃ k, y = (.f, .int k)))
    ⟨a3, b3, c3, none, [], by simp, rfl, rfl, by simp⟩ (fun j d g hd hi => by
      obtain ⟨a, b, c, x, ms, hm, hl, rfl, hx⟩ := hi
      have hj := rangeD_get hd
      have hlt : j < (1 + r1).toNat := by
        have := (List.getElem?_eq_some_iff.mp hd).1
        simpa [rangeD] using this
      obtain ⟨a', b', c', m, hr, e⟩ := rods_step a b c most (1 + r1) r2 (1 + r3) (0 + (j : Int)) ms ⟨p2, q2⟩ ⟨by omega, by omega⟩ hm (by omega)
      refine ⟨_, _, ?_, e, a', b', c', _, ms ++ [m], ?_, ?_, rfl, ?_⟩
      · rw [hj]
        cases x with
        | none => rfl
        | some y =>
          obtain ⟨k, rfl⟩ := hx y rfl
          rfl
      · intro y hy
        rcases List.mem_append.mp hy with h | h
        · exact hm y h
        · rw [List.mem_singleton.mp h]; exact hr
      · rw [List.length_append, hl]; rfl
      · intro y hy
        cases hy
        exact ⟨_, rfl⟩)
  obtain ⟨rfl, hx⟩ := hg
  have hlen : ms.length = (1 + r1).toNat := by simpa [rangeD] using hl
  refine ⟨ms, a', b', c', by omega, by omega, hm, ?_⟩
  have hrg : -4611686018427387904 ≤ 1 + r1 ∧ 1 + r1 < 4611686018427387904 := by omega
  rw [List.map_nil] at e4
  show bodyFn 2 7 ss_law_rods _ = _
  unfold bodyFn
  simp [ss_law_rods, argG, ssSeq, ssPar, seOp, seCall, saCons, saNil, sbVar, sbOf, seC, O.bind, Ref.get, ofOpt, ofO, distinct, lentOf, argsOf, argOf, Fl.own, e1, e2, e3, giveBack, dAdd, setS, seLst, datas, sized, ssFor, siA, rg1, refsGet, hrg, e4, ssRet, seMove, endsOf, endOf, Fl.fz, Fl.pin]
end M7
namespace M7
open PySem PySem.Spec PyProof.Rows L2
theorem flats_ints : ∀ ns : List Int, M7.D.flats (ns.map M7.D.int) = true
  | [] => by simp [D.flats]
  | i :: ns => by simp only [List.map_cons, D.flats, D.flat, flats_ints ns, Bool.and_self]
theorem pys_ints : ∀ ns : List Int, M7.D.pys (ns.map M7.D.int) = ns.map PyData.int
  | [] => by simp [D.pys]
  | i :: ns => by simp only [List.map_cons, D.pys, D.py, pys_ints ns]
theorem lay_ints : ∀ ns : List Int, PyData.canLayAll0 (ns.map PyData.int) = true ∧ PyData.depthAll (ns.map PyData.int) = 0
  | [] => by simp [PyData.canLayAll0, PyData.depthAll]
  | i :: ns => by
    obtain ⟨h1, h2⟩ := lay_ints ns
    exact ⟨by simp only [List.map_cons, PyData.canLayAll0, PyData.canLay0, h1, Bool.and_self], by simp only [List.map_cons, PyData.depthAll, PyData.depth, h2]; rfl⟩
theorem cmp_ints (ns : List Int) : (M7.D.lst (ns.map M7.D.int)).cmpable = true := by
  unfold D.cmpable SeqAt.shaped
  simp only [D.flat, D.py, flats_ints, pys_ints, PyData.canLay0, PyData.depth, (lay_ints ns).1, (lay_ints ns).2, Bool.true_and]
  decide
theorem dNe_nil (ns : List Int) : dNe (.lst (ns.map .int)) (.lst []) = some (false, .bl (decide (ns ≠ []))) := by
  unfold dNe
  rw [cmp_ints, show (M7.D.lst []).cmpable = true from cmp_ints []]
  cases ns with
  | nil => simp [D.py, D.pys, PyData.eqv, PyData.eqvAll]
  | cons i ns => simp [D.py, D.pys, PyData.eqv, PyData.eqvAll]
theorem eraseIdx_map {α β : Type} (f : α → β) : ∀ (l : List α) (k : Nat), (l.map f).eraseIdx k = (l.eraseIdx k).map f
  | [], _ => rfl
  | _ :: _, 0 => rfl
  | a :: l, k + 1 => congrArg (List.cons (f a)) (eraseIdx_map f l k)
theorem in63 (k : Nat) (h : k < 1000) : -(2 ^ 63) ≤ (k : Int) ∧ (k : Int) < 2 ^ 63 := by
  have p : (2 : Int) ^ 63 = 9223372036854775808 := by rfl
  rw [p]
  omega
theorem six_nat (k n : Nat) (h : k < n) : seqIndex? (k : Int) n = some k := by
  unfold seqIndex?
  simp
  omega
theorem pop_ints (rs : List Int) (k : Nat) (hk : k < rs.length) (h : k < 1000) : fPopAt (.lst (rs.map .int)) [.int k] = some (.int rs[k], .lst ((rs.eraseIdx k).map .int)) := by
  unfold fPopAt
  simp only [in63 k h, and_self, if_true, six_nat k (rs.map M7.D.int).length (by rw [List.length_map]; exact hk), List.getElem?_map, List.getElem?_eq_getElem hk, Option.map_some, eraseIdx_map]
end M7
/-! What comes of comprehensions whose parts are known. -/
namespace M7.Z
open PySem PySem.Spec PyProof.Rows L2
theorem wipeG_len : ∀ (vs : List Nat) (g : G), (wipeG g vs).length = g.length
  | [], _ => rfl
  | v :: vs, g => by unfold wipeG; rw [List.length_set, wipeG_len vs g]
theorem backG_len (g0 : G) : ∀ (vs : List Nat) (g : G), (backG g0 g vs).length = g.length
  | [], _ => rfl
  | v :: vs, g => by unfold backG; rw [List.length_set, backG_len g0 vs g]
theorem wipeG_get : ∀ (vs : List Nat) (g : G) (i : Nat), (wipeG g vs)[i]? = if i ∈ vs ∧ i < g.length then some none else g[i]?
  | [], g, i => by simp [wipeG]
  | v :: vs, g, i => by
    unfold wipeG
    rw [List.getElem?_set, wipeG_len, wipeG_get vs g i]
    by_cases h : v = i
    · subst h
      by_cases l : v < g.length
      · simp [l]
      · simp [l, List.getElem?_eq_none (Nat.le_of_not_lt l)]
    · have h' : i ≠ v := fun e => h e.symm
      simp [h, h']
theorem backG_get (g0 : G) : ∀ (vs : List Nat) (g : G) (i : Nat), (backG g0 g vs)[i]? = if i ∈ vs ∧ i < g.length then some (g0[i]?.join) else g[i]?
  | [], g, i => by simp [backG]
  | v :: vs, g, i => by
    unfold backG
    rw [List.getElem?_set, backG_len, backG_get g0 vs g i]
    by_cases h : v = i
    · subst h
      by_cases l : v < g.length
      · simp [l]
      · simp [l, List.getElem?_eq_none (Nat.le_of_not_lt l)]
    · have h' : i ≠ v := fun e => h e.symm
      simp [h, h']
theorem back_wipe (vs : List Nat) (g : G) : backG g (wipeG g vs) vs = g := by
  apply List.ext_getElem?
  intro i
  rw [backG_get, wipeG_len, wipeG_get]
  by_cases h : i ∈ vs ∧ i < g.length
  · rw [if_pos h, List.getElem?_eq_getElem h.2]
    rfl
  · rw [if_neg h, if_neg h]
theorem compL_ok {α : Type} {mk : α → D} {sg : SG} {st : ST} {se : SE} {vs : List Nat} {g : G} (f : α → D) (p : α → Bool) : ∀ (ds : List α) (g0 : G) (acc : List D), wipeG g0 vs = wipeG g vs →
    (∀ d ∈ ds, ∃ g1, sg (false, mk d) (wipeG g vs) = some g1 ∧ ∃ g2, st g1 = .ok (p d) g2 ∧ wipeG g2 vs = wipeG g vs ∧ (p d = true → ∃ o g3, se g2 = .ok (o, f d) g3 ∧ wipeG g3 vs = wipeG g vs)) →
    ∃ g', compL sg st se vs (ds.map mk) g0 acc = .ok (acc ++ (ds.filter p).map f) g' ∧ wipeG g' vs = wipeG g vs
  | [], g0, acc, hw, _ => ⟨g0, by simp [compL], hw⟩
  | d :: ds, g0, acc, hw, st => by
    obtain ⟨g1, e1, g2, e2, w2, h3⟩ := st d (.head _)
    have ih := fun g0 acc hw => compL_ok f p ds g0 acc hw fun d h => st d (.tail _ h)
    rw [List.map_cons]
    unfold compL
    rw [hw, e1]
    simp only [e2, O.bind]
    cases hp : p d with
    | true =>
      obtain ⟨o, g3, e3, w3⟩ := h3 hp
      obtain ⟨g', e, w'⟩ := ih g3 (acc ++ [f d]) w3
      refine ⟨g', ?_, w'⟩
      simp only [if_true, e3, O.bind, e, List.filter_cons, hp, List.map_cons, List.append_assoc, List.singleton_append]
    | false =>
      obtain ⟨g', e, w'⟩ := ih g2 acc w2
      refine ⟨g', ?_, w'⟩
      simp only [Bool.false_eq_true, if_false, e, List.filter_cons, hp]
theorem seLc_ok {α : Type} {mk : α → D} {si : SI} {sg : SG} {st : ST} {se : SE} {vs : List Nat} {g g1 : G} {ds : List α} (f : α → D) (p : α → Bool) (e : si g = .ok (ds.map mk) g1) (hc : calmG g1 vs = true) (hl : ds.length < 1000000)
    (H : ∀ d ∈ ds, ∃ g2, sg (false, mk d) (wipeG g1 vs) = some g2 ∧ ∃ g3, st g2 = .ok (p d) g3 ∧ wipeG g3 vs = wipeG g1 vs ∧ (p d = true → ∃ o g4, se g3 = .ok (o, f d) g4 ∧ wipeG g4 vs = wipeG g1 vs)) :
    seLc si sg st se vs g = .ok (true, .lst ((ds.filter p).map f)) g1 := by
  obtain ⟨g', e1, w⟩ := compL_ok f p ds g1 [] rfl H
  unfold seLc
  simp only [e, O.bind, hc, List.length_map, hl, and_self, if_true, e1, List.nil_append, w, back_wipe]
theorem wipe_set (g : G) (k : Nat) (x : Option (Fl × D)) : wipeG (g.set k x) [k] = wipeG g [k] := by
  simp only [wipeG, List.set_set]
/-- a comprehension over one name -/
theorem lc1 {α : Type} {mk : α → D} {si : SI} {st : ST} {se : SE} {k : Nat} {g g1 : G} {ds : List α} (f : α → D) (p : α → Bool) (e : si g = .ok (ds.map mk) g1) (hc : calmG g1 [k] = true) (hl : ds.length < 1000000)
    (H : ∀ d ∈ ds, st (g1.set k (some (.f, mk d))) = .ok (p d) (g1.set k (some (.f, mk d))) ∧ (p d = true → ∃ o, se (g1.set k (some (.f, mk d))) = .ok (o, f d) (g1.set k (some (.f, mk d))))) :
    seLc si (sgName k) st se [k] g = .ok (true, .lst ((ds.filter p).map f)) g1 := by
  have hk : k < g1.length := by
    simp only [calmG, List.all_cons, List.all_nil, Bool.and_true] at hc
    by_cases h : k < g1.length
    · exact h
    · rw [List.getElem?_eq_none (Nat.le_of_not_lt h)] at hc
      cases hc
  refine seLc_ok f p e hc hl fun d hd => ?_
  obtain ⟨h1, h2⟩ := H d hd
  refine ⟨g1.set k (some (.f, mk d)), ?_, _, h1, wipe_set _ _ _, fun hp => ?_⟩
  · unfold sgName setS
    simp only [wipeG, List.set_set]
    rw [List.getElem?_set]
    simp [hk]
  · obtain ⟨o, h3⟩ := h2 hp
    exact ⟨o, _, h3, wipe_set _ _ _⟩
/-- .. without a test -/
theorem lc1m {α : Type} {mk : α → D} {si : SI} {se : SE} {k : Nat} {g g1 : G} {ds : List α} (f : α → D) (e : si g = .ok (ds.map mk) g1) (hc : calmG g1 [k] = true) (hl : ds.length < 1000000)
    (H : ∀ d ∈ ds, ∃ o, se (g1.set k (some (.f, mk d))) = .ok (o, f d) (g1.set k (some (.f, mk d)))) :
    seLc si (sgName k) (fun g => .ok true g) se [k] g = .ok (true, .lst (ds.map f)) g1 := by
  have := lc1 (st := fun g => .ok true g) f (fun _ => true) e hc hl fun d hd => ⟨rfl, fun _ => H d hd⟩
  rw [List.filter_eq_self.mpr (fun _ _ => rfl)] at this
  exact this
end M7.Z
/-! Sorted rows of ints. -/
namespace M7.Z
open PySem PySem.Spec PyProof.Rows L2 R7
theorem insI_comm_lt {i j : Int} (h : i < j) : ∀ l : List Int, insI i (insI j l) = insI j (insI i l)
  | [] => by
    simp [insI, Int.le_of_lt h, Int.not_le.mpr h]
  | k :: l => by
    have ih := insI_comm_lt h l
    have h3 : i ≤ j := Int.le_of_lt h
    have h4 : ¬ j ≤ i := Int.not_le.mpr h
    by_cases h1 : j ≤ k
    · have h2 : i ≤ k := by omega
      simp only [insI, h1, h2, h3, h4, if_true, if_false]
    · by_cases h2 : i ≤ k
      · simp only [insI, h1, h2, h3, h4, if_true, if_false]
      · simp only [insI, h1, h2, h3, h4, if_true, if_false, ih]
theorem insI_comm (i j : Int) (l : List Int) : insI i (insI j l) = insI j (insI i l) := by
  rcases Int.lt_trichotomy i j with h | h | h
  · exact insI_comm_lt h l
  · rw [h]
  · exact (insI_comm_lt h l).symm
theorem sortI_perm {a b : List Int} (h : a.Perm b) : sortI a = sortI b := by
  induction h with
  | nil => rfl
  | cons x _ ih => simp only [sortI, ih]
  | swap x y l => simp only [sortI]; exact insI_comm _ _ _
  | trans _ _ i1 i2 => exact i1.trans i2
theorem insI_head : ∀ (i : Int) (l : List Int), (∀ j ∈ l, i ≤ j) → insI i l = i :: l
  | i, [], _ => rfl
  | i, j :: l, h => by simp only [insI]; rw [if_pos (h j (.head _))]
theorem sortI_sorted : ∀ l : List Int, l.Pairwise (· ≤ ·) → sortI l = l
  | [], _ => rfl
  | i :: l, h => by
    rw [List.pairwise_cons] at h
    simp only [sortI]
    rw [sortI_sorted l h.2, insI_head i l h.1]
theorem insI_perm (i : Int) : ∀ l : List Int, (insI i l).Perm (i :: l)
  | [] => .refl _
  | j :: l => by
    simp only [insI]
    split
    · exact .refl _
    · exact ((insI_perm i l).cons j).trans (.swap i j l)
theorem sortI_self : ∀ l : List Int, (sortI l).Perm l
  | [] => .refl _
  | i :: l => by
    simp only [sortI]
    exact (insI_perm i _).trans ((sortI_self l).cons i)
/-- the ints lo, lo + 1, .. -/
def rgI (lo : Int) : Nat → List Int
  | 0 => []
  | n + 1 => lo :: rgI (lo + 1) n
theorem rgI_mem : ∀ (n : Nat) (lo i : Int), i ∈ rgI lo n ↔ lo ≤ i ∧ i < lo + n
  | 0, lo, i => by simp [rgI] <;> omega
  | n + 1, lo, i => by
    simp only [rgI, List.mem_cons, rgI_mem n (lo + 1) i]
    omega
theorem rgI_lt : ∀ (n : Nat) (lo : Int), (rgI lo n).Pairwise (· < ·)
  | 0, _ => .nil
  | n + 1, lo => by
    refine List.pairwise_cons.mpr ⟨fun j h => ?_, rgI_lt n _⟩
    have := (rgI_mem n (lo + 1) j).mp h
    omega
theorem rgI_le (n : Nat) (lo : Int) : (rgI lo n).Pairwise (· ≤ ·) := (rgI_lt n lo).imp fun h => Int.le_of_lt h
theorem rgI_nodup (n : Nat) (lo : Int) : (rgI lo n).Nodup := (rgI_lt n lo).imp fun h => Int.ne_of_lt h
theorem rgI_len : ∀ (n : Nat) (lo : Int), (rgI lo n).length = n
  | 0, _ => rfl
  | n + 1, lo => by simp [rgI, rgI_len n]
theorem rgI_map : ∀ (n : Nat) (lo : Int), (rgI lo n).map M7.D.int = rangeD lo n
  | 0, _ => rfl
  | n + 1, lo => by
    unfold rangeD
    rw [List.range_succ_eq_map, List.map_cons, List.map_map, rgI, List.map_cons, rgI_map n (lo + 1)]
    unfold rangeD
    congr 1
    · simp
    · refine List.map_congr_left fun k _ => ?_
      show M7.D.int _ = M7.D.int _
      congr 1
      simp
      omega
/-- different ints of a range, sorted: those of the range that are among them -/
theorem sortI_filter {e : List Int} {lo : Int} {n : Nat} (h : e.Nodup) (hr : ∀ k ∈ e, lo ≤ k ∧ k < lo + n) : sortI e = (rgI lo n).filter fun k => decide (k ∈ e) := by
  have hp : e.Perm ((rgI lo n).filter fun k => decide (k ∈ e)) := by
    rw [List.perm_ext_iff_of_nodup h ((rgI_nodup n lo).filter _)]
    intro a
    rw [List.mem_filter, rgI_mem]
    simp only [decide_eq_true_eq]
    exact ⟨fun q => ⟨hr a q, q⟩, fun q => q.2⟩
  rw [sortI_perm hp]
  exact sortI_sorted _ ((rgI_le n lo).filter _)
theorem sortI_idem (l : List Int) : sortI (sortI l) = sortI l := sortI_perm (sortI_self l)
theorem sortI_map_sub (n : Int) (l : List Int) : sortI ((sortI l).map fun k => n - k) = sortI (l.map fun k => n - k) := sortI_perm ((sortI_self l).map _)
theorem mem_sortI {l : List Int} {i : Int} : i ∈ sortI l ↔ i ∈ l := (sortI_self l).mem_iff
theorem nodup_sortI {l : List Int} : (sortI l).Nodup ↔ l.Nodup := (sortI_self l).nodup_iff
theorem len_sortI (l : List Int) : (sortI l).length = l.length := (sortI_self l).length_eq
theorem ddp_nodup : ∀ l : List Int, l.Nodup → ddp l = l
  | [], _ => rfl
  | i :: l, h => by
    rw [List.nodup_cons] at h
    simp only [ddp, h.1, if_false, ddp_nodup l h.2]
theorem intsD_map : ∀ ns : List Int, intsD (ns.map M7.D.int) = some ns
  | [] => rfl
  | i :: ns => by simp only [List.map_cons, intsD, intsD_map ns, Option.map_some]
theorem dSorted_tup (ns : List Int) : dSorted [.tup (ns.map M7.D.int)] = some (true, .lst ((sortI ns).map .int)) := by
  simp only [dSorted, intsD_map, Option.map_some]
theorem dSorted_lst (ns : List Int) : dSorted [.lst (ns.map M7.D.int)] = some (true, .lst ((sortI ns).map .int)) := by
  simp only [dSorted, intsD_map, Option.map_some]
theorem boolsOf_map {α : Type} (f : α → Bool) : ∀ l : List α, boolsOf (l.map fun a => M7.D.bl (f a)) = some (l.map f)
  | [] => rfl
  | a :: l => by simp only [List.map_cons, boolsOf, boolsOf_map f l, Option.map_some]
theorem sc_ints : ∀ ns : List Int, (ns.map M7.D.int).all D.sc = true
  | [] => rfl
  | i :: ns => by simp only [List.map_cons, List.all_cons, D.sc, sc_ints ns, Bool.and_self]
theorem inD_ints (i : Int) : ∀ ns : List Int, inD (.int i) (ns.map M7.D.int) = decide (i ∈ ns)
  | [] => by simp [inD]
  | j :: ns => by
    have ih := inD_ints i ns
    unfold inD at ih ⊢
    simp only [List.map_cons, List.any_cons, ih, D.vv, eqV, List.mem_cons]
    rw [Bool.eq_iff_iff]
    simp
    by_cases h : j = i
    · simp [h]
    · simp [h, show ¬ i = j from fun q => h q.symm]
theorem dIn_tup (neg : Bool) (i : Int) (ns : List Int) : dIn neg (.int i) (.tup (ns.map M7.D.int)) = some (false, .bl (if neg then !decide (i ∈ ns) else decide (i ∈ ns))) := by
  simp only [dIn, sc_ints, inD_ints, D.sc, and_self, if_true]
theorem dIn_lst (neg : Bool) (i : Int) (ns : List Int) : dIn neg (.int i) (.lst (ns.map M7.D.int)) = some (false, .bl (if neg then !decide (i ∈ ns) else decide (i ∈ ns))) := by
  simp only [dIn, sc_ints, inD_ints, D.sc, and_self, if_true]
end M7.Z
namespace M7.Z
open PySem PySem.Spec PyProof.Rows L2 R7
theorem sized_ok (n : Nat) (x : O (Bool × D)) (h : n ≤ 100000) : sized n x = x := by
  unfold sized
  rw [if_pos (Nat.le_trans h (by decide))]
theorem fAppend_ok (ds : List D) (d : D) (h : ds.length < 100000) : fAppend (.lst ds) [d] = some (.non, .lst (ds ++ [d])) := by
  simp only [fAppend]
  rw [if_pos (Nat.lt_trans h (by decide))]
theorem option_step0 (a b c most lap : Int) (tk : D) (fs : List D) (x : Option (Fl × D)) :
      ss_law_option_b0 [some (.p, .lst [.int a, .int b, .int c]), some (.f, .int most), some (.f, tk), some (.o, .lst []), some (.o, .lst fs), some (.f, .int lap), x] =
      .nx [some (.p, .lst [.int a, .int b, .int c]), some (.f, .int most), some (.f, tk), some (.o, .lst []), some (.o, .lst fs), some (.f, .int lap), x] := by
  have e := dNe_nil []
  rw [List.map_nil] at e
  simp [ss_law_option_b0, ssIf, stB, seOp, sbVar, sbOf, seLst, saNil, datas, sized_ok, O.bind, Ref.get, ofOpt, e, ofO, ssNext]
theorem option_gen (φ : Fn) (E : D → D → Option (Bool × D)) (F A : D → List D → Option (D × D)) (s s' n k r : D) (rs rs' fs fs' : List D) (m t x5 x6 : Option (Fl × D)) (ne : E (.lst rs) (.lst []) = some (false, .bl true)) (e : φ [(true, s), (false, n)] = .ret false k [(true, s'), (false, n)]) (hl : dLen [.lst rs] = some (false, n)) (pop : F (.lst rs) [k] = some (r, .lst rs')) (app : A (.lst fs) [r] = some (.non, .lst fs')) :
    ssIf (stB (seOp E (sbVar 3) (sbOf (seLst saNil)))) (ssDrop (seMutV isLst 4 A (saCons (sbOf (seMutD isLst 3 F (saCons (sbOf (seCall φ (saCons (sbVar 0) (saCons (sbOf (seCB dLen (saCons (sbVar 3) saNil))) saNil)))) saNil))) saNil))) ssNext [some (.p, s), m, t, some (.o, .lst rs), some (.o, .lst fs), x5, x6] =
      .nx [some (.p, s'), m, t, some (.o, .lst rs'), some (.o, .lst fs'), x5, x6] := by
    simp [ssIf, stB, seOp, sbVar, sbOf, seLst, saNil, saCons, datas, refsGet, sized_ok, O.bind, Ref.get, ofOpt, ne, ofO, ssNext, ssDrop, seMutV, seMutD, seMut, seCall, seCB, hl, distinct, lentOf, argsOf, argOf, Fl.own, e, giveBack, ownAt, isLst, pop, app]
theorem option_step1 (a b c most lap : Int) (tk : D) (rs fs : List Int) (x : Option (Fl × D)) (hr : rs ≠ []) (hl : rs.length < 1000) (hf : fs.length < 1000) :
    ∃ (a' b' c' : Int) (k : Nat) (h : k < rs.length), 
      ss_law_option_b0 [some (.p, .lst [.int a, .int b, .int c]), some (.f, .int most), some (.f, tk), some (.o, .lst (rs.map .int)), some (.o, .lst (fs.map .int)), some (.f, .int lap), x] =
      .nx [some (.p, .lst [.int a', .int b', .int c']), some (.f, .int most), some (.f, tk), some (.o, .lst ((rs.eraseIdx k).map .int)), some (.o, .lst ((fs ++ [rs[k]]).map .int)), some (.f, .int lap), x] := by
    have hp : 0 < rs.length := List.length_pos_iff.mpr hr
    obtain ⟨r, a', b', c', r0, r1, e⟩ := draw_ok a b c rs.length (by omega) (by omega)
    obtain ⟨k, rfl⟩ : ∃ k : Nat, r = k := ⟨r.toNat, by omega⟩
    have hk : k < rs.length := by omega
    refine ⟨a', b', c', k, hk, ?_⟩
    rw [List.map_append, List.map_cons, List.map_nil]
    exact option_gen _ _ _ _ _ _ _ _ _ _ _ _ _ _ _ _ _ (by rw [dNe_nil, decide_eq_true hr]) e (by simp only [dLen, List.length_map]) (pop_ints rs k hk (by omega)) (fAppend_ok (fs.map M7.D.int) (.int rs[k]) (by rw [List.length_map]; omega))
/-- a range's ints that are not among others -/
def restI (most : Int) (tk : List Int) : List Int := (rgI 1 most.toNat).filter fun k => !decide (k ∈ tk)
theorem option_rest (s : D) (most : Int) (tk : List Int) (h0 : 0 ≤ most) (h1 : most < 1000) :
    seLc (siA rg2 (saCons (sbOf (seC (.int 1))) (saCons (sbOf (seOp dAdd (sbVar 1) (sbOf (seC (.int 1))))) saNil))) (sgName 6) (stB (seOp (dIn true) (sbVar 6) (sbVar 2))) (seVar 6) [6] [some (.p, s), some (.f, .int most), some (.f, .tup (tk.map .int)), none, none, none, none] =
      .ok (true, .lst ((restI most tk).map .int)) [some (.p, s), some (.f, .int most), some (.f, .tup (tk.map .int)), none, none, none, none] := by
  refine lc1 (mk := M7.D.int) (ds := rgI 1 most.toNat) M7.D.int (fun k => !decide (k ∈ tk)) ?_ rfl (by rw [rgI_len]; omega) fun k _ => ⟨?_, fun _ => ⟨false, ?_⟩⟩
  · rw [rgI_map]
    have hb : -4611686018427387904 ≤ most + 1 ∧ most + 1 < 4611686018427387904 := by omega
    have e : (most + 1 - 1).toNat = most.toNat := by omega
    simp [siA, saCons, sbOf, seC, seOp, sbVar, saNil, O.bind, Ref.get, ofOpt, dAdd, refsGet, rg2, hb]
  · simp [stB, seOp, sbVar, O.bind, Ref.get, dIn_tup, ofOpt]
  · simp [seVar, Fl.fz]
end M7.Z
namespace M7.Z
open PySem PySem.Spec PyProof.Rows L2 R7
theorem erase_perm {α : Type} : ∀ (l : List α) (k : Nat) (h : k < l.length), (l[k] :: l.eraseIdx k).Perm l
  | a :: l, 0, _ => .refl _
  | a :: l, k + 1, h => by
    have := erase_perm l k (by simpa using h)
    simp only [List.eraseIdx_cons_succ, List.getElem_cons_succ]
    exact (List.Perm.swap _ _ _).trans (this.cons a)
/-- what an option may be: different ints from 1 to most, none of tk -/
structure OptOk (most : Int) (tk fs : List Int) : Prop where
  nd : fs.Nodup
  rg : ∀ k ∈ fs, 1 ≤ k ∧ k ≤ most
  dj : ∀ k ∈ fs, k ∉ tk
  sz : fs.length ≤ 3
theorem option_loop (s0 : Int × Int × Int) (most : Int) (tk : List Int) (r : Int) (h0 : 0 ≤ most) (h1 : most < 900) (p : 0 ≤ r) (q : r < 4) :
    ∃ (a' b' c' : Int) (rs fs : List Int) (x : Option (Fl × D)), OptOk most tk fs ∧ loopL (sgName 5) ss_law_option_b0 (rangeD 0 r.toNat) [some (.p, .lst [.int s0.1, .int s0.2.1, .int s0.2.2]), some (.f, .int most), some (.f, .tup (tk.map .int)), some (.o, .lst ((restI most tk).map .int)), some (.o, .lst []), none, none] =
      .nx [some (.p, .lst [.int a', .int b', .int c']), some (.f, .int most), some (.f, .tup (tk.map .int)), some (.o, .lst (rs.map .int)), some (.o, .lst (fs.map .int)), x, none] := by
  obtain ⟨g', e, a', b', c', x, rs, fs, hp, hl, hx, rfl⟩ := loopL_nx (sg := sgName 5) (body := ss_law_option_b0) (ds := rangeD 0 r.toNat) (i := 0) (g := [some (.p, .lst [.int s0.1, .int s0.2.1, .int s0.2.2]), some (.f, .int most), some (.f, .tup (tk.map .int)), some (.o, .lst ((restI most tk).map .int)), some (.o, .lst []), none, none])
    (fun i g => ∃ (a b c : Int) (x : Option (Fl × D)) (rs fs : List Int), (rs ++ fs).Perm (restI most tk) ∧ fs.length ≤ i ∧ (∀ y, x = some y → ∃ k, y = (.f, .int k)) ∧ g = [some (.p, .lst [.int a, .int b, .int c]), some (.f, .int most), some (.f, .tup (tk.map .int)), some (.o, .lst (rs.map .int)), some (.o, .lst (fs.map .int)), x, none])
    ⟨s0.1, s0.2.1, s0.2.2, none, restI most tk, [], by simp, by simp, by simp, by simp⟩ (fun j d g hd hi => by
      obtain ⟨a, b, c, x, rs, fs, hp, hl, hx, rfl⟩ := hi
      have hj := rangeD_get hd
      have hlt : j < r.toNat := by
        have := (List.getElem?_eq_some_iff.mp hd).1
        simpa [rangeD] using this
      have hsg : ∀ s m t e f g, sgName 5 (false, d) [s, m, t, e, f, x, g] = some [s, m, t, e, f, some (.f, d), g] := by
        intro s m t e f g
        cases x with
        | none => rfl
        | some y =>
          obtain ⟨k, rfl⟩ := hx y rfl
          rfl
      have hrs : rs.length < 1000 := by
        have h1 := hp.length_eq
        have h2 : (restI most tk).length ≤ (rgI 1 most.toNat).length := List.length_filter_le _ _
        rw [rgI_len] at h2
        rw [List.length_append] at h1
        omega
      by_cases hr : rs = []
      · subst hr
        refine ⟨_, _, hsg _ _ _ _ _ _, ?_, a, b, c, some (.f, d), [], fs, hp, by omega, ?_, rfl⟩
        · rw [hj]
          exact option_step0 a b c most _ _ _ _
        · intro y hy
          cases hy
          exact ⟨_, by rw [hj]⟩
      · obtain ⟨a', b', c', k, hk, e⟩ := option_step1 a b c most (0 + (j : Int)) (.tup (tk.map .int)) rs fs none hr hrs (by omega)
        refine ⟨_, _, hsg _ _ _ _ _ _, ?_, a', b', c', some (.f, d), rs.eraseIdx k, fs ++ [rs[k]], ?_, by simp; omega, ?_, rfl⟩
        · rw [hj]
          exact e
        · refine List.Perm.trans ?_ hp
          refine (List.perm_append_comm).trans ?_
          rw [List.append_assoc]
          refine List.Perm.trans ?_ List.perm_append_comm
          exact List.Perm.append_left fs (erase_perm rs k hk)
        · intro y hy
          cases hy
          exact ⟨_, by rw [hj]⟩)
  refine ⟨a', b', c', rs, fs, x, ?_, e⟩
  have hnd : (restI most tk).Nodup := (rgI_nodup _ _).filter _
  have hnd2 := hp.nodup_iff.mpr hnd
  have hm : ∀ k ∈ fs, k ∈ restI most tk := fun k hk => hp.mem_iff.mp (List.mem_append_right _ hk)
  have hm2 : ∀ k ∈ fs, (1 ≤ k ∧ k ≤ most) ∧ k ∉ tk := fun k hk => by
    have := hm k hk
    unfold restI at this
    rw [List.mem_filter, rgI_mem] at this
    obtain ⟨h1, h2⟩ := this
    refine ⟨by omega, ?_⟩
    simpa using h2
  refine ⟨(List.nodup_append.mp hnd2).2.1, fun k hk => (hm2 k hk).1, fun k hk => (hm2 k hk).2, ?_⟩
  have : (rangeD 0 r.toNat).length = r.toNat := by simp [rangeD]
  omega
theorem option_fin (φ : Fn) (sr : SE) (B : SS) (s s' s2 m n t : D) (rs rs' fs : List D) (x : Option (Fl × D)) (r : Int)
    (e1 : sr [some (.p, s), some (.f, m), some (.f, t), none, none, none, none] = .ok (true, .lst rs) [some (.p, s), some (.f, m), some (.f, t), none, none, none, none])
    (e2 : φ [(true, s), (false, .int 4)] = .ret false (.int r) [(true, s'), (false, .int 4)]) (hr : 0 ≤ r ∧ r < 4)
    (e3 : loopL (sgName 5) B (rangeD 0 r.toNat) [some (.p, s'), some (.f, m), some (.f, t), some (.o, .lst rs), some (.o, .lst []), none, none] = .nx [some (.p, s2), some (.f, m), some (.f, t), some (.o, .lst rs'), some (.o, .lst fs), x, none]) :
    bodyFn 3 7 (ssSeq (ssPar 3 4 sr (seLst saNil)) (ssSeq (ssFor (siA rg1 (saCons (sbOf (seCall φ (saCons (sbVar 0) (saCons (sbOf (seC (.int 4))) saNil)))) saNil)) (sgName 5) B) (ssRet (seCB dTuple (saCons (sbVar 4) saNil))))) [(true, s), (false, m), (false, t)] =
      .ret false (.tup fs) [(true, s2), (false, m), (false, t)] := by
  have hb : -4611686018427387904 ≤ r ∧ r < 4611686018427387904 := by omega
  unfold bodyFn
  simp [argG, ssSeq, ssPar, e1, ofO, seLst, saNil, O.bind, datas, sized_ok, setS, ssFor, siA, saCons, sbOf, seCall, sbVar, seC, distinct, lentOf, argsOf, argOf, Fl.own, Fl.pin, e2, giveBack, refsGet, Ref.get, rg1, hb, e3, ssRet, seCB, dTuple, ofOpt, endsOf, endOf]
theorem option_ok (a b c most : Int) (tk : List Int) (h0 : 0 ≤ most) (h1 : most < 900) : ∃ (fs : List Int) (a' b' c' : Int), OptOk most tk fs ∧
    φ_law_option [(true, .lst [.int a, .int b, .int c]), (false, .int most), (false, .tup (tk.map .int))] = .ret false (.tup (fs.map .int)) [(true, .lst [.int a', .int b', .int c']), (false, .int most), (false, .tup (tk.map .int))] := by
  obtain ⟨r, a1, b1, c1, p, q, e⟩ := draw_ok a b c 4 (by decide) (by decide)
  obtain ⟨a', b', c', rs, fs, x, ho, e3⟩ := option_loop (a1, b1, c1) most tk r h0 h1 p q
  exact ⟨fs, a', b', c', ho, option_fin _ _ _ _ _ _ _ (.int 0) _ _ _ _ _ _ (option_rest _ most tk h0 (by omega)) e ⟨p, q⟩ e3⟩
end M7.Z
namespace M7.Z
open PySem PySem.Spec PyProof.Rows L2 R7
theorem options_fin (φ : Fn) (s s1 s2 s3 s4 e b ea we : D) (n : Int)
    (e1 : φ [(true, s), (false, .int (n - 1)), (false, .tup [])] = .ret false e [(true, s1), (false, .int (n - 1)), (false, .tup [])])
    (e2 : φ [(true, s1), (false, .int (n - 1)), (false, e)] = .ret false b [(true, s2), (false, .int (n - 1)), (false, e)])
    (e3 : φ [(true, s2), (false, .int n), (false, .tup [])] = .ret false ea [(true, s3), (false, .int n), (false, .tup [])])
    (e4 : φ [(true, s3), (false, .int n), (false, ea)] = .ret false we [(true, s4), (false, .int n), (false, ea)]) :
    bodyFn 2 6 (ssSeq (ssAsg (seCall φ (saCons (sbVar 0) (saCons (sbOf (seOp dSub (sbVar 1) (sbOf (seC (.int 1))))) (saCons (sbOf (seTup saNil)) saNil)))) (sgName 2))
    (ssSeq (ssAsg (seCall φ (saCons (sbVar 0) (saCons (sbOf (seOp dSub (sbVar 1) (sbOf (seC (.int 1))))) (saCons (sbVar 2) saNil)))) (sgName 3))
    (ssSeq (ssAsg (seCall φ (saCons (sbVar 0) (saCons (sbVar 1) (saCons (sbOf (seTup saNil)) saNil)))) (sgName 4))
    (ssSeq (ssAsg (seCall φ (saCons (sbVar 0) (saCons (sbVar 1) (saCons (sbVar 4) saNil)))) (sgName 5))
    (ssRet (seLst (saCons (sbOf (seVar 2)) (saCons (sbOf (seVar 3)) (saCons (sbOf (seVar 4)) (saCons (sbOf (seVar 5)) saNil)))))))))) [(true, s), (false, .int n)] =
      .ret true (.lst [e, b, ea, we]) [(true, s4), (false, .int n)] := by
  unfold bodyFn
  simp [argG, ssSeq, ssAsg, ofO, seLst, seTup, seVar, saNil, O.bind, datas, sized_ok, setS, sgName, saCons, sbOf, seCall, sbVar, seC, seOp, dSub, i2, distinct, lentOf, argsOf, argOf, Fl.own, Fl.pin, Fl.fz, e1, e2, e3, e4, giveBack, refsGet, Ref.get, ssRet, ofOpt, endsOf, endOf]
/-- the four options of a rule of n rods -/
structure Opts (n : Int) (e b ea we : List Int) : Prop where
  h1 : OptOk (n - 1) [] e
  h2 : OptOk (n - 1) e b
  h3 : OptOk n [] ea
  h4 : OptOk n ea we
abbrev tupI (ns : List Int) : D := .tup (ns.map M7.D.int)
abbrev lstI (ns : List Int) : D := .lst (ns.map M7.D.int)
theorem options_ok (a b c n : Int) (h0 : 1 ≤ n) (h1 : n < 900) : ∃ (e f g h : List Int) (a' b' c' : Int), Opts n e f g h ∧
    φ_law_options [(true, .lst [.int a, .int b, .int c]), (false, .int n)] = .ret true (.lst [tupI e, tupI f, tupI g, tupI h]) [(true, .lst [.int a', .int b', .int c']), (false, .int n)] := by
  obtain ⟨e, a1, b1, c1, o1, e1⟩ := option_ok a b c (n - 1) [] (by omega) (by omega)
  obtain ⟨f, a2, b2, c2, o2, e2⟩ := option_ok a1 b1 c1 (n - 1) e (by omega) (by omega)
  obtain ⟨g, a3, b3, c3, o3, e3⟩ := option_ok a2 b2 c2 n [] (by omega) (by omega)
  obtain ⟨h, a4, b4, c4, o4, e4⟩ := option_ok a3 b3 c3 n g (by omega) (by omega)
  exact ⟨e, f, g, h, a4, b4, c4, ⟨o1, o2, o3, o4⟩, options_fin _ _ _ _ _ _ _ _ _ _ _ e1 e2 e3 e4⟩
end M7.Z
namespace M7.Z
open PySem PySem.Spec PyProof.Rows L2 R7 SX
abbrev strL (t : List Nat) : D := .str (S t)
def chOk (t : List Nat) : Bool := t.all fun c => decide (c < 1114112)
theorem str_cmp {a : Str} (h : PyData.strOk a = true) : (M7.D.str a).cmpable = true := by
  unfold D.cmpable SeqAt.shaped
  simp only [D.flat, D.py, PyData.canLay0, PyData.depth, h, Bool.true_and]
  decide
theorem strOk_S {a : List Nat} (h : chOk a = true) : PyData.strOk (S a) = true := by
  unfold PyData.strOk
  rw [← Array.all_toList]
  exact h
theorem dEq_str {a b : Str} (ha : PyData.strOk a = true) (hb : PyData.strOk b = true) : dEq (.str a) (.str b) = some (false, .bl (decide (a = b))) := by
  unfold dEq
  rw [str_cmp ha, str_cmp hb]
  simp only [Bool.and_self, if_true, D.py, PyData.eqv]
  rw [show (a == b) = decide (a = b) from by rw [Bool.eq_iff_iff]; simp]
theorem dNe_str {a b : Str} (ha : PyData.strOk a = true) (hb : PyData.strOk b = true) : dNe (.str a) (.str b) = some (false, .bl (!decide (a = b))) := by
  unfold dNe
  rw [str_cmp ha, str_cmp hb]
  simp only [Bool.and_self, if_true, D.py, PyData.eqv]
  rw [show (a == b) = decide (a = b) from by rw [Bool.eq_iff_iff]; simp]
theorem dEq_strL {a b : List Nat} (ha : chOk a = true) (hb : chOk b = true) : dEq (strL a) (strL b) = some (false, .bl (decide (a = b))) := by
  rw [dEq_str (strOk_S ha) (strOk_S hb)]
  rw [show decide (S a = S b) = decide (a = b) from decide_eq_decide.mpr ⟨S_inj, fun h => by rw [h]⟩]
theorem dNe_strL {a b : List Nat} (ha : chOk a = true) (hb : chOk b = true) : dNe (strL a) (strL b) = some (false, .bl (!decide (a = b))) := by
  rw [dNe_str (strOk_S ha) (strOk_S hb)]
  rw [show decide (S a = S b) = decide (a = b) from decide_eq_decide.mpr ⟨S_inj, fun h => by rw [h]⟩]
theorem dNe_int (i j : Int) : dNe (.int i) (.int j) = some (false, .bl (!decide (i = j))) := by
  unfold dNe
  rw [show ((M7.D.int i).cmpable && (M7.D.int j).cmpable) = true from rfl, if_pos rfl]
  show some (false, M7.D.bl (!PyData.eqv (.int i) (.int j))) = _
  simp only [PyData.eqv]
  rw [show (i == j) = decide (i = j) from by rw [Bool.eq_iff_iff]; simp]
theorem S_nil {a : List Nat} : S a = S [] ↔ a = [] := ⟨S_inj, fun h => by rw [h]⟩
theorem cut_S (t : List Nat) (i j : Nat) (h : i ≤ j) : cutS (S t) (some (i : Int)) (some (j : Int)) = S ((t.drop i).take (j - i)) := by
  unfold cutS
  rw [HT.sIx_nat, HT.sIx_nat, S_len]
  show S ((t.drop (min i t.length)).take (min j t.length - min i t.length)) = _
  congr 1
  by_cases hi : i ≤ t.length
  · rw [Nat.min_eq_left hi]
    by_cases hj : j ≤ t.length
    · rw [Nat.min_eq_left hj]
    · rw [Nat.min_eq_right (by omega), List.take_of_length_le (by rw [List.length_drop] <;> omega), List.take_of_length_le (by rw [List.length_drop] <;> omega)]
  · rw [List.drop_eq_nil_of_le (by omega), List.drop_eq_nil_of_le (by omega)]
    simp
/-- the sign at a place, if it is one of these -/
def look (t : List Nat) (i : Nat) (ls : List Nat) : List Nat := match t[i]? with
  | some c => if c ∈ ls then [c] else []
  | none => []
theorem dIx_str (t : List Nat) (i c : Nat) (hs : t.length ≤ 100000) (h : t[i]? = some c) : dIx (strL t) (.int i) = some (false, strL [c]) := by
  have hi : i < t.length := (List.getElem?_eq_some_iff.mp h).1
  have hz : (S t).length ≤ sizeLine := by rw [S_len]; exact Nat.le_trans hs (by decide)
  simp only [dIx, hz, if_true]
  show ((atI t (i : Int)).map fun c => (false, M7.D.str ⟨#[c]⟩)) = _
  unfold atI ixN
  rw [if_pos (by omega), if_pos (by omega)]
  simp [h]
theorem dLen_str (t : List Nat) (hs : t.length ≤ 100000) : dLen [strL t] = some (false, .int (t.length : Nat)) := by
  have hz : (S t).length ≤ sizeLine := by rw [S_len]; exact Nat.le_trans hs (by decide)
  simp only [dLen]
  rw [if_pos hz, S_len]
theorem dIn_str (t : List Nat) (c : Nat) : dIn false (strL [c]) (strL t) = some (false, .bl (decide (c ∈ t))) := by
  simp only [dIn, Bool.false_eq_true, if_false]
  rw [in_one]
theorem letter_gen (L : List D → Option (Bool × D)) (X I : D → D → Option (Bool × D)) (t i ls c : D) (n : Int) (b b' : Bool) (e0 : dLt i (.int n) = some (false, .bl b)) (e1 : L [t] = some (false, .int n)) (e2 : b = true → X t i = some (false, c)) (e3 : b = true → I c ls = some (false, .bl b')) :
    bodyFn 3 3 (ssSeq (ssIf (stAnd (stB (seOp dLt (sbVar 1) (sbOf (seCB L (saCons (sbVar 0) saNil))))) (stB (seOp I (sbOf (seOp X (sbVar 0) (sbVar 1))) (sbVar 2)))) (ssRet (seOp X (sbVar 0) (sbVar 1))) ssNext) (ssRet (seC (.str "")))) [(false, t), (false, i), (false, ls)] =
      .ret false (if b = true ∧ b' = true then c else .str "") [(false, t), (false, i), (false, ls)] := by
  unfold bodyFn
  cases b <;> cases b' <;> simp_all [argG, ssSeq, ssIf, stAnd, stB, seOp, sbVar, sbOf, seCB, saCons, saNil, O.bind, refsGet, Ref.get, ofOpt, ofO, ssRet, ssNext, seC, endsOf, endOf]
theorem e_empty : (("" : String) : Str) = S [] := by decide +kernel
theorem letter_ok (t : List Nat) (i : Nat) (ls : List Nat) (hs : t.length ≤ 100000) :
    φ_letter_at [(false, strL t), (false, .int i), (false, strL ls)] = .ret false (strL (look t i ls)) [(false, strL t), (false, .int i), (false, strL ls)] := by
  by_cases hi : i < t.length
  · have hc : t[i]? = some t[i] := List.getElem?_eq_getElem hi
    refine (letter_gen dLen dIx (dIn false) (strL t) (.int i) (strL ls) (strL [t[i]]) t.length true (decide (t[i] ∈ ls)) (by simp [dLt, dCmp, hi]) (dLen_str t hs) (fun _ => dIx_str t i _ hs hc) fun _ => dIn_str _ _).trans ?_
    unfold look
    rw [hc]
    by_cases hm : t[i] ∈ ls
    · simp [hm]
    · simp [hm, e_empty]
  · have hc : t[i]? = none := List.getElem?_eq_none (by omega)
    refine (letter_gen dLen dIx (dIn false) (strL t) (.int i) (strL ls) .non t.length false false (by simp [dLt, dCmp]; omega) (dLen_str t hs) (by simp) (by simp)).trans ?_
    unfold look
    rw [hc]
    simp [e_empty]
/-! numbers of a length -/
def num (m : Int) : List Nat := if m < 10 then [(48 + m).toNat] else [(48 + m / 10).toNat, (48 + m % 10).toNat]
def dig (c : Nat) : Bool := decide (48 ≤ c ∧ c ≤ 57)
def numOk (m : Int) : Bool := decide (Str.ofString (toString m) = S (num m)) && decide (intText? (S (num m)) = some m) && (match num m with
  | [a] => decide (49 ≤ a ∧ a ≤ 57)
  | [a, b] => decide (49 ≤ a ∧ a ≤ 57) && dig b
  | _ => false) && decide (m.natAbs.log2 < 1920)
theorem num_all : ((List.range 40).all fun k => numOk ((k : Nat) + 1 : Int)) = true := by decide +kernel
theorem num_ok {m : Int} (h : Rod m) : numOk m = true := by
  obtain ⟨h1, h2⟩ := h
  have := List.all_eq_true.mp num_all (m - 1).toNat (List.mem_range.mpr (by omega))
  rwa [show (((m - 1).toNat : Nat) : Int) + 1 = m by omega] at this
theorem num_str {m : Int} (h : Rod m) : Str.ofString (toString m) = S (num m) := by
  have := num_ok h
  unfold numOk at this
  simp only [Bool.and_eq_true, decide_eq_true_eq] at this
  exact this.1.1.1
theorem num_int {m : Int} (h : Rod m) : intText? (S (num m)) = some m := by
  have := num_ok h
  unfold numOk at this
  simp only [Bool.and_eq_true, decide_eq_true_eq] at this
  exact this.1.1.2
theorem num_log {m : Int} (h : Rod m) : m.natAbs.log2 < 1920 := by
  have := num_ok h
  unfold numOk at this
  simp only [Bool.and_eq_true, decide_eq_true_eq] at this
  exact this.2
theorem num_shape {m : Int} (h : Rod m) : (∃ a, num m = [a] ∧ 49 ≤ a ∧ a ≤ 57) ∨ ∃ a b, num m = [a, b] ∧ 49 ≤ a ∧ a ≤ 57 ∧ dig b = true := by
  have := num_ok h
  unfold numOk at this
  simp only [Bool.and_eq_true] at this
  have h3 := this.1.2
  split at h3
  · rename_i a e
    exact .inl ⟨a, e, by simpa using h3⟩
  · rename_i a b e
    rw [Bool.and_eq_true, decide_eq_true_eq] at h3
    exact .inr ⟨a, b, e, h3.1.1, h3.1.2, h3.2⟩
  · cases h3
theorem e_dig : (("0123456789" : String) : Str) = S [48, 49, 50, 51, 52, 53, 54, 55, 56, 57] := by decide +kernel
theorem e_fdig : (("123456789" : String) : Str) = S [49, 50, 51, 52, 53, 54, 55, 56, 57] := by decide +kernel
end M7.Z
namespace M7.Z
open PySem PySem.Spec PyProof.Rows L2 R7 SX
theorem size_gen (φ : Fn) (E N : D → D → Option (Bool × D)) (I : List D → Option (Bool × D)) (Z : D → Option Int → Option Int → Option (Bool × D)) (t x1 x2 z s1 s2 s0 : D) (i ml k : Int) (b1 b2 : Bool)
    (e1 : φ [(false, t), (false, .int i), (false, s1)] = .ret false x1 [(false, t), (false, .int i), (false, s1)]) (q1 : E x1 s0 = some (false, .bl b1))
    (e2 : b1 = false → φ [(false, t), (false, .int (i + 1)), (false, s2)] = .ret false x2 [(false, t), (false, .int (i + 1)), (false, s2)]) (q2 : b1 = false → N x2 s0 = some (false, .bl b2))
    (e3 : b1 = false → b2 = true → Z t (some i) (some (i + 2)) = some (false, z)) (q3 : b1 = false → b2 = true → I [z] = some (false, .int k)) :
    bodyFn 3 3 (ssSeq (ssIf (stB (seOp E (sbOf (seCall φ (saCons (sbVar 0) (saCons (sbVar 1) (saCons (sbOf (seC s1)) saNil))))) (sbOf (seC s0)))) (ssRet (seC (.int 0))) ssNext)
    (ssSeq (ssIf (stAnd (stB (seOp N (sbOf (seCall φ (saCons (sbVar 0) (saCons (sbOf (seOp dAdd (sbVar 1) (sbOf (seC (.int 1))))) (saCons (sbOf (seC s2)) saNil))))) (sbOf (seC s0)))) (stB (seOp dLe (sbOf (seCB I (saCons (sbOf (seSl Z (sbVar 0) (soSome (seVar 1)) (soSome (seOp dAdd (sbVar 1) (sbOf (seC (.int 2))))))) saNil))) (sbVar 2)))) (ssRet (seC (.int 2))) ssNext)
    (ssRet (seC (.int 1))))) [(false, t), (false, .int i), (false, .int ml)] =
      .ret false (.int (if b1 = true then 0 else if b2 = true ∧ k ≤ ml then 2 else 1)) [(false, t), (false, .int i), (false, .int ml)] := by
  unfold bodyFn
  cases b1
  · cases b2
    · simp_all [argG, ssSeq, ssIf, stAnd, stB, seOp, sbVar, sbOf, seCB, seC, saCons, saNil, seCall, distinct, lentOf, argsOf, argOf, Fl.own, giveBack, O.bind, refsGet, Ref.get, ofOpt, ofO, ssRet, ssNext, dAdd, endsOf, endOf]
    · by_cases h : k ≤ ml
      · simp_all [argG, ssSeq, ssIf, stAnd, stB, seOp, sbVar, sbOf, seCB, seC, saCons, saNil, seCall, distinct, lentOf, argsOf, argOf, Fl.own, Fl.fz, giveBack, O.bind, refsGet, Ref.get, ofOpt, ofO, ssRet, ssNext, dAdd, seSl, soSome, seVar, dLe, dCmp, endsOf, endOf]
      · have e2 := e2 rfl
        have q2 := q2 rfl
        have e3 := e3 rfl rfl
        have q3 := q3 rfl rfl
        simp [e1, q1, e2, q2, e3, q3, h, argG, ssSeq, ssIf, stAnd, stB, seOp, sbVar, sbOf, seCB, seC, saCons, saNil, seCall, distinct, lentOf, argsOf, argOf, Fl.own, Fl.fz, giveBack, O.bind, refsGet, Ref.get, ofOpt, ofO, ssRet, ssNext, dAdd, seSl, soSome, seVar, dLe, dCmp, endsOf, endOf]
  · simp_all [argG, ssSeq, ssIf, stAnd, stB, seOp, sbVar, sbOf, seCB, seC, saCons, saNil, seCall, distinct, lentOf, argsOf, argOf, Fl.own, giveBack, O.bind, refsGet, Ref.get, ofOpt, ofO, ssRet, ssNext, dAdd, endsOf, endOf]
abbrev digs : List Nat := [48, 49, 50, 51, 52, 53, 54, 55, 56, 57]
abbrev fdigs : List Nat := [49, 50, 51, 52, 53, 54, 55, 56, 57]
theorem e_digL : M7.D.str (("0123456789" : String) : Str) = strL digs := congrArg M7.D.str e_dig
theorem e_fdigL : M7.D.str (("123456789" : String) : Str) = strL fdigs := congrArg M7.D.str e_fdig
theorem look_ok (t : List Nat) (i : Nat) (ls : List Nat) (h : chOk ls = true) : chOk (look t i ls) = true := by
  unfold look
  split
  · split
    · rename_i c _ hm
      have := List.all_eq_true.mp h c hm
      simp only [chOk, List.all_cons, List.all_nil, this, Bool.and_true]
    · rfl
  · rfl
theorem mem_digs {c : Nat} : c ∈ digs ↔ dig c = true := by
  unfold dig
  simp only [digs, List.mem_cons, List.not_mem_nil, or_false, decide_eq_true_eq]
  omega
theorem mem_fdigs {c : Nat} : c ∈ fdigs ↔ 49 ≤ c ∧ c ≤ 57 := by
  simp only [fdigs, List.mem_cons, List.not_mem_nil, or_false]
  omega
theorem look_at {t : List Nat} {i c : Nat} {ls : List Nat} (h : t[i]? = some c) (m : c ∈ ls) : look t i ls = [c] := by
  unfold look
  rw [h]
  exact if_pos m
theorem look_not {t : List Nat} {i : Nat} {ls : List Nat} (h : ∀ c, t[i]? = some c → c ∉ ls) : look t i ls = [] := by
  unfold look
  cases e : t[i]? with
  | none => rfl
  | some c => exact if_neg (h c e)
/-- no digit stands ahead -/
def nodig (r : List Nat) : Prop := ∀ c, r.head? = some c → dig c = false
theorem dSl_str (t : List Nat) (i j : Nat) (hs : t.length ≤ 100000) (h : i ≤ j) : dSl (strL t) (some (i : Int)) (some (j : Int)) = some (false, strL ((t.drop i).take (j - i))) := by
  have hz : (S t).length ≤ sizeLine := by rw [S_len]; exact Nat.le_trans hs (by decide)
  simp only [dSl]
  rw [if_pos hz, cut_S t i j h]
theorem dIntC_S {a : List Nat} {m : Int} (h : intText? (S a) = some m) (hl : a.length ≤ 640) : dIntC [strL a] = some (false, .int m) := by
  have hz : (S a).length ≤ 640 := by rw [S_len]; exact hl
  simp only [dIntC]
  rw [if_pos hz, h, Option.map_some]
theorem size_num (pre r : List Nat) (m : Int) (hm : Rod m) (hr : nodig r) (hs : (pre ++ (num m ++ r)).length ≤ 100000) :
    φ_length_size [(false, strL (pre ++ (num m ++ r))), (false, .int pre.length), (false, .int 40)] = .ret false (.int (num m).length) [(false, strL (pre ++ (num m ++ r))), (false, .int pre.length), (false, .int 40)] := by
  have l1 := letter_ok (pre ++ (num m ++ r)) pre.length fdigs hs
  have l2 := letter_ok (pre ++ (num m ++ r)) (pre.length + 1) digs hs
  rw [← e_fdigL] at l1
  rw [← e_digL] at l2
  rcases num_shape hm with ⟨a, e, h1, h2⟩ | ⟨a, b, e, h1, h2, h3⟩
  · have p1 : look (pre ++ (num m ++ r)) pre.length fdigs = [a] := look_at (by rw [e] <;> simp) (mem_fdigs.mpr ⟨h1, h2⟩)
    have p2 : look (pre ++ (num m ++ r)) (pre.length + 1) digs = [] := look_not fun c hc hd => by
      rw [e] at hc
      have : r.head? = some c := by
        rw [List.getElem?_append_right (by omega), show pre.length + 1 - pre.length = 1 by omega] at hc
        simp at hc
        rw [← hc, List.head?_eq_getElem?]
      rw [mem_digs, hr c this] at hd
      cases hd
    rw [p1] at l1
    rw [p2] at l2
    refine (size_gen φ_letter_at dEq dNe dIntC dSl _ _ _ .non _ _ (.str "") pre.length 40 0 false false l1 ?_ (fun _ => l2) ?_ (by simp) (by simp)).trans ?_
    · rw [e_empty, dEq_strL (by rw [chOk] <;> simp <;> omega) rfl]; simp
    · intro _; rw [e_empty, dNe_strL rfl rfl]; simp
    · rw [e]; simp
  · have p1 : look (pre ++ (num m ++ r)) pre.length fdigs = [a] := look_at (by rw [e] <;> simp) (mem_fdigs.mpr ⟨h1, h2⟩)
    have p2 : look (pre ++ (num m ++ r)) (pre.length + 1) digs = [b] := look_at (by rw [e, List.getElem?_append_right (by omega), show pre.length + 1 - pre.length = 1 by omega] <;> simp) (mem_digs.mpr h3)
    have hb : b < 1114112 := by
      have := mem_digs.mpr h3
      rw [mem_digs] at this
      unfold dig at this
      rw [decide_eq_true_eq] at this
      omega
    rw [p1] at l1
    rw [p2] at l2
    refine (size_gen φ_letter_at dEq dNe dIntC dSl _ _ _ (strL (num m)) _ _ (.str "") pre.length 40 m false true l1 ?_ (fun _ => l2) ?_ (fun _ _ => ?_) (fun _ _ => dIntC_S (num_int hm) (by rw [e] <;> simp))).trans ?_
    · rw [e_empty, dEq_strL (by rw [chOk] <;> simp <;> omega) rfl]; simp
    · intro _; rw [e_empty, dNe_strL (by rw [chOk] <;> simp <;> omega) rfl]; simp
    · rw [show (pre.length : Int) + 2 = ((pre.length + 2 : Nat) : Int) by omega, dSl_str _ _ _ hs (by omega)]
      rw [show pre.length + 2 - pre.length = 2 by omega, List.drop_left, e]
      rfl
    · rw [e]
      have := hm.2
      simp [this]
end M7.Z
namespace M7.Z
open PySem PySem.Spec PyProof.Rows L2 R7 SX
/-- cut's lap: N1, N2: what is done with a text that is none -/
def cutB (φz φl : Fn) (E : D → D → Option (Bool × D)) (I L : List D → Option (Bool × D)) (Z : D → Option Int → Option Int → Option (Bool × D)) (A : D → List D → Option (D × D)) (N1 N2 : SS) : SS :=
    (ssSeq (ssAsg (seCall φz (saCons (sbVar 0) (saCons (sbVar 8) (saCons (sbVar 2) saNil)))) (sgName 9))
    (ssSeq (ssIf (stB (seOp E (sbVar 9) (sbOf (seC (.int 0))))) N1 ssNext)
    (ssSeq (ssDrop (seMutV isLst 5 A (saCons (sbOf (seCB I (saCons (sbOf (seSl Z (sbVar 0) (soSome (seVar 8)) (soSome (seOp dAdd (sbVar 8) (sbVar 9))))) saNil))) saNil)))
    (ssSeq (ssAsg (seCall φl (saCons (sbVar 0) (saCons (sbOf (seOp dAdd (sbVar 8) (sbVar 9))) (saCons (sbVar 4) saNil)))) (sgName 10))
    (ssSeq (ssDrop (seMutV isLst 7 A (saCons (sbOf (seVar 10)) saNil)))
    (ssSeq (ssAugI (fun i j => i + j) 8 (seOp dAdd (sbVar 9) (sbOf (seCB L (saCons (sbVar 10) saNil)))))
    (ssSeq (ssIf (stB (seOp E (sbVar 8) (sbOf (seCB L (saCons (sbVar 0) saNil))))) (ssRet (seTup (saCons (sbOf (seVar 5)) (saCons (sbOf (seVar 6)) (saCons (sbOf (seVar 7)) saNil))))) ssNext)
    (ssSeq (ssAsg (seCall φl (saCons (sbVar 0) (saCons (sbVar 8) (saCons (sbVar 3) saNil)))) (sgName 11))
    (ssSeq (ssIf (stOr (stB (seOp E (sbVar 11) (sbOf (seC (.str ""))))) (stB (seOp E (sbOf (seCB L (saCons (sbVar 5) saNil))) (sbVar 1)))) N2 ssNext)
    (ssSeq (ssDrop (seMutV isLst 6 A (saCons (sbOf (seVar 11)) saNil)))
    (ssAugI (fun i j => i + j) 8 (seC (.int 1)))))))))))))
abbrev cutG (t mr ml hs as ls bs cs : D) (i : Int) (x9 x10 x11 : Option (Fl × D)) : G := [some (.f, t), some (.f, mr), some (.f, ml), some (.f, hs), some (.f, as), some (.o, ls), some (.o, bs), some (.o, cs), some (.f, .int i), x9, x10, x11]
/-- the slots of a lap -/
def lapX (x9 x10 x11 : Option (Fl × D)) : Prop := (x9 = none ∧ x10 = none ∧ x11 = none) ∨ ∃ d9 d10 d11, x9 = some (.f, d9) ∧ x10 = some (.f, d10) ∧ x11 = some (.f, d11)
section
variable {φz φl : Fn} {E : D → D → Option (Bool × D)} {I L : List D → Option (Bool × D)} {Z : D → Option Int → Option Int → Option (Bool × D)} {A : D → List D → Option (D × D)} {N1 N2 : SS}
  {t ml mr hs as w a h : D} {ls bs cs ls' bs' cs' : List D} {i z m na nt : Int} {x9 x10 x11 : Option (Fl × D)}
theorem cut_next (hx : lapX x9 x10 x11) (ez : φz [(false, t), (false, .int i), (false, ml)] = .ret false (.int z) [(false, t), (false, .int i), (false, ml)]) (h0 : E (.int z) (.int 0) = some (false, .bl false))
    (es : Z t (some i) (some (i + z)) = some (false, w)) (ei : I [w] = some (false, .int m)) (el : φl [(false, t), (false, .int (i + z)), (false, as)] = .ret false a [(false, t), (false, .int (i + z)), (false, as)])
    (e1 : L [a] = some (false, .int na)) (e2 : L [t] = some (false, .int nt)) (h1 : E (.int (i + (z + na))) (.int nt) = some (false, .bl false))
    (el2 : φl [(false, t), (false, .int (i + (z + na))), (false, hs)] = .ret false h [(false, t), (false, .int (i + (z + na))), (false, hs)]) (eh : E h (.str "") = some (false, .bl false))
    (e3 : L [.lst ls'] = some (false, .int nl)) (h2 : E (.int nl) mr = some (false, .bl false))
    (a1 : A (.lst ls) [.int m] = some (.non, .lst ls')) (a2 : A (.lst cs) [a] = some (.non, .lst cs')) (a3 : A (.lst bs) [h] = some (.non, .lst bs')) :
    cutB φz φl E I L Z A N1 N2 (cutG t mr ml hs as (.lst ls) (.lst bs) (.lst cs) i x9 x10 x11) =
      .nx (cutG t mr ml hs as (.lst ls') (.lst bs') (.lst cs') (i + (z + na) + 1) (some (.f, .int z)) (some (.f, a)) (some (.f, h))) := by
  unfold cutB
  rcases hx with ⟨rfl, rfl, rfl⟩ | ⟨d9, d10, d11, rfl, rfl, rfl⟩
  · simp [ez, h0, es, ei, el, e1, e2, h1, el2, eh, e3, h2, a1, a2, a3, ssSeq, ssIf, ssDrop, ssAsg, ssNext, ssAugI, stB, stOr, seOp, sbVar, sbOf, seVar, seCB, seC, saCons, saNil, seCall, distinct, lentOf, argsOf, argOf, Fl.own, Fl.pin, Fl.fz, giveBack, O.bind, refsGet, datas, Ref.get, ofOpt, ofO, dAdd, seSl, soSome, sgName, setS, seMutV, seMut, ownAt, isLst]
  · simp [ez, h0, es, ei, el, e1, e2, h1, el2, eh, e3, h2, a1, a2, a3, ssSeq, ssIf, ssDrop, ssAsg, ssNext, ssAugI, stB, stOr, seOp, sbVar, sbOf, seVar, seCB, seC, saCons, saNil, seCall, distinct, lentOf, argsOf, argOf, Fl.own, Fl.pin, Fl.fz, giveBack, O.bind, refsGet, datas, Ref.get, ofOpt, ofO, dAdd, seSl, soSome, sgName, setS, seMutV, seMut, ownAt, isLst]
theorem cut_end (hx : lapX x9 x10 x11) (ez : φz [(false, t), (false, .int i), (false, ml)] = .ret false (.int z) [(false, t), (false, .int i), (false, ml)]) (h0 : E (.int z) (.int 0) = some (false, .bl false))
    (es : Z t (some i) (some (i + z)) = some (false, w)) (ei : I [w] = some (false, .int m)) (el : φl [(false, t), (false, .int (i + z)), (false, as)] = .ret false a [(false, t), (false, .int (i + z)), (false, as)])
    (e1 : L [a] = some (false, .int na)) (e2 : L [t] = some (false, .int nt)) (h1 : E (.int (i + (z + na))) (.int nt) = some (false, .bl true))
    (a1 : A (.lst ls) [.int m] = some (.non, .lst ls')) (a2 : A (.lst cs) [a] = some (.non, .lst cs')) :
    ∃ g, cutB φz φl E I L Z A N1 N2 (cutG t mr ml hs as (.lst ls) (.lst bs) (.lst cs) i x9 x10 x11) =
      .rt false (.tup [.lst ls', .lst bs, .lst cs']) (some (.f, t) :: some (.f, mr) :: some (.f, ml) :: some (.f, hs) :: some (.f, as) :: g) := by
  unfold cutB
  rcases hx with ⟨rfl, rfl, rfl⟩ | ⟨d9, d10, d11, rfl, rfl, rfl⟩
  · simp [ez, h0, es, ei, el, e1, e2, h1, a1, a2, ssSeq, ssIf, ssDrop, ssAsg, ssNext, ssAugI, stB, stOr, seOp, sbVar, sbOf, seVar, seCB, seC, saCons, saNil, seCall, distinct, lentOf, argsOf, argOf, Fl.own, Fl.pin, Fl.fz, giveBack, O.bind, refsGet, datas, Ref.get, ofOpt, ofO, dAdd, seSl, soSome, sgName, setS, seMutV, seMut, ownAt, isLst, ssRet, seTup, sized_ok]
  · simp [ez, h0, es, ei, el, e1, e2, h1, a1, a2, ssSeq, ssIf, ssDrop, ssAsg, ssNext, ssAugI, stB, stOr, seOp, sbVar, sbOf, seVar, seCB, seC, saCons, saNil, seCall, distinct, lentOf, argsOf, argOf, Fl.own, Fl.pin, Fl.fz, giveBack, O.bind, refsGet, datas, Ref.get, ofOpt, ofO, dAdd, seSl, soSome, sgName, setS, seMutV, seMut, ownAt, isLst, ssRet, seTup, sized_ok]
end
/-- the parts of a text behind its first rod -/
def tailT : List (Nat × Int × List Nat) → List Nat
  | [] => []
  | (h, m, a) :: r => h :: (num m ++ (a ++ tailT r))
/-- marks and aims of these kinds -/
structure PtOk (hs as : List Nat) (m : Int) (a : List Nat) : Prop where
  rod : Rod m
  aim : a = [] ∨ ∃ c, a = [c] ∧ c ∈ as
structure KindOk (hs as : List Nat) : Prop where
  h1 : chOk hs = true
  h2 : chOk as = true
  nd : ∀ c ∈ hs, dig c = false
  na : ∀ c ∈ as, dig c = false
  dj : ∀ c ∈ hs, c ∉ as
theorem nodig_tail {hs as : List Nat} (K : KindOk hs as) {a : List Nat} (ha : a = [] ∨ ∃ c, a = [c] ∧ c ∈ as) {r : List (Nat × Int × List Nat)} (hr : ∀ p ∈ r, p.1 ∈ hs) : nodig (a ++ tailT r) := by
  intro c hc
  rcases ha with rfl | ⟨d, rfl, hd⟩
  · cases r with
    | nil => cases hc
    | cons p r =>
      have : p.1 = c := by simpa [tailT] using hc
      rw [← this]
      exact K.nd _ (hr p (.head _))
  · have : d = c := by simpa using hc
    rw [← this]
    exact K.na _ hd
theorem look_aim {hs as : List Nat} (K : KindOk hs as) {a pre : List Nat} (ha : a = [] ∨ ∃ c, a = [c] ∧ c ∈ as) {r : List (Nat × Int × List Nat)} (hr : ∀ p ∈ r, p.1 ∈ hs) : look (pre ++ (a ++ tailT r)) pre.length as = a := by
  rcases ha with rfl | ⟨d, rfl, hd⟩
  · refine look_not fun c hc hm => ?_
    rw [List.getElem?_append_right (Nat.le_refl _), Nat.sub_self] at hc
    cases r with
    | nil => simp [tailT] at hc
    | cons p r =>
      have : p.1 = c := by simpa [tailT] using hc
      rw [← this] at hm
      exact K.dj _ (hr p (.head _)) hm
  · exact look_at (by rw [List.getElem?_append_right (Nat.le_refl _), Nat.sub_self] <;> simp) hd
end M7.Z
namespace M7.Z
open PySem PySem.Spec PyProof.Rows L2 R7 SX
abbrev lstS (bs : List (List Nat)) : D := .lst (bs.map strL)
theorem loopW_rt {c : ST} {b : SS} {n : Nat} {g : G} {o : Bool} {d : D} {g' : G} (hc : c g = .ok true g) (hb : b g = .rt o d g') : loopW c b (n + 1) g = .rt o d g' := by
  simp only [loopW, hc, hb]
theorem loopW_nx {c : ST} {b : SS} {n : Nat} {g : G} {g' : G} (hc : c g = .ok true g) (hb : b g = .nx g') : loopW c b (n + 1) g = loopW c b n g' := by
  simp only [loopW, hc, hb]
theorem cTrue (g : G) : stB (seC (.bl true)) g = .ok true g := rfl
theorem fApp {ds : List D} {d : D} (h : ds.length < 100000) : fAppend (.lst ds) [d] = some (.non, .lst (ds ++ [d])) := fAppend_ok ds d h
theorem cut_loop {hs as T : List Nat} (K : KindOk hs as) {N1 N2 : SS} (hT : T.length ≤ 100000) : ∀ (r : List (Nat × Int × List Nat)) (m : Int) (a pre : List Nat) (ls : List Int) (bs cs : List (List Nat)) (x9 x10 x11 : Option (Fl × D)) (n : Nat),
    T = pre ++ (num m ++ (a ++ tailT r)) → Rod m → (a = [] ∨ ∃ c, a = [c] ∧ c ∈ as) → (∀ p ∈ r, p.1 ∈ hs ∧ Rod p.2.1 ∧ (p.2.2 = [] ∨ ∃ c, p.2.2 = [c] ∧ c ∈ as)) →
    ls.length + 1 + r.length ≤ 12 → bs.length ≤ ls.length → cs.length ≤ ls.length → r.length < n → lapX x9 x10 x11 →
    ∃ g, loopW (stB (seC (.bl true))) (cutB φ_length_size φ_letter_at dEq dIntC dLen dSl fAppend N1 N2) n (cutG (strL T) (.int 12) (.int 40) (strL hs) (strL as) (lstI ls) (lstS bs) (lstS cs) (pre.length : Nat) x9 x10 x11) =
      .rt false (.tup [lstI (ls ++ m :: r.map (·.2.1)), lstS (bs ++ r.map fun p => [p.1]), lstS (cs ++ a :: r.map (·.2.2))]) (some (.f, strL T) :: some (.f, .int 12) :: some (.f, .int 40) :: some (.f, strL hs) :: some (.f, strL as) :: g)
  | r, m, a, pre, ls, bs, cs, x9, x10, x11, 0, _, _, _, _, _, _, _, hn, _ => absurd hn (Nat.not_lt_zero _)
  | r, m, a, pre, ls, bs, cs, x9, x10, x11, n + 1, eT, hm, ha, hr, hl, hb, hc, hn, hx => by
    have ez : φ_length_size [(false, strL T), (false, .int (pre.length : Nat)), (false, .int 40)] = .ret false (.int (num m).length) [(false, strL T), (false, .int (pre.length : Nat)), (false, .int 40)] := by
      rw [eT]
      exact size_num pre (a ++ tailT r) m hm (nodig_tail K ha fun p hp => (hr p hp).1) (by rw [← eT]; exact hT)
    have hz : 1 ≤ (num m).length ∧ (num m).length ≤ 2 := by
      rcases num_shape hm with ⟨_, e, _⟩ | ⟨_, _, e, _⟩ <;> rw [e] <;> simp
    have hal : a.length ≤ 1 := by
      rcases ha with rfl | ⟨c, rfl, _⟩ <;> simp
    have es : dSl (strL T) (some (pre.length : Nat)) (some ((pre.length : Nat) + ((num m).length : Nat) : Int)) = some (false, strL (num m)) := by
      have := dSl_str T pre.length (pre.length + (num m).length) hT (by omega)
      rw [show pre.length + (num m).length - pre.length = (num m).length by omega] at this
      rw [eT, List.drop_left, List.take_left, ← eT] at this
      rw [← this]
      simp
    have ei : dIntC [strL (num m)] = some (false, .int m) := dIntC_S (num_int hm) (by omega)
    have el : φ_letter_at [(false, strL T), (false, .int ((pre.length : Nat) + ((num m).length : Nat) : Int)), (false, strL as)] = .ret false (strL a) [(false, strL T), (false, .int ((pre.length : Nat) + ((num m).length : Nat) : Int)), (false, strL as)] := by
      have := letter_ok T (pre.length + (num m).length) as hT
      rw [show look T (pre.length + (num m).length) as = a by
        rw [eT, ← List.append_assoc, ← List.length_append]
        exact look_aim K ha fun p hp => (hr p hp).1] at this
      rw [Int.natCast_add] at this
      exact this
    have e1 : dLen [strL a] = some (false, .int (a.length : Nat)) := dLen_str a (by omega)
    have e2 : dLen [strL T] = some (false, .int (T.length : Nat)) := dLen_str T hT
    have h0 : dEq (.int ((num m).length : Nat)) (.int 0) = some (false, .bl false) := by
      rw [dEq_int, decide_eq_false (by omega)]
    have a1 : fAppend (lstI ls) [.int m] = some (.non, lstI (ls ++ [m])) := by
      rw [show lstI (ls ++ [m]) = .lst (ls.map M7.D.int ++ [.int m]) by simp]
      exact fApp (by rw [List.length_map]; omega)
    have a2 : fAppend (lstS cs) [strL a] = some (.non, lstS (cs ++ [a])) := by
      rw [show lstS (cs ++ [a]) = .lst (cs.map strL ++ [strL a]) by simp]
      exact fApp (by rw [List.length_map]; omega)
    cases r with
    | nil =>
      have h1 : dEq (.int ((pre.length : Nat) + (((num m).length : Nat) + (a.length : Nat)) : Int)) (.int (T.length : Nat)) = some (false, .bl true) := by
        rw [dEq_int, decide_eq_true]
        rw [eT]
        simp [tailT]
      obtain ⟨g, e⟩ := cut_end (E := dEq) (I := dIntC) (L := dLen) (Z := dSl) (A := fAppend) (N1 := N1) (N2 := N2) (mr := .int 12) (hs := strL hs) (bs := bs.map strL) (φl := φ_letter_at) hx ez h0 es ei el e1 e2 h1 a1 a2
      refine ⟨g, ?_⟩
      rw [loopW_rt (cTrue _) e]
      simp
    | cons p r =>
      obtain ⟨h, m', a'⟩ := p
      have hp := hr _ (.head _)
      have e4 : T = (pre ++ (num m ++ (a ++ [h]))) ++ (num m' ++ (a' ++ tailT r)) := by
        rw [eT]
        simp [tailT]
      have e5 : T = (pre ++ (num m ++ a)) ++ h :: (num m' ++ (a' ++ tailT r)) := by
        rw [eT]
        simp [tailT]
      have hlt : pre.length + ((num m).length + a.length) < T.length := by
        rw [e5]
        simp
      have h1 : dEq (.int ((pre.length : Nat) + (((num m).length : Nat) + (a.length : Nat)) : Int)) (.int (T.length : Nat)) = some (false, .bl false) := by
        rw [dEq_int, decide_eq_false (by omega)]
      have el2 : φ_letter_at [(false, strL T), (false, .int ((pre.length : Nat) + (((num m).length : Nat) + (a.length : Nat)) : Int)), (false, strL hs)] = .ret false (strL [h]) [(false, strL T), (false, .int ((pre.length : Nat) + (((num m).length : Nat) + (a.length : Nat)) : Int)), (false, strL hs)] := by
        have := letter_ok T (pre.length + ((num m).length + a.length)) hs hT
        rw [show look T (pre.length + ((num m).length + a.length)) hs = [h] from look_at (by
          rw [e5, List.getElem?_append_right (by simp)]
          simp) hp.1] at this
        rw [Int.natCast_add, Int.natCast_add] at this
        exact this
      have eh : dEq (strL [h]) (.str "") = some (false, .bl false) := by
        rw [e_empty, dEq_strL (by
          have := List.all_eq_true.mp K.h1 h hp.1
          simp only [chOk, List.all_cons, List.all_nil, this, Bool.and_true]) rfl]
        simp
      have hl' : (ls.length : Int) + 1 + r.length + 1 ≤ 12 := by simp at hl; omega
      have e3 : dLen [lstI (ls ++ [m])] = some (false, .int ((ls.length : Nat) + 1 : Int)) := by simp [dLen]
      have h2 : dEq (.int ((ls.length : Nat) + 1 : Int)) (.int 12) = some (false, .bl false) := by
        rw [dEq_int, decide_eq_false (by omega)]
      have a3 : fAppend (lstS bs) [strL [h]] = some (.non, lstS (bs ++ [[h]])) := by
        rw [show lstS (bs ++ [[h]]) = .lst (bs.map strL ++ [strL [h]]) by simp]
        exact fApp (by rw [List.length_map]; omega)
      have e := cut_next (E := dEq) (I := dIntC) (L := dLen) (Z := dSl) (A := fAppend) (N1 := N1) (N2 := N2) (φl := φ_letter_at) hx ez h0 es ei el e1 e2 h1 el2 eh e3 h2 a1 a2 a3
      obtain ⟨g, e6⟩ := cut_loop K (N1 := N1) (N2 := N2) hT r m' a' (pre ++ (num m ++ (a ++ [h]))) (ls ++ [m]) (bs ++ [[h]]) (cs ++ [a]) _ _ _ n e4 hp.2.1 hp.2.2 (fun q hq => hr q (.tail _ hq)) (by simp; omega) (by simp; omega) (by simp; omega) (by simp at hn; omega) (.inr ⟨.int (num m).length, strL a, strL [h], rfl, rfl, rfl⟩)
      refine ⟨g, ?_⟩
      rw [loopW_nx (cTrue _) e]
      rw [show (((pre.length : Nat) : Int) + (((num m).length : Nat) + (a.length : Nat)) + 1) = (((pre ++ (num m ++ (a ++ [h]))).length : Nat) : Int) by simp; omega]
      rw [e6]
      simp
end M7.Z
namespace M7.Z
open PySem PySem.Spec PyProof.Rows L2 R7 SX
theorem cut_fin (W N0 : SS) (T hs as : List Nat) (d : D) (g : G) (e : W (cutG (strL T) (.int 12) (.int 40) (strL hs) (strL as) (.lst []) (.lst []) (.lst []) 0 none none none) = .rt false d (some (.f, strL T) :: some (.f, .int 12) :: some (.f, .int 40) :: some (.f, strL hs) :: some (.f, strL as) :: g)) :
    bodyFn 5 12 (ssSeq (ssIf (stNot (stB (seIsi tStr (sbVar 0)))) N0 ssNext)
    (ssSeq (ssAsg (seLst saNil) (sgName 5))
    (ssSeq (ssAsg (seLst saNil) (sgName 6))
    (ssSeq (ssAsg (seLst saNil) (sgName 7))
    (ssSeq (ssAsg (seC (.int 0)) (sgName 8)) W))))) [(false, strL T), (false, .int 12), (false, .int 40), (false, strL hs), (false, strL as)] =
      .ret false d [(false, strL T), (false, .int 12), (false, .int 40), (false, strL hs), (false, strL as)] := by
  unfold bodyFn
  simp [argG, ssSeq, ssIf, stNot, stB, seIsi, tStr, tkD, sbVar, Ref.get, O.bind, ofO, ssNext, ssAsg, seLst, saNil, datas, sized_ok, sgName, setS, seC, e, endsOf, endOf]
theorem cut_ok {hs as T : List Nat} (K : KindOk hs as) (hT : T.length ≤ 100000) (m : Int) (a : List Nat) (r : List (Nat × Int × List Nat)) (eT : T = num m ++ (a ++ tailT r)) (hm : Rod m) (ha : a = [] ∨ ∃ c, a = [c] ∧ c ∈ as)
    (hr : ∀ p ∈ r, p.1 ∈ hs ∧ Rod p.2.1 ∧ (p.2.2 = [] ∨ ∃ c, p.2.2 = [c] ∧ c ∈ as)) (hl : 1 + r.length ≤ 12) :
    φ_cut [(false, strL T), (false, .int 12), (false, .int 40), (false, strL hs), (false, strL as)] =
      .ret false (.tup [lstI (m :: r.map (·.2.1)), lstS (r.map fun p => [p.1]), lstS (a :: r.map (·.2.2))]) [(false, strL T), (false, .int 12), (false, .int 40), (false, strL hs), (false, strL as)] := by
  obtain ⟨g, e⟩ := cut_loop K (N1 := ssNo) (N2 := ssNo) hT r m a [] [] [] [] none none none fuel eT hm ha hr (by simpa using hl) (Nat.le_refl _) (Nat.le_refl _) (by unfold fuel; omega) (.inl ⟨rfl, rfl, rfl⟩)
  exact cut_fin _ ssNo T hs as _ g e
/-! the text of a rule, as the law writes it -/
def mkT (e f : List Int) (k : Int) : Nat := if k ∈ e then 61 else if k ∈ f then 126 else 45
def amT (g h : List Int) (k : Int) : List Nat := if k ∈ g then [62] else if k ∈ h then [60] else []
def restT (e f g h : List Int) : Int → List Int → List (Nat × Int × List Nat)
  | _, [] => []
  | k, m :: ms => (mkT e f k, m, amT g h (k + 1)) :: restT e f g h (k + 1) ms
theorem restT_len (e f g h : List Int) : ∀ (ms : List Int) (k : Int), (restT e f g h k ms).length = ms.length
  | [], _ => rfl
  | m :: ms, k => by simp only [restT, List.length_cons, restT_len e f g h ms]
theorem restT_rods (e f g h : List Int) : ∀ (ms : List Int) (k : Int), (restT e f g h k ms).map (·.2.1) = ms
  | [], _ => rfl
  | m :: ms, k => by simp only [restT, List.map_cons, restT_rods e f g h ms]
theorem restT_marks (e f g h : List Int) : ∀ (ms : List Int) (k : Int), (restT e f g h k ms).map (fun p => [p.1]) = (rgI k ms.length).map fun k => [mkT e f k]
  | [], _ => rfl
  | m :: ms, k => by simp only [restT, List.map_cons, restT_marks e f g h ms, List.length_cons, rgI]
theorem restT_aims (e f g h : List Int) : ∀ (ms : List Int) (k : Int), (restT e f g h k ms).map (·.2.2) = (rgI (k + 1) ms.length).map (amT g h)
  | [], _ => rfl
  | m :: ms, k => by simp only [restT, List.map_cons, restT_aims e f g h ms, List.length_cons, rgI]
theorem mkT_mem (e f : List Int) (k : Int) : mkT e f k ∈ [45, 61, 126] := by
  unfold mkT
  split
  · simp
  · split <;> simp
theorem amT_mem (g h : List Int) (k : Int) : amT g h k = [] ∨ ∃ c, amT g h k = [c] ∧ c ∈ [62, 60] := by
  unfold amT
  split
  · exact .inr ⟨62, rfl, by simp⟩
  · split
    · exact .inr ⟨60, rfl, by simp⟩
    · exact .inl rfl
theorem restT_ok (e f g h : List Int) : ∀ (ms : List Int) (k : Int), (∀ m ∈ ms, Rod m) → ∀ p ∈ restT e f g h k ms, p.1 ∈ [45, 61, 126] ∧ Rod p.2.1 ∧ (p.2.2 = [] ∨ ∃ c, p.2.2 = [c] ∧ c ∈ [62, 60])
  | [], _, _, p, hp => by cases hp
  | m :: ms, k, hm, p, hp => by
    rcases List.mem_cons.mp hp with rfl | hp
    · exact ⟨mkT_mem _ _ _, hm m (.head _), amT_mem _ _ _⟩
    · exact restT_ok e f g h ms (k + 1) (fun m h => hm m (.tail _ h)) p hp
def textT (e f g h : List Int) : List Int → List Nat
  | [] => []
  | m :: ms => num m ++ (amT g h 1 ++ tailT (restT e f g h 1 ms))
theorem tail_len (e f g h : List Int) : ∀ (ms : List Int) (k : Int), (∀ m ∈ ms, Rod m) → (tailT (restT e f g h k ms)).length ≤ 4 * ms.length
  | [], _, _ => by simp [restT, tailT]
  | m :: ms, k, hm => by
    have ih := tail_len e f g h ms (k + 1) fun m h => hm m (.tail _ h)
    have hz : (num m).length ≤ 2 := by
      rcases num_shape (hm m (.head _)) with ⟨_, e, _⟩ | ⟨_, _, e, _⟩ <;> rw [e] <;> simp
    have ha : (amT g h (k + 1)).length ≤ 1 := by
      rcases amT_mem g h (k + 1) with e | ⟨c, e, _⟩ <;> rw [e] <;> simp
    simp only [restT, tailT, List.length_cons, List.length_append]
    omega
theorem text_len (e f g h : List Int) (ms : List Int) (hm : ∀ m ∈ ms, Rod m) : (textT e f g h ms).length ≤ 4 * ms.length := by
  cases ms with
  | nil => simp [textT]
  | cons m ms =>
    have ih := tail_len e f g h ms 1 fun m h => hm m (.tail _ h)
    have hz : (num m).length ≤ 2 := by
      rcases num_shape (hm m (.head _)) with ⟨_, e, _⟩ | ⟨_, _, e, _⟩ <;> rw [e] <;> simp
    have ha : (amT g h 1).length ≤ 1 := by
      rcases amT_mem g h 1 with e | ⟨c, e, _⟩ <;> rw [e] <;> simp
    simp only [textT, List.length_cons, List.length_append]
    omega
theorem kind_full : KindOk [45, 61, 126] [62, 60] := ⟨by decide, by decide, by decide, by decide, by decide⟩
theorem kind_plain : KindOk [45] [] := ⟨by decide, by decide, by decide, by decide, by decide⟩
theorem cut_text (e f g h : List Int) (m : Int) (ms : List Int) (hm : ∀ k ∈ m :: ms, Rod k) (hl : (m :: ms).length ≤ 12) :
    φ_cut [(false, strL (textT e f g h (m :: ms))), (false, .int 12), (false, .int 40), (false, strL [45, 61, 126]), (false, strL [62, 60])] =
      .ret false (.tup [lstI (m :: ms), lstS ((rgI 1 ms.length).map fun k => [mkT e f k]), lstS ((rgI 1 (m :: ms).length).map (amT g h))]) [(false, strL (textT e f g h (m :: ms))), (false, .int 12), (false, .int 40), (false, strL [45, 61, 126]), (false, strL [62, 60])] := by
  have hle := text_len e f g h (m :: ms) hm
  have := cut_ok kind_full (T := textT e f g h (m :: ms)) (by omega) m (amT g h 1) (restT e f g h 1 ms) rfl (hm m (.head _)) (amT_mem _ _ _) (restT_ok e f g h ms 1 fun m h => hm m (.tail _ h)) (by rw [restT_len]; simp at hl; omega)
  rw [restT_rods, restT_marks, restT_aims] at this
  exact this
end M7.Z
namespace M7.Z
open PySem PySem.Spec PyProof.Rows L2 R7 SX
theorem enumK_map {α : Type} (w : Int → α) (f : α → D) : ∀ (n : Nat) (lo : Int), enumK lo ((rgI lo n).map fun k => f (w k)) = (rgI lo n).map fun k => M7.D.tup [.int k, f (w k)]
  | 0, _ => rfl
  | n + 1, lo => by simp only [rgI, List.map_cons, enumK, enumK_map w f n (lo + 1)]
theorem numbers_lc (c : List Nat) (w : Int → List Nat) (n : Nat) (hn : n < 1000) (hc : chOk c = true) (hw : ∀ k, chOk (w k) = true) :
    seLc (siV (enK 1) (saCons (sbOf (seVar 1)) saNil)) (sgTup 2 (sgCons (sgName 2) (sgCons (sgName 3) sgNil))) (stB (seOp dEq (sbVar 3) (sbVar 0))) (seVar 2) [2, 3] [some (.f, strL c), some (.f, lstS ((rgI 1 n).map w)), none, none] =
      .ok (true, lstI ((rgI 1 n).filter fun k => decide (w k = c))) [some (.f, strL c), some (.f, lstS ((rgI 1 n).map w)), none, none] := by
  refine seLc_ok (mk := fun k => M7.D.tup [.int k, strL (w k)]) (ds := rgI 1 n) M7.D.int (fun k => decide (w k = c)) ?_ rfl (by rw [rgI_len]; omega) fun k _ => ?_
  · rw [← enumK_map w strL]
    simp [siV, saCons, sbOf, seVar, Fl.fz, saNil, O.bind, datas, enK, Function.comp_def]
  · refine ⟨[some (.f, strL c), some (.f, lstS ((rgI 1 n).map w)), some (.f, .int k), some (.f, strL (w k))], rfl, [some (.f, strL c), some (.f, lstS ((rgI 1 n).map w)), some (.f, .int k), some (.f, strL (w k))], ?_, rfl, fun _ => ⟨false, [some (.f, strL c), some (.f, lstS ((rgI 1 n).map w)), some (.f, .int k), some (.f, strL (w k))], rfl, rfl⟩⟩
    have := dEq_strL (hw k) hc
    generalize dEq = E at this ⊢
    simp [stB, seOp, sbVar, O.bind, Ref.get, ofOpt, this]
theorem numbers_gen (LC : SE) (a b : D) (ns : List D) (e : LC [some (.f, a), some (.f, b), none, none] = .ok (true, .lst ns) [some (.f, a), some (.f, b), none, none]) :
    bodyFn 2 4 (ssRet (seCB dTuple (saCons (sbOf LC) saNil))) [(false, a), (false, b)] = .ret false (.tup ns) [(false, a), (false, b)] := by
  unfold bodyFn
  simp [argG, ssRet, ofO, seCB, saCons, sbOf, e, O.bind, saNil, refsGet, Ref.get, dTuple, ofOpt, endsOf, endOf]
theorem numbers_ok (c : List Nat) (w : Int → List Nat) (n : Nat) (hn : n < 1000) (hc : chOk c = true) (hw : ∀ k, chOk (w k) = true) :
    φ_numbers_of [(false, strL c), (false, lstS ((rgI 1 n).map w))] = .ret false (tupI ((rgI 1 n).filter fun k => decide (w k = c))) [(false, strL c), (false, lstS ((rgI 1 n).map w))] :=
  numbers_gen _ _ _ _ (numbers_lc c w n hn hc hw)
/-! rules are made -/
theorem isInt_ok (m : Int) : φ_is_integer [(false, .int m)] = .ret false (.bl true) [(false, .int m)] := by
  simp [φ_is_integer, bodyFn, ss_is_integer, argG, ssRet, ofO, seAnd, seIsi, sbVar, O.bind, Ref.get, tkD, tInt, tBool, seNot, endsOf, endOf]
instance (m : Int) : Decidable (Rod m) := by unfold Rod; infer_instance
theorem isRod_ok (m : Int) : φ_Rule_is_rod [(false, .int m)] = .ret false (.bl (decide (Rod m))) [(false, .int m)] := by
  have e := isInt_ok m
  show bodyFn 1 1 ss_Rule_is_rod _ = _
  unfold ss_Rule_is_rod bodyFn
  generalize φ_is_integer = φ at e ⊢
  by_cases h1 : 1 ≤ m
  · by_cases h2 : m ≤ 40
    · simp [argG, ssRet, ofO, seAnd, seCall, saCons, sbVar, saNil, O.bind, distinct, lentOf, argsOf, argOf, Fl.own, e, giveBack, seChain, sbOf, seC, Ref.get, dLe, dCmp, ofOpt, endsOf, endOf, Rod, h1, h2]
    · simp [argG, ssRet, ofO, seAnd, seCall, saCons, sbVar, saNil, O.bind, distinct, lentOf, argsOf, argOf, Fl.own, e, giveBack, seChain, sbOf, seC, Ref.get, dLe, dCmp, ofOpt, endsOf, endOf, Rod, h1, h2]
  · simp [argG, ssRet, ofO, seAnd, seCall, saCons, sbVar, saNil, O.bind, distinct, lentOf, argsOf, argOf, Fl.own, e, giveBack, seChain, sbOf, seC, Ref.get, dLe, dCmp, ofOpt, endsOf, endOf, Rod, h1]
/-- a call of a def of one frozen argument -/
theorem call1 {φ : Fn} {g : G} {k : Nat} {d r : D} {o : Bool} (hg : g[k]? = some (some (.f, d))) (e : φ [(false, d)] = .ret o r [(false, d)]) : seCall φ (saCons (sbVar k) saNil) g = .ok (o, r) g := by
  simp [seCall, saCons, sbVar, saNil, hg, O.bind, distinct, lentOf, Fl.own, argsOf, argOf, e, giveBack]
theorem all_true {α : Type} (p : α → Bool) : ∀ l : List α, (∀ a ∈ l, p a = true) → (l.map p).all id = true
  | [], _ => rfl
  | a :: l, h => by simp only [List.map_cons, List.all_cons, h a (.head _), id, all_true p l fun a h' => h a (.tail _ h'), Bool.and_self]
theorem rods_lc (ms : List Int) (o : Option (Fl × D)) (hl : ms.length < 1000) :
    seLc (siOf (seVar 1)) (sgName 2) (fun g => .ok true g) (seCall φ_Rule_is_rod (saCons (sbVar 2) saNil)) [2] [o, some (.f, tupI ms), none] =
      .ok (true, .lst (ms.map fun m => .bl (decide (Rod m)))) [o, some (.f, tupI ms), none] :=
  lc1m (mk := M7.D.int) (ds := ms) (fun m => .bl (decide (Rod m))) (by simp [siOf, seVar, O.bind, Fl.fz, itemsOf]) rfl (by omega) fun m _ => ⟨false, call1 rfl (isRod_ok m)⟩
theorem init_gen (LC : SE) (R1 R2 : SS) (c : CN) (fs : List (Str × D)) (ms : List D) (bs : List D) (hl : 1 ≤ ms.length ∧ ms.length ≤ 12) (hc : isRule c = true) (hf : fs.length < 1000) (hb : boolsOf bs = some xs) (ha : xs.all id = true)
    (e : LC [some (.p, .obj c fs), some (.f, .tup ms), none] = .ok (true, .lst bs) [some (.p, .obj c fs), some (.f, .tup ms), none]) :
    bodyFn 2 3 (ssSeq (ssIf (stNot (stB (seChain dLe dLe (sbOf (seC (.int 1))) (sbOf (seCB dLen (saCons (sbVar 1) saNil))) (sbOf (seC (.int 12)))))) R1 ssNext)
    (ssSeq (ssIf (stNot (stB (seCB dAll (saCons (sbOf LC) saNil)))) R2 ssNext)
    (ssSetF isRule 0 "_rods" (seVar 1)))) [(true, .obj c fs), (false, .tup ms)] = .ret false .non [(true, .obj c (putFD "_rods" (.tup ms) fs)), (false, .tup ms)] := by
  have h1 : (1 : Int) ≤ (ms.length : Nat) := by omega
  have h2 : ((ms.length : Nat) : Int) ≤ 12 := by omega
  have ha' : ¬ false ∈ xs := by simpa using ha
  unfold bodyFn
  simp [argG, ssSeq, ssIf, stNot, stB, seChain, sbOf, seC, seCB, saCons, sbVar, saNil, O.bind, refsGet, Ref.get, dLen, dLe, dCmp, ofOpt, h1, h2, e, dAll, hb, ofO, ssNext, ssSetF, seVar, Fl.fz, ownAt, Fl.own, hc, hf, ha', endsOf, endOf]
end M7.Z
namespace M7.Z
open PySem PySem.Spec PyProof.Rows L2 R7 SX
theorem rule_init (c : CN) (fs : List (Str × D)) (ms : List Int) (hc : isRule c = true) (hf : fs.length < 1000) (hl : 1 ≤ ms.length ∧ ms.length ≤ 12) (hm : ∀ m ∈ ms, Rod m) :
    φ_Rule___init [(true, .obj c fs), (false, tupI ms)] = .ret false .non [(true, .obj c (putFD "_rods" (tupI ms) fs)), (false, tupI ms)] :=
  init_gen _ _ _ c fs (ms.map .int) _ (by rw [List.length_map]; exact hl) hc hf (boolsOf_map (fun m => decide (Rod m)) ms) (all_true _ _ fun m h => decide_eq_true (hm m h)) (rods_lc ms _ (by omega))
theorem chk_lc (ks : List Int) (n : Int) (hl : ks.length < 1000) :
    seLc (siOf (seVar 0)) (sgName 2) (fun g => .ok true g) (seAnd (seCall φ_is_integer (saCons (sbVar 2) saNil)) (seChain dLe dLe (sbOf (seC (.int 1))) (sbVar 2) (sbVar 1))) [2] [some (.f, tupI ks), some (.f, .int n), none] =
      .ok (true, .lst (ks.map fun m => .bl (decide (1 ≤ m ∧ m ≤ n)))) [some (.f, tupI ks), some (.f, .int n), none] :=
  lc1m (mk := M7.D.int) (ds := ks) (fun m => .bl (decide (1 ≤ m ∧ m ≤ n))) (by simp [siOf, seVar, O.bind, Fl.fz, itemsOf]) rfl (by omega) fun m _ => ⟨false, by
    have e := call1 (g := [some (.f, tupI ks), some (.f, .int n), some (.f, .int m)]) (k := 2) rfl (isInt_ok m)
    show seAnd _ _ [some (.f, tupI ks), some (.f, .int n), some (.f, .int m)] = .ok (false, _) [some (.f, tupI ks), some (.f, .int n), some (.f, .int m)]
    unfold seAnd
    rw [e]
    by_cases h1 : 1 ≤ m
    · by_cases h2 : m ≤ n
      · simp [O.bind, seChain, sbOf, seC, sbVar, Ref.get, dLe, dCmp, ofOpt, h1, h2]
      · simp [O.bind, seChain, sbOf, seC, sbVar, Ref.get, dLe, dCmp, ofOpt, h1, h2]
    · simp [O.bind, seChain, sbOf, seC, sbVar, Ref.get, dLe, dCmp, ofOpt, h1]⟩
theorem chk_gen (LC : SE) (R1 R2 R3 : SS) (ks : List Int) (n : D) (bs : List D) {xs : List Bool} (hl : ks.length ≤ 1000) (hn : ks.Nodup) (hb : boolsOf bs = some xs) (ha : xs.all id = true)
    (e : LC [some (.f, tupI ks), some (.f, n), none] = .ok (true, .lst bs) [some (.f, tupI ks), some (.f, n), none]) :
    bodyFn 2 3 (ssSeq (ssIf (stNot (stB (seIsi tTuple (sbVar 0)))) R1 ssNext)
    (ssSeq (ssIf (stNot (stB (seCB dAll (saCons (sbOf LC) saNil)))) R2 ssNext)
    (ssIf (stB (seOp dNe (sbOf (seLenSet (sbVar 0))) (sbOf (seCB dLen (saCons (sbVar 0) saNil))))) R3 ssNext))) [(false, tupI ks), (false, n)] = .ret false .non [(false, tupI ks), (false, n)] := by
  have ha' : ¬ false ∈ xs := by simpa using ha
  have h4 : ks.length ≤ 4000 := by omega
  have h5 := dNe_int (ks.length : Nat) (ks.length : Nat)
  rw [decide_eq_true rfl] at h5
  have hi := intsD_map ks
  have hd := ddp_nodup ks hn
  unfold bodyFn
  generalize dNe = E at h5 ⊢
  simp [argG, ssSeq, ssIf, stNot, stB, seIsi, tTuple, tkD, sbOf, seOp, seC, seCB, saCons, sbVar, saNil, O.bind, refsGet, Ref.get, dLen, ofOpt, e, dAll, hb, ofO, ssNext, ha', seLenSet, hi, hd, h4, h5, endsOf, endOf]
theorem chk_ok (ks : List Int) (n : Int) (hl : ks.length ≤ 100) (hn : ks.Nodup) (hr : ∀ k ∈ ks, 1 ≤ k ∧ k ≤ n) :
    φ_check_option [(false, tupI ks), (false, .int n)] = .ret false .non [(false, tupI ks), (false, .int n)] :=
  chk_gen _ _ _ _ ks (.int n) _ (by omega) hn (boolsOf_map (fun m => decide (1 ≤ m ∧ m ≤ n)) ks) (all_true _ _ fun m h => decide_eq_true (hr m h)) (chk_lc ks n (by omega))
theorem pair_lc (a b : List Int) (n : Int) (hl : a.length < 1000) :
    seLc (siOf (seVar 0)) (sgName 3) (fun g => .ok true g) (seOp (dIn false) (sbVar 3) (sbVar 1)) [3] [some (.f, tupI a), some (.f, tupI b), some (.f, .int n), none] =
      .ok (true, .lst (a.map fun m => .bl (decide (m ∈ b)))) [some (.f, tupI a), some (.f, tupI b), some (.f, .int n), none] :=
  lc1m (mk := M7.D.int) (ds := a) (fun m => .bl (decide (m ∈ b))) (by simp [siOf, seVar, O.bind, Fl.fz, itemsOf]) rfl (by omega) fun m _ => ⟨false, by
    simp [seOp, sbVar, O.bind, Ref.get, dIn_tup, ofOpt]⟩
theorem any_false {α : Type} (p : α → Bool) : ∀ l : List α, (∀ a ∈ l, p a = false) → (l.map p).any id = false
  | [], _ => rfl
  | a :: l, h => by simp only [List.map_cons, List.any_cons, h a (.head _), id, any_false p l fun a h' => h a (.tail _ h'), Bool.or_self]
theorem pair_gen (φ : Fn) (S : List D → Option (Bool × D)) (LC : SE) (R1 : SS) (a b n a' b' : D) (ds es : List D) (bs : List D) {xs : List Bool} (e1 : φ [(false, a), (false, n)] = .ret false .non [(false, a), (false, n)]) (e2 : φ [(false, b), (false, n)] = .ret false .non [(false, b), (false, n)])
    (hb : boolsOf bs = some xs) (ha : xs.any id = false) (s1 : S [a] = some (true, .lst ds)) (s2 : S [b] = some (true, .lst es))
    (e : LC [some (.f, a), some (.f, b), some (.f, n), none] = .ok (true, .lst bs) [some (.f, a), some (.f, b), some (.f, n), none]) :
    bodyFn 3 4 (ssSeq (ssDrop (seCall φ (saCons (sbVar 0) (saCons (sbVar 2) saNil))))
    (ssSeq (ssDrop (seCall φ (saCons (sbVar 1) (saCons (sbVar 2) saNil))))
    (ssSeq (ssIf (stB (seCB dAny (saCons (sbOf LC) saNil))) R1 ssNext)
    (ssRet (seTup (saCons (sbOf (seCB dTuple (saCons (sbOf (seCB S (saCons (sbVar 0) saNil))) saNil))) (saCons (sbOf (seCB dTuple (saCons (sbOf (seCB S (saCons (sbVar 1) saNil))) saNil))) saNil))))))) [(false, a), (false, b), (false, n)] =
      .ret false (.tup [.tup ds, .tup es]) [(false, a), (false, b), (false, n)] := by
  have ha' : ¬ true ∈ xs := by simpa using ha
  unfold bodyFn
  simp [argG, ssSeq, ssDrop, seCall, saCons, sbVar, saNil, O.bind, distinct, lentOf, argsOf, argOf, Fl.own, e1, e2, giveBack, ofO, ssIf, stB, seCB, sbOf, e, refsGet, Ref.get, dAny, hb, ofOpt, ha', ssNext, ssRet, seTup, s1, s2, dTuple, datas, sized_ok, endsOf, endOf]
/-- a pair of options -/
structure PairOk (n : Int) (a b : List Int) : Prop where
  na : a.Nodup
  nb : b.Nodup
  ra : ∀ k ∈ a, 1 ≤ k ∧ k ≤ n
  rb : ∀ k ∈ b, 1 ≤ k ∧ k ≤ n
  dj : ∀ k ∈ a, k ∉ b
  la : a.length ≤ 100
  lb : b.length ≤ 100
theorem pair_ok {n : Int} {a b : List Int} (h : PairOk n a b) : φ_option_pair [(false, tupI a), (false, tupI b), (false, .int n)] = .ret false (.tup [tupI (sortI a), tupI (sortI b)]) [(false, tupI a), (false, tupI b), (false, .int n)] :=
  pair_gen φ_check_option dSorted _ _ _ _ _ .non .non _ _ _ (chk_ok a n h.la h.na h.ra) (chk_ok b n h.lb h.nb h.rb) (boolsOf_map (fun m => decide (m ∈ b)) a) (any_false _ _ fun m hm => decide_eq_false (h.dj m hm)) (dSorted_tup a) (dSorted_tup b) (pair_lc a b n (by have := h.la; omega))
theorem held_gen (φr φo : Fn) (f1 f2 : Str) (u : SB) (c : CN) (fs fs1 : List (Str × D)) (e b x y n : D) (ms : List D) (hc : isRule c = true) (hl : ms.length ≤ 12) (hf : fs1.length < 900)
    (er : φr [(true, .obj c fs), (false, .tup ms)] = .ret false .non [(true, .obj c fs1), (false, .tup ms)]) (eu : ∀ g, g[3]? = some (some (.f, .tup ms)) → u g = .ok (.dt n) g)
    (eo : φo [(false, e), (false, b), (false, n)] = .ret false (.tup [x, y]) [(false, e), (false, b), (false, n)]) (hp : (putFD f1 x fs1).length < 1000) :
    bodyFn 4 4 (ssSeq (ssDrop (seClsS φr 0 id (sbVar 0) (seVar 3) saNil))
    (ssAsg (seCall φo (saCons (sbVar 1) (saCons (sbVar 2) (saCons u saNil)))) (sgTup 2 (sgCons (sgFld isRule 0 f1) (sgCons (sgFld isRule 0 f2) sgNil))))) [(true, .obj c fs), (false, e), (false, b), (false, .tup ms)] =
      .ret false .non [(true, .obj c (putFD f2 y (putFD f1 x fs1))), (false, e), (false, b), (false, .tup ms)] := by
  have hs : ms.length ≤ sizeLine := Nat.le_trans hl (by decide)
  have hu := eu [some (.p, .obj c fs1), some (.f, e), some (.f, b), some (.f, .tup ms)] rfl
  have hf' : fs1.length < 1000 := by omega
  unfold bodyFn
  simp [argG, ssSeq, ssDrop, seClsS, sbVar, seVar, Fl.fz, saNil, O.bind, seqOf, datas, hs, dts, lentOf, distinct, Fl.own, argsOf, argOf, er, giveBack, ofO, ssAsg, seCall, saCons, hu, eo, sgTup, sgCons, sgNil, sgFld, ownAt, hc, hf', hp, endsOf, endOf]
theorem putFD_len (f : Str) (x : D) : ∀ fs : List (Str × D), (putFD f x fs).length ≤ fs.length + 1
  | [] => by simp [putFD]
  | (g, y) :: r => by
    have := putFD_len f x r
    unfold putFD
    split <;> simp <;> omega
theorem held_init (c : CN) (fs : List (Str × D)) (ms e b : List Int) (hc : isRule c = true) (hf : fs.length < 100) (hl : 1 ≤ ms.length ∧ ms.length ≤ 12) (hm : ∀ m ∈ ms, Rod m) (h : PairOk (ms.length - 1) e b) :
    φ_Held___init [(true, .obj c fs), (false, tupI e), (false, tupI b), (false, tupI ms)] =
      .ret false .non [(true, .obj c (putFD "_folded" (tupI (sortI b)) (putFD "_straight" (tupI (sortI e)) (putFD "_rods" (tupI ms) fs)))), (false, tupI e), (false, tupI b), (false, tupI ms)] :=
  held_gen φ_Rule___init φ_option_pair _ _ _ c fs _ _ _ _ _ (.int (ms.length - 1)) _ hc (by rw [List.length_map]; exact hl.2) (by have := putFD_len "_rods" (tupI ms) fs; omega) (rule_init c fs ms hc (by omega) hl hm)
    (fun g hg => by simp [sbOf, seOp, seCB, saCons, sbVar, hg, saNil, O.bind, refsGet, Ref.get, dLen, ofOpt, seC, dSub, i2]) (pair_ok h) (by have := putFD_len "_rods" (tupI ms) fs; have := putFD_len "_straight" (tupI (sortI e)) (putFD "_rods" (tupI ms) fs); omega)
theorem aimed_init (c : CN) (fs : List (Str × D)) (ms e b : List Int) (hc : isRule c = true) (hf : fs.length < 100) (hl : 1 ≤ ms.length ∧ ms.length ≤ 12) (hm : ∀ m ∈ ms, Rod m) (h : PairOk ms.length e b) :
    φ_Aimed___init [(true, .obj c fs), (false, tupI e), (false, tupI b), (false, tupI ms)] =
      .ret false .non [(true, .obj c (putFD "_left" (tupI (sortI b)) (putFD "_right" (tupI (sortI e)) (putFD "_rods" (tupI ms) fs)))), (false, tupI e), (false, tupI b), (false, tupI ms)] :=
  held_gen φ_Rule___init φ_option_pair _ _ _ c fs _ _ _ _ _ (.int ms.length) _ hc (by rw [List.length_map]; exact hl.2) (by have := putFD_len "_rods" (tupI ms) fs; omega) (rule_init c fs ms hc (by omega) hl hm)
    (fun g hg => by simp [sbOf, seCB, saCons, sbVar, hg, saNil, O.bind, refsGet, Ref.get, dLen, ofOpt]) (pair_ok h) (by have := putFD_len "_rods" (tupI ms) fs; have := putFD_len "_right" (tupI (sortI e)) (putFD "_rods" (tupI ms) fs); omega)
end M7.Z
namespace M7.Z
open PySem PySem.Spec PyProof.Rows L2 R7 SX
theorem bound_gen (φh φa : Fn) (o0 o1 o2 e f g h : D) (ms : List D) (hl : ms.length ≤ 12) (h1 : φh [(true, o0), (false, e), (false, f), (false, .tup ms)] = .ret false .non [(true, o1), (false, e), (false, f), (false, .tup ms)])
    (h2 : φa [(true, o1), (false, g), (false, h), (false, .tup ms)] = .ret false .non [(true, o2), (false, g), (false, h), (false, .tup ms)]) :
    bodyFn 6 6 (ssSeq (ssDrop (seClsS φh 2 id (sbVar 0) (seVar 5) (saCons (sbOf (seVar 1)) (saCons (sbOf (seVar 2)) saNil))))
    (ssDrop (seClsS φa 2 id (sbVar 0) (seVar 5) (saCons (sbOf (seVar 3)) (saCons (sbOf (seVar 4)) saNil))))) [(true, o0), (false, e), (false, f), (false, g), (false, h), (false, .tup ms)] =
      .ret false .non [(true, o2), (false, e), (false, f), (false, g), (false, h), (false, .tup ms)] := by
  have hs : ms.length ≤ sizeLine := Nat.le_trans hl (by decide)
  unfold bodyFn
  simp [argG, ssSeq, ssDrop, seClsS, sbVar, seVar, sbOf, saCons, Fl.fz, saNil, O.bind, seqOf, datas, hs, dts, lentOf, distinct, Fl.own, argsOf, argOf, h1, h2, giveBack, ofO, endsOf, endOf]
theorem e_rs : ¬ (("_rods" : Str) = "_straight") := by decide +kernel
theorem e_rf : ¬ (("_rods" : Str) = "_folded") := by decide +kernel
theorem e_sf : ¬ (("_straight" : Str) = "_folded") := by decide +kernel
theorem e_rr : ¬ (("_rods" : Str) = "_right") := by decide +kernel
theorem e_rl : ¬ (("_rods" : Str) = "_left") := by decide +kernel
theorem e_sr : ¬ (("_straight" : Str) = "_right") := by decide +kernel
theorem e_sl : ¬ (("_straight" : Str) = "_left") := by decide +kernel
theorem e_fr : ¬ (("_folded" : Str) = "_right") := by decide +kernel
theorem e_fl : ¬ (("_folded" : Str) = "_left") := by decide +kernel
theorem e_ril : ¬ (("_right" : Str) = "_left") := by decide +kernel
/-- the fields of a rule of each kind -/
def fldR (ms : List Int) : List (Str × D) := [("_rods", tupI ms)]
def fldH (ms e f : List Int) : List (Str × D) := [("_rods", tupI ms), ("_straight", tupI e), ("_folded", tupI f)]
def fldA (ms g h : List Int) : List (Str × D) := [("_rods", tupI ms), ("_right", tupI g), ("_left", tupI h)]
def fldB (ms e f g h : List Int) : List (Str × D) := [("_rods", tupI ms), ("_straight", tupI e), ("_folded", tupI f), ("_right", tupI g), ("_left", tupI h)]
theorem bound_init (ms e f g h : List Int) (hl : 1 ≤ ms.length ∧ ms.length ≤ 12) (hm : ∀ m ∈ ms, Rod m) (h1 : PairOk (ms.length - 1) e f) (h2 : PairOk ms.length g h) :
    φ_Bound___init [(true, .obj .bound []), (false, tupI e), (false, tupI f), (false, tupI g), (false, tupI h), (false, tupI ms)] =
      .ret false .non [(true, .obj .bound (fldB ms (sortI e) (sortI f) (sortI g) (sortI h))), (false, tupI e), (false, tupI f), (false, tupI g), (false, tupI h), (false, tupI ms)] := by
  have p1 := held_init .bound [] ms e f rfl (by simp) hl hm h1
  have p2 := aimed_init .bound (putFD "_folded" (tupI (sortI f)) (putFD "_straight" (tupI (sortI e)) (putFD "_rods" (tupI ms) []))) ms g h rfl (by
    have := putFD_len "_rods" (tupI ms) []
    have := putFD_len "_straight" (tupI (sortI e)) (putFD "_rods" (tupI ms) [])
    have := putFD_len "_folded" (tupI (sortI f)) (putFD "_straight" (tupI (sortI e)) (putFD "_rods" (tupI ms) []))
    simp only [List.length_nil] at *
    omega) hl hm h2
  have := bound_gen φ_Held___init φ_Aimed___init _ _ _ _ _ _ _ _ (by rw [List.length_map]; exact hl.2) p1 p2
  simp only [putFD, e_rs, e_rf, e_sf, e_rr, e_rl, e_sr, e_sl, e_fr, e_fl, e_ril, if_true, if_false] at this
  exact this
theorem mkO_ok {c : CN} {φ : Fn} {m : Nat} {gD : List D → List D} {ds es : List D} {o : D} {g : G} {bk : List (Bool × D)} (hl : ds.length ≤ 100) (hm : es.length = m) (e : φ ((true, .obj c []) :: (gD es ++ [M7.D.tup ds]).map fun d => (false, d)) = .ret false .non ((true, o) :: bk)) : mkO c φ m gD ds es g = .ok (true, o) g := by
  have hs : ds.length ≤ sizeLine := Nat.le_trans hl (by decide)
  unfold mkO
  rw [if_pos ⟨hs, hm⟩, e]
/-! the text of a rule, as the law writes it -/
theorem seIf_c {st : ST} {a b : SE} {g : G} {q : Bool} (e : st g = .ok q g) : seIf st a b g = if q = true then a g else b g := by
  simp only [seIf, e, O.bind]
theorem text_one (Ad In X : D → D → Option (Bool × D)) (x0 : Option (Fl × D)) (c1 : Fl) (os e f u1 u2 m : D) (i : Int) (b0 b1 : Bool) (s1 s2 s3 : D)
    (xe : X os (.int 0) = some (false, e)) (xf : X os (.int 1) = some (false, f))
    (i0 : In (.int i) e = some (false, .bl b0)) (i1 : In (.int i) f = some (false, .bl b1))
    (a0 : if 0 < i then Ad u1 (if b0 = true then s1 else if b1 = true then s2 else s3) = some (false, u2) else u2 = u1) :
    (ssIf (stB (seOp dGt (sbVar 3) (sbOf (seC (.int 0))))) (ssAsg (seOp Ad (sbVar 2) (sbOf (seIf (stB (seOp In (sbVar 3) (sbOf (seOp X (sbVar 1) (sbOf (seC (.int 0))))))) (seC s1) (seIf (stB (seOp In (sbVar 3) (sbOf (seOp X (sbVar 1) (sbOf (seC (.int 1))))))) (seC s2) (seC s3))))) (sgName 2)) ssNext) [x0, some (c1, os), some (.f, u1), some (.f, .int i), some (.f, m)] =
      .nx [x0, some (c1, os), some (.f, u2), some (.f, .int i), some (.f, m)] := by
  by_cases h0 : 0 < i
  · rw [if_pos h0] at a0
    have q0 : stB (seOp In (sbVar 3) (sbOf (seOp X (sbVar 1) (sbOf (seC (.int 0)))))) [x0, some (c1, os), some (.f, u1), some (.f, .int i), some (.f, m)] = .ok b0 [x0, some (c1, os), some (.f, u1), some (.f, .int i), some (.f, m)] := by
      simp [stB, seOp, sbVar, sbOf, seC, O.bind, Ref.get, ofOpt, xe, i0]
    have q1 : stB (seOp In (sbVar 3) (sbOf (seOp X (sbVar 1) (sbOf (seC (.int 1)))))) [x0, some (c1, os), some (.f, u1), some (.f, .int i), some (.f, m)] = .ok b1 [x0, some (c1, os), some (.f, u1), some (.f, .int i), some (.f, m)] := by
      simp [stB, seOp, sbVar, sbOf, seC, O.bind, Ref.get, ofOpt, xf, i1]
    have q2 : (seIf (stB (seOp In (sbVar 3) (sbOf (seOp X (sbVar 1) (sbOf (seC (.int 0))))))) (seC s1) (seIf (stB (seOp In (sbVar 3) (sbOf (seOp X (sbVar 1) (sbOf (seC (.int 1))))))) (seC s2) (seC s3))) [x0, some (c1, os), some (.f, u1), some (.f, .int i), some (.f, m)] = .ok (false, if b0 = true then s1 else if b1 = true then s2 else s3) [x0, some (c1, os), some (.f, u1), some (.f, .int i), some (.f, m)] := by
      rw [seIf_c q0, seIf_c q1]
      cases b0 <;> cases b1 <;> rfl
    simp [ssIf, stB, seOp, sbVar, sbOf, seC, O.bind, Ref.get, ofOpt, ofO, dGt, dCmp, h0, ssAsg, q2, a0, sgName, setS, Fl.pin]
  · rw [if_neg h0] at a0
    subst a0
    simp [ssIf, stB, seOp, sbVar, sbOf, seC, O.bind, Ref.get, ofOpt, ofO, dGt, dCmp, h0, ssNext]
theorem text_two (Ad In X : D → D → Option (Bool × D)) (St : List D → Option (Bool × D)) (x0 : Option (Fl × D)) (c1 : Fl) (os g h u2 u3 u4 m n : D) (i : Int) (b2 b3 : Bool) (s1 s2 s3 : D)
    (xg : X os (.int 2) = some (false, g)) (xh : X os (.int 3) = some (false, h))
    (hi : Ad (.int i) (.int 1) = some (false, .int (i + 1))) (i2 : In (.int (i + 1)) g = some (false, .bl b2)) (i3 : In (.int (i + 1)) h = some (false, .bl b3))
    (s : St [m] = some (false, n)) (a1 : Ad u2 n = some (false, u3)) (a2 : Ad u3 (if b2 = true then s1 else if b3 = true then s2 else s3) = some (false, u4)) :
    (ssAsg (seOp Ad (sbOf (seOp Ad (sbVar 2) (sbOf (seCB St (saCons (sbVar 4) saNil))))) (sbOf (seIf (stB (seOp In (sbOf (seOp Ad (sbVar 3) (sbOf (seC (.int 1))))) (sbOf (seOp X (sbVar 1) (sbOf (seC (.int 2))))))) (seC s1) (seIf (stB (seOp In (sbOf (seOp Ad (sbVar 3) (sbOf (seC (.int 1))))) (sbOf (seOp X (sbVar 1) (sbOf (seC (.int 3))))))) (seC s2) (seC s3))))) (sgName 2)) [x0, some (c1, os), some (.f, u2), some (.f, .int i), some (.f, m)] =
      .nx [x0, some (c1, os), some (.f, u4), some (.f, .int i), some (.f, m)] := by
    have q0 : stB (seOp In (sbOf (seOp Ad (sbVar 3) (sbOf (seC (.int 1))))) (sbOf (seOp X (sbVar 1) (sbOf (seC (.int 2)))))) [x0, some (c1, os), some (.f, u2), some (.f, .int i), some (.f, m)] = .ok b2 [x0, some (c1, os), some (.f, u2), some (.f, .int i), some (.f, m)] := by
      simp [stB, seOp, sbVar, sbOf, seC, O.bind, Ref.get, ofOpt, xg, i2, hi]
    have q1 : stB (seOp In (sbOf (seOp Ad (sbVar 3) (sbOf (seC (.int 1))))) (sbOf (seOp X (sbVar 1) (sbOf (seC (.int 3)))))) [x0, some (c1, os), some (.f, u2), some (.f, .int i), some (.f, m)] = .ok b3 [x0, some (c1, os), some (.f, u2), some (.f, .int i), some (.f, m)] := by
      simp [stB, seOp, sbVar, sbOf, seC, O.bind, Ref.get, ofOpt, xh, i3, hi]
    have q2 : (seIf (stB (seOp In (sbOf (seOp Ad (sbVar 3) (sbOf (seC (.int 1))))) (sbOf (seOp X (sbVar 1) (sbOf (seC (.int 2))))))) (seC s1) (seIf (stB (seOp In (sbOf (seOp Ad (sbVar 3) (sbOf (seC (.int 1))))) (sbOf (seOp X (sbVar 1) (sbOf (seC (.int 3))))))) (seC s2) (seC s3))) [x0, some (c1, os), some (.f, u2), some (.f, .int i), some (.f, m)] = .ok (false, if b2 = true then s1 else if b3 = true then s2 else s3) [x0, some (c1, os), some (.f, u2), some (.f, .int i), some (.f, m)] := by
      rw [seIf_c q0, seIf_c q1]
      cases b2 <;> cases b3 <;> rfl
    simp [seOp, sbVar, sbOf, seCB, saCons, saNil, refsGet, O.bind, Ref.get, ofOpt, ofO, ssAsg, s, a1, q2, a2, sgName, setS, Fl.pin]
theorem seq_nx {a b : SS} {g g1 : G} (e : a g = .nx g1) : ssSeq a b g = b g1 := by
  simp only [ssSeq, e]
theorem dAdd_strL (a b : List Nat) (h : a.length + b.length ≤ 100000) : dAdd (strL a) (strL b) = some (false, strL (a ++ b)) := by
  simp only [dAdd, dCatS]
  rw [if_pos (by rw [S_len, S_len]; exact Nat.le_trans h (by decide)), S_cat]
theorem e_eq : (("=" : String) : Str) = S [61] := by decide +kernel
theorem e_ti : (("~" : String) : Str) = S [126] := by decide +kernel
theorem e_mi : (("-" : String) : Str) = S [45] := by decide +kernel
theorem e_gt : ((">" : String) : Str) = S [62] := by decide +kernel
theorem e_lt : (("<" : String) : Str) = S [60] := by decide +kernel
theorem dStr_num {m : Int} (h : Rod m) : dStr [.int m] = some (false, strL (num m)) := by
  simp only [dStr]
  rw [if_pos (num_log h), num_str h]
abbrev optD (e f g h : List Int) : D := .lst [tupI e, tupI f, tupI g, tupI h]
theorem text_step (x0 : Option (Fl × D)) (c1 : Fl) (e f g h : List Int) (u : List Nat) (i : Nat) (m : Int) (hm : Rod m) (hu : u.length < 1000) :
    ss_law_text_b0 [x0, some (c1, optD e f g h), some (.f, strL u), some (.f, .int i), some (.f, .int m)] =
      .nx [x0, some (c1, optD e f g h), some (.f, strL (u ++ ((if 0 < i then [mkT e f i] else []) ++ (num m ++ amT g h (i + 1))))), some (.f, .int i), some (.f, .int m)] := by
  have hz : (num m).length ≤ 2 := by
    rcases num_shape hm with ⟨_, e, _⟩ | ⟨_, _, e, _⟩ <;> rw [e] <;> simp
  have ha : (amT g h (i + 1)).length ≤ 1 := by
    rcases amT_mem g h (i + 1) with e | ⟨c, e, _⟩ <;> rw [e] <;> simp
  unfold ss_law_text_b0
  rw [seq_nx (text_one dAdd (dIn false) dIx x0 c1 (optD e f g h) (tupI e) (tupI f) (strL u) (strL (u ++ (if 0 < i then [mkT e f i] else []))) (.int m) i (decide ((i : Int) ∈ e)) (decide ((i : Int) ∈ f)) _ _ _ rfl rfl (dIn_tup false _ _) (dIn_tup false _ _) ?_)]
  · refine (text_two dAdd (dIn false) dIx dStr x0 c1 (optD e f g h) (tupI g) (tupI h) _ (strL (u ++ (if 0 < i then [mkT e f i] else []) ++ num m)) (strL (u ++ (if 0 < i then [mkT e f i] else []) ++ num m ++ amT g h (i + 1))) (.int m) (strL (num m)) i (decide ((i : Int) + 1 ∈ g)) (decide ((i : Int) + 1 ∈ h)) _ _ _ rfl rfl rfl (dIn_tup false _ _) (dIn_tup false _ _) (dStr_num hm) (dAdd_strL _ _ ?_) ?_).trans ?_
    · split <;> simp <;> omega
    · rw [show (if decide ((i : Int) + 1 ∈ g) = true then M7.D.str (">" : Str) else if decide ((i : Int) + 1 ∈ h) = true then .str ("<" : Str) else .str ("" : Str)) = strL (amT g h (i + 1)) by
        unfold amT
        rw [e_gt, e_lt, e_empty]
        by_cases q1 : (i : Int) + 1 ∈ g
        · simp [q1]
        · by_cases q2 : (i : Int) + 1 ∈ h <;> simp [q1, q2]]
      exact dAdd_strL _ _ (by split <;> simp <;> omega)
    · simp
  · by_cases h0 : 0 < i
    · rw [if_pos (by omega), if_pos h0]
      rw [show (if decide ((i : Int) ∈ e) = true then M7.D.str ("=" : Str) else if decide ((i : Int) ∈ f) = true then .str ("~" : Str) else .str ("-" : Str)) = strL [mkT e f i] by
        unfold mkT
        rw [e_eq, e_ti, e_mi]
        by_cases q1 : (i : Int) ∈ e
        · simp [q1]
        · by_cases q2 : (i : Int) ∈ f <;> simp [q1, q2]]
      exact dAdd_strL _ _ (by simp; omega)
    · rw [if_neg (by omega), if_neg h0, List.append_nil]
end M7.Z
namespace M7.Z
open PySem PySem.Spec PyProof.Rows L2 R7 SX
def lap2 (x y : Option (Fl × D)) : Prop := (x = none ∧ y = none) ∨ ∃ d e, x = some (.f, d) ∧ y = some (.f, e)
theorem sg34 {x0 x1 x2 x3 x4 : Option (Fl × D)} (h : lap2 x3 x4) (a b : D) : sgTup 2 (sgCons (sgName 3) (sgCons (sgName 4) sgNil)) (false, .tup [a, b]) [x0, x1, x2, x3, x4] = some [x0, x1, x2, some (.f, a), some (.f, b)] := by
  rcases h with ⟨rfl, rfl⟩ | ⟨d, e, rfl, rfl⟩ <;> rfl
theorem loopL_step {sg : SG} {body : SS} {d : D} {ds : List D} {g g1 g2 : G} (e1 : sg (false, d) g = some g1) (e2 : body g1 = .nx g2) : loopL sg body (d :: ds) g = loopL sg body ds g2 := by
  simp only [loopL, e1, e2]
theorem text_loop (x0 : Option (Fl × D)) (c1 : Fl) (e f g h : List Int) : ∀ (ms : List Int) (i : Nat) (u : List Nat) (x3 x4 : Option (Fl × D)), 0 < i → lap2 x3 x4 → (∀ m ∈ ms, Rod m) → u.length + 4 * ms.length < 900 →
    ∃ y3 y4, lap2 y3 y4 ∧ loopL (sgTup 2 (sgCons (sgName 3) (sgCons (sgName 4) sgNil))) ss_law_text_b0 (enumD i (ms.map M7.D.int)) [x0, some (c1, optD e f g h), some (.f, strL u), x3, x4] =
      .nx [x0, some (c1, optD e f g h), some (.f, strL (u ++ tailT (restT e f g h i ms))), y3, y4]
  | [], i, u, x3, x4, _, hx, _, _ => ⟨x3, x4, hx, by simp [enumD, loopL, restT, tailT]⟩
  | m :: ms, i, u, x3, x4, hi, hx, hm, hl => by
    have hr := hm m (.head _)
    have hz : (num m).length ≤ 2 := by
      rcases num_shape hr with ⟨_, e, _⟩ | ⟨_, _, e, _⟩ <;> rw [e] <;> simp
    have ha : (amT g h (i + 1)).length ≤ 1 := by
      rcases amT_mem g h (i + 1) with e | ⟨c, e, _⟩ <;> rw [e] <;> simp
    simp only [List.length_cons] at hl
    obtain ⟨y3, y4, hy, e2⟩ := text_loop x0 c1 e f g h ms (i + 1) (u ++ ((if 0 < i then [mkT e f i] else []) ++ (num m ++ amT g h (i + 1)))) _ _ (Nat.succ_pos _) (.inr ⟨.int i, .int m, rfl, rfl⟩) (fun m h => hm m (.tail _ h)) (by
      rw [if_pos hi]
      simp
      omega)
    refine ⟨y3, y4, hy, ?_⟩
    rw [List.map_cons, enumD, loopL_step (sg34 hx _ _) (text_step x0 c1 e f g h u i m hr (by omega)), e2]
    simp [restT, tailT, hi]
theorem text_fin (B : SS) (b1 b2 : Bool) (ms : List D) (o r : D) (y3 y4 : Option (Fl × D)) (e : loopL (sgTup 2 (sgCons (sgName 3) (sgCons (sgName 4) sgNil))) B (enumD 0 ms) [some ((if b1 = true then Fl.p else .f).fz, .lst ms), some (if b2 = true then .p else .f, o), some (.f, .str ""), none, none] = .nx [some ((if b1 = true then Fl.p else .f).fz, .lst ms), some (if b2 = true then .p else .f, o), some (.f, r), y3, y4]) :
    bodyFn 2 5 (ssSeq (ssAsg (seC (.str "")) (sgName 2)) (ssSeq (ssFor (siV en1 (saCons (sbOf (seVar 0)) saNil)) (sgTup 2 (sgCons (sgName 3) (sgCons (sgName 4) sgNil))) B) (ssRet (seMove 2)))) [(b1, .lst ms), (b2, o)] =
      .ret false r [(false, .lst ms), (b2, o)] := by
  unfold bodyFn
  cases b1 <;> cases b2 <;> simp only [if_true, if_false, Bool.false_eq_true, Fl.fz] at e <;>
  simp [argG, ssSeq, ssAsg, seC, sgName, setS, ofO, ssFor, siV, saCons, sbOf, seVar, Fl.fz, saNil, O.bind, datas, en1, e, ssRet, seMove, endsOf, endOf]
theorem text_ok (b1 b2 : Bool) (e f g h : List Int) (m : Int) (ms : List Int) (hm : ∀ k ∈ m :: ms, Rod k) (hl : (m :: ms).length ≤ 12) :
    φ_law_text [(b1, lstI (m :: ms)), (b2, optD e f g h)] = .ret false (strL (textT e f g h (m :: ms))) [(false, lstI (m :: ms)), (b2, optD e f g h)] := by
  have hr := hm m (.head _)
  have hz : (num m).length ≤ 2 := by
    rcases num_shape hr with ⟨_, e, _⟩ | ⟨_, _, e, _⟩ <;> rw [e] <;> simp
  have ha : (amT g h 1).length ≤ 1 := by
    rcases amT_mem g h 1 with e | ⟨c, e, _⟩ <;> rw [e] <;> simp
  simp only [List.length_cons] at hl
  have s0 := text_step (some ((if b1 = true then Fl.p else .f).fz, lstI (m :: ms))) (if b2 = true then .p else .f) e f g h [] 0 m hr (by simp)
  obtain ⟨y3, y4, _, e2⟩ := text_loop (some ((if b1 = true then Fl.p else .f).fz, lstI (m :: ms))) (if b2 = true then .p else .f) e f g h ms 1 (num m ++ amT g h 1) _ _ (Nat.succ_pos _) (.inr ⟨.int 0, .int m, rfl, rfl⟩) (fun m h => hm m (.tail _ h)) (by
      simp
      omega)
  refine text_fin ss_law_text_b0 b1 b2 _ _ _ y3 y4 ?_
  rw [e_empty]
  refine (loopL_step (d := .tup [.int 0, .int m]) (ds := enumD 1 (ms.map .int)) (sg34 (.inl ⟨rfl, rfl⟩) _ _) s0).trans ?_
  simp only [textT]
  rw [← List.append_assoc (num m)]
  rw [show [] ++ ((if 0 < 0 then [mkT e f ((0 : Nat) : Int)] else []) ++ (num m ++ amT g h (((0 : Nat) : Int) + 1))) = num m ++ amT g h 1 by simp]
  exact e2
/-! a rule from its text -/
theorem read_gen (φc φn M : Fn) (t k1 k2 s1 s2 s3 s4 hs as r1 r2 r3 r4 o : D) (rs : List D) (bk : List (Bool × D)) (hl : rs.length ≤ 100)
    (ec : φc [(false, t), (false, .int 12), (false, .int 40), (false, k1), (false, k2)] = .ret false (.tup [.lst rs, hs, as]) [(false, t), (false, .int 12), (false, .int 40), (false, k1), (false, k2)])
    (e1 : φn [(false, s1), (false, hs)] = .ret false r1 [(false, s1), (false, hs)]) (e2 : φn [(false, s2), (false, hs)] = .ret false r2 [(false, s2), (false, hs)])
    (e3 : φn [(false, s3), (false, as)] = .ret false r3 [(false, s3), (false, as)]) (e4 : φn [(false, s4), (false, as)] = .ret false r4 [(false, s4), (false, as)])
    (em : M [(true, .obj .bound []), (false, r1), (false, r2), (false, r3), (false, r4), (false, .tup rs)] = .ret false .non ((true, o) :: bk)) :
    bodyFn 1 8 (ssSeq (ssAsg (seCall φc (saCons (sbVar 0) (saCons (sbOf (seC (.int 12))) (saCons (sbOf (seC (.int 40))) (saCons (sbOf (seC k1)) (saCons (sbOf (seC k2)) saNil)))))) (sgTup 3 (sgCons (sgName 1) (sgCons (sgName 2) (sgCons (sgName 3) sgNil)))))
    (ssSeq (ssAsg (seCall φn (saCons (sbOf (seC s1)) (saCons (sbVar 2) saNil))) (sgName 4))
    (ssSeq (ssAsg (seCall φn (saCons (sbOf (seC s2)) (saCons (sbVar 2) saNil))) (sgName 5))
    (ssSeq (ssAsg (seCall φn (saCons (sbOf (seC s3)) (saCons (sbVar 3) saNil))) (sgName 6))
    (ssSeq (ssAsg (seCall φn (saCons (sbOf (seC s4)) (saCons (sbVar 3) saNil))) (sgName 7))
    (ssRet (seMakeS .bound M 4 id (seVar 1) (saCons (sbOf (seVar 4)) (saCons (sbOf (seVar 5)) (saCons (sbOf (seVar 6)) (saCons (sbOf (seVar 7)) saNil))))))))))) [(false, t)] =
      .ret true o [(false, t)] := by
  have hk := fun (g : G) => mkO_ok (c := .bound) (φ := M) (m := 4) (gD := id) (ds := rs) (es := [r1, r2, r3, r4]) (o := o) (g := g) (bk := bk) hl rfl em
  unfold bodyFn
  simp [argG, ssSeq, ssAsg, seC, sgTup, sgCons, sgNil, sgName, setS, ofO, saCons, sbOf, sbVar, seVar, Fl.fz, Fl.pin, Fl.own, saNil, O.bind, datas, seCall, distinct, lentOf, argsOf, argOf, ec, e1, e2, e3, e4, giveBack, ssRet, seMakeS, seqOf, hk, endsOf, endOf]
theorem filter_mk1 (e f : List Int) (n : Nat) : ((rgI 1 n).filter fun k => decide ([mkT e f k] = [61])) = (rgI 1 n).filter fun k => decide (k ∈ e) := by
  refine List.filter_congr fun k _ => ?_
  unfold mkT
  by_cases q1 : k ∈ e
  · simp [q1]
  · by_cases q2 : k ∈ f <;> simp [q1, q2]
theorem filter_mk2 (e f : List Int) (n : Nat) (dj : ∀ k ∈ e, k ∉ f) : ((rgI 1 n).filter fun k => decide ([mkT e f k] = [126])) = (rgI 1 n).filter fun k => decide (k ∈ f) := by
  refine List.filter_congr fun k _ => ?_
  unfold mkT
  by_cases q1 : k ∈ e
  · simp [q1, dj k q1]
  · by_cases q2 : k ∈ f <;> simp [q1, q2]
theorem filter_am1 (g h : List Int) (n : Nat) : ((rgI 1 n).filter fun k => decide (amT g h k = [62])) = (rgI 1 n).filter fun k => decide (k ∈ g) := by
  refine List.filter_congr fun k _ => ?_
  unfold amT
  by_cases q1 : k ∈ g
  · simp [q1]
  · by_cases q2 : k ∈ h <;> simp [q1, q2]
theorem filter_am2 (g h : List Int) (n : Nat) (dj : ∀ k ∈ g, k ∉ h) : ((rgI 1 n).filter fun k => decide (amT g h k = [60])) = (rgI 1 n).filter fun k => decide (k ∈ h) := by
  refine List.filter_congr fun k _ => ?_
  unfold amT
  by_cases q1 : k ∈ g
  · simp [q1, dj k q1]
  · by_cases q2 : k ∈ h <;> simp [q1, q2]
theorem sorted_pair {n : Int} {a b : List Int} (h : PairOk n a b) : PairOk n (sortI a) (sortI b) :=
  ⟨nodup_sortI.mpr h.na, nodup_sortI.mpr h.nb, fun k q => h.ra k (mem_sortI.mp q), fun k q => h.rb k (mem_sortI.mp q), fun k q r => h.dj k (mem_sortI.mp q) (mem_sortI.mp r), by rw [len_sortI]; exact h.la, by rw [len_sortI]; exact h.lb⟩
theorem mk_ok (e f : List Int) (k : Int) : chOk [mkT e f k] = true := by
  have := mkT_mem e f k
  simp at this
  rcases this with h | h | h <;> rw [h] <;> rfl
theorem am_ok (g h : List Int) (k : Int) : chOk (amT g h k) = true := by
  rcases amT_mem g h k with e | ⟨c, e, hc⟩
  · rw [e]; rfl
  · simp at hc
    rcases hc with hc | hc <;> rw [e, hc] <;> rfl
theorem e_hin : (("-=~" : String) : Str) = S [45, 61, 126] := by decide +kernel
theorem e_aim : (("><" : String) : Str) = S [62, 60] := by decide +kernel
theorem read_ok (e f g h : List Int) (m : Int) (ms : List Int) (hm : ∀ k ∈ m :: ms, Rod k) (hl : (m :: ms).length ≤ 12) (h1 : PairOk ((m :: ms).length - 1) e f) (h2 : PairOk (m :: ms).length g h) :
    φ_read [(false, strL (textT e f g h (m :: ms)))] = .ret true (.obj .bound (fldB (m :: ms) (sortI e) (sortI f) (sortI g) (sortI h))) [(false, strL (textT e f g h (m :: ms)))] := by
  have hn : (m :: ms).length = ms.length + 1 := rfl
  have ec := cut_text e f g h m ms hm hl
  have n1 := numbers_ok [61] (fun k => [mkT e f k]) ms.length (by omega) rfl (mk_ok e f)
  have n2 := numbers_ok [126] (fun k => [mkT e f k]) ms.length (by omega) rfl (mk_ok e f)
  have n3 := numbers_ok [62] (amT g h) (m :: ms).length (by omega) rfl (am_ok g h)
  have n4 := numbers_ok [60] (amT g h) (m :: ms).length (by omega) rfl (am_ok g h)
  rw [filter_mk1, ← sortI_filter h1.na (fun k q => by have := h1.ra k q; rw [hn] at this; omega)] at n1
  rw [filter_mk2 _ _ _ h1.dj, ← sortI_filter h1.nb (fun k q => by have := h1.rb k q; rw [hn] at this; omega)] at n2
  rw [filter_am1, ← sortI_filter h2.na (fun k q => by have := h2.ra k q; omega)] at n3
  rw [filter_am2 _ _ _ h2.dj, ← sortI_filter h2.nb (fun k q => by have := h2.rb k q; omega)] at n4
  have em := bound_init (m :: ms) (sortI e) (sortI f) (sortI g) (sortI h) ⟨by simp, hl⟩ hm (sorted_pair h1) (sorted_pair h2)
  simp only [sortI_idem] at em
  show bodyFn 1 8 ss_read _ = _
  unfold ss_read
  rw [e_hin, e_aim, e_eq, e_ti, e_gt, e_lt]
  exact read_gen φ_cut φ_numbers_of φ_Bound___init _ _ _ _ _ _ _ _ _ _ _ _ _ _ _ _ (by rw [List.length_map]; omega) ec n1 n2 n3 n4 em
end M7.Z
/-! What repr shows. -/
namespace M7.Z
open PySem PySem.Spec PyProof.Rows L2 R7 SX
theorem ok_app {a b : Str} (ha : PyData.strOk a = true) (hb : PyData.strOk b = true) : PyData.strOk (a ++ b) = true := by
  have e : (a ++ b).cps = a.cps ++ b.cps := rfl
  unfold PyData.strOk at *
  rw [e, Array.all_append, ha, hb]
  rfl
theorem ok_from : ∀ (ts : List Str) (k : Nat) (acc : Str), (∀ t ∈ ts, PyData.strOk t = true) → PyData.strOk acc = true → PyData.strOk (textFrom k acc ts) = true
  | [], _, _, _, h => h
  | t :: r, k, acc, ht, h => by
    unfold textFrom
    refine ok_from r (k + 1) _ (fun t q => ht t (.tail _ q)) (ok_app (ok_app h ?_) (ht t (.head _)))
    split <;> decide +kernel
theorem ok_join : ∀ ts : List Str, (∀ t ∈ ts, PyData.strOk t = true) → PyData.strOk (Str.join ", " ts) = true
  | [], _ => by decide +kernel
  | [t], h => h t (.head _)
  | t :: u :: r, h => ok_app (ok_app (h t (.head _)) (by decide +kernel)) (ok_join (u :: r) fun t q => h t (.tail _ q))
/-- data that repr shows in at most n signs -/
structure SmP (n k : Nat) (d : PyData) : Prop where
  sh : d.showable = true
  sz : d.shown.length ≤ n
  dp : d.depth ≤ k
  ok : PyData.strOk d.shown = true
theorem smp_all : ∀ {ds : List PyData} {n k : Nat}, (∀ d ∈ ds, SmP n k d) → PyData.showableAll ds = true ∧ ((PyData.shownAll ds).map (·.length)).sum ≤ ds.length * n ∧ (PyData.shownAll ds).length = ds.length ∧ PyData.depthAll ds ≤ k ∧ ∀ t ∈ PyData.shownAll ds, PyData.strOk t = true
  | [], _, _, _ => by simp [PyData.showableAll, PyData.shownAll, PyData.depthAll]
  | d :: ds, n, k, h => by
    obtain ⟨a, b, c, e, f⟩ := smp_all (ds := ds) fun x hx => h x (List.mem_cons_of_mem _ hx)
    have hd := h d List.mem_cons_self
    refine ⟨by simp only [PyData.showableAll, hd.sh, a]; rfl, ?_, ?_, ?_, ?_⟩
    · simp only [PyData.shownAll, List.map_cons, List.sum_cons, List.length_cons, Nat.add_mul, Nat.one_mul]
      have := hd.sz
      omega
    · simp only [PyData.shownAll, List.length_cons, c]
    · simp only [PyData.depthAll]
      exact Nat.max_le.mpr ⟨hd.dp, e⟩
    · intro t ht
      simp only [PyData.shownAll, List.mem_cons] at ht
      rcases ht with rfl | ht
      · exact hd.ok
      · exact f t ht
theorem smp_list {ds : List PyData} {n k : Nat} (h : ∀ d ∈ ds, SmP n k d) : SmP (ds.length * n + 2 * ds.length + 3) (k + 1) (.list ds) := by
  obtain ⟨a, b, c, e, f⟩ := smp_all h
  refine ⟨by simpa only [PyData.showable] using a, ?_, by simp only [PyData.depth]; omega, ?_⟩
  · have := listText_len_le (PyData.shownAll ds)
    simp only [PyData.shown]
    omega
  · simp only [PyData.shown]
    exact ok_app (ok_from _ _ _ f (by decide +kernel)) (by decide +kernel)
theorem smp_tuple {ds : List PyData} {n k : Nat} (h : ∀ d ∈ ds, SmP n k d) : SmP (ds.length * n + 2 * ds.length + 3) (k + 1) (.tuple ds) := by
  obtain ⟨a, b, c, e, f⟩ := smp_all h
  refine ⟨by simpa only [PyData.showable] using a, ?_, by simp only [PyData.depth]; omega, ?_⟩
  · have := tupleText_len_le (PyData.shownAll ds)
    simp only [PyData.shown]
    omega
  · simp only [PyData.shown]
    refine ok_app (ok_app (by decide +kernel) (ok_join _ f)) ?_
    split <;> decide +kernel
theorem smp_nat : ∀ k : Nat, k < 1000 → (PyData.int (k : Int)).showable = true ∧ (PyData.int (k : Int)).shown.length ≤ 3 ∧ PyData.strOk (PyData.int (k : Int)).shown = true := by decide +kernel
theorem smp_int {n : Int} (h0 : 0 ≤ n) (h1 : n < 1000) : SmP 3 0 (.int n) := by
  obtain ⟨k, rfl⟩ : ∃ k : Nat, n = (k : Int) := ⟨n.toNat, by omega⟩
  obtain ⟨a, b, c⟩ := smp_nat k (by omega)
  exact ⟨a, b, by simp only [PyData.depth]; omega, c⟩
theorem SmP.mono {n k n' k' : Nat} {d : PyData} (h : SmP n k d) (hn : n ≤ n') (hk : k ≤ k') : SmP n' k' d := ⟨h.sh, Nat.le_trans h.sz hn, Nat.le_trans h.dp hk, h.ok⟩
/-- .. of data of the program -/
structure Sm (n k : Nat) (d : D) : Prop where
  ex : ∃ p, pd d = some p ∧ SmP n k p
theorem sm_ds {n k : Nat} : ∀ {ds : List D}, (∀ d ∈ ds, Sm n k d) → ∃ ps, pds ds = some ps ∧ ps.length = ds.length ∧ ∀ p ∈ ps, SmP n k p
  | [], _ => ⟨[], by simp [pds], rfl, by simp⟩
  | d :: ds, h => by
    obtain ⟨p, e, hp⟩ := (h d (.head _)).ex
    obtain ⟨ps, e2, hl, hps⟩ := sm_ds fun d q => h d (.tail _ q)
    refine ⟨p :: ps, by simp only [pds, e, e2], by simp [hl], fun q hq => ?_⟩
    rcases List.mem_cons.mp hq with rfl | hq
    · exact hp
    · exact hps q hq
theorem sm_lst {n k : Nat} {ds : List D} (h : ∀ d ∈ ds, Sm n k d) : Sm (ds.length * n + 2 * ds.length + 3) (k + 1) (.lst ds) := by
  obtain ⟨ps, e, hl, hps⟩ := sm_ds h
  refine ⟨.list ps, by simp only [pd, e, Option.map_some], ?_⟩
  rw [← hl]
  exact smp_list hps
theorem sm_tup {n k : Nat} {ds : List D} (h : ∀ d ∈ ds, Sm n k d) : Sm (ds.length * n + 2 * ds.length + 3) (k + 1) (.tup ds) := by
  obtain ⟨ps, e, hl, hps⟩ := sm_ds h
  refine ⟨.tuple ps, by simp only [pd, e, Option.map_some], ?_⟩
  rw [← hl]
  exact smp_tuple hps
theorem Sm.mono {n k n' k' : Nat} {d : D} (h : Sm n k d) (hn : n ≤ n') (hk : k ≤ k') : Sm n' k' d := by
  obtain ⟨p, e, hp⟩ := h.ex
  exact ⟨p, e, hp.mono hn hk⟩
theorem sm_int {n : Int} (h0 : 0 ≤ n) (h1 : n < 1000) : Sm 3 0 (.int n) := ⟨_, by simp only [pd], smp_int h0 h1⟩
theorem sm_lstI {ns : List Int} (h : ∀ n ∈ ns, 0 ≤ n ∧ n < 1000) (hl : ns.length ≤ 100) : Sm 600 1 (lstI ns) :=
  (sm_lst (n := 3) (k := 0) fun d hd => by
    obtain ⟨n, hn, rfl⟩ := List.mem_map.mp hd
    exact sm_int (h n hn).1 (h n hn).2).mono (by rw [List.length_map]; omega) (Nat.le_refl _)
theorem sm_tupI {ns : List Int} (h : ∀ n ∈ ns, 0 ≤ n ∧ n < 1000) (hl : ns.length ≤ 100) : Sm 600 1 (tupI ns) :=
  (sm_tup (n := 3) (k := 0) fun d hd => by
    obtain ⟨n, hn, rfl⟩ := List.mem_map.mp hd
    exact sm_int (h n hn).1 (h n hn).2).mono (by rw [List.length_map]; omega) (Nat.le_refl _)
theorem dRep_ok {n k : Nat} {d : D} (h : Sm n k d) (hn : n ≤ 100000) (hk : k ≤ 20) : ∃ s, dRep [d] = some (false, .str s) ∧ PyData.strOk s = true := by
  obtain ⟨p, e, hp⟩ := h.ex
  refine ⟨p.shown, ?_, hp.ok⟩
  simp only [dRep, e]
  rw [if_pos ⟨hp.sh, Nat.le_trans hp.sz (Nat.le_trans hn (by decide)), Nat.le_trans hp.dp hk⟩]
theorem equal_gen (E : D → D → Option (Bool × D)) (R : List D → Option (Bool × D)) (b1 b2 : Bool) (d d' s s' : D) (q : Bool) (e : R [d] = some (false, s)) (e' : R [d'] = some (false, s')) (he : E s s' = some (false, .bl q)) :
    bodyFn 2 2 (ssRet (seOp E (sbOf (seCB R (saCons (sbVar 0) saNil))) (sbOf (seCB R (saCons (sbVar 1) saNil))))) [(b1, d), (b2, d')] = .ret false (.bl q) [(b1, d), (b2, d')] := by
  unfold bodyFn
  cases b1 <;> cases b2 <;> simp [argG, ssRet, ofO, seOp, seCB, saCons, sbOf, sbVar, saNil, O.bind, refsGet, Ref.get, ofOpt, e, e', he, endsOf, endOf]
theorem equal_ok {n k : Nat} {d : D} (h : Sm n k d) (hn : n ≤ 100000) (hk : k ≤ 20) (b1 b2 : Bool) : φ_law_is_equal [(b1, d), (b2, d)] = .ret false (.bl true) [(b1, d), (b2, d)] := by
  obtain ⟨s, e, hs⟩ := dRep_ok h hn hk
  exact equal_gen dEq dRep b1 b2 d d (.str s) (.str s) true e e (by rw [dEq_str hs hs, decide_eq_true rfl])
end M7.Z
/-! What a rule tells of itself. -/
namespace M7.Z
open PySem PySem.Spec PyProof.Rows L2 R7 SX
abbrev kS : Str := "straight"
abbrev kF : Str := "folded"
abbrev kR : Str := "right"
abbrev kL : Str := "left"
theorem k1 : ¬ (("straight" : Str) = "folded") := by decide +kernel
theorem k2 : ¬ (("straight" : Str) = "right") := by decide +kernel
theorem k3 : ¬ (("straight" : Str) = "left") := by decide +kernel
theorem k4 : ¬ (("folded" : Str) = "right") := by decide +kernel
theorem k5 : ¬ (("folded" : Str) = "left") := by decide +kernel
theorem k6 : ¬ (("right" : Str) = "left") := by decide +kernel
theorem k1' : ¬ (("folded" : Str) = "straight") := by decide +kernel
theorem k2' : ¬ (("right" : Str) = "straight") := by decide +kernel
theorem k3' : ¬ (("left" : Str) = "straight") := by decide +kernel
theorem k4' : ¬ (("right" : Str) = "folded") := by decide +kernel
theorem k5' : ¬ (("left" : Str) = "folded") := by decide +kernel
theorem k6' : ¬ (("left" : Str) = "right") := by decide +kernel
theorem e_rs' : ¬ (("_straight" : Str) = "_rods") := by decide +kernel
theorem e_rf' : ¬ (("_folded" : Str) = "_rods") := by decide +kernel
theorem e_sf' : ¬ (("_folded" : Str) = "_straight") := by decide +kernel
theorem e_rr' : ¬ (("_right" : Str) = "_rods") := by decide +kernel
theorem e_rl' : ¬ (("_left" : Str) = "_rods") := by decide +kernel
theorem e_sr' : ¬ (("_right" : Str) = "_straight") := by decide +kernel
theorem e_sl' : ¬ (("_left" : Str) = "_straight") := by decide +kernel
theorem e_fr' : ¬ (("_right" : Str) = "_folded") := by decide +kernel
theorem e_fl' : ¬ (("_left" : Str) = "_folded") := by decide +kernel
theorem e_ril' : ¬ (("_left" : Str) = "_right") := by decide +kernel
theorem lk_h {α : Type} {a b : Str} {x : α} {l : List (Str × α)} (h : a = b) : ((b, x) :: l).lookup a = some x := by
  subst h
  simp [List.lookup]
theorem lk_t {α : Type} {a b : Str} {x : α} {l : List (Str × α)} (h : ¬ a = b) : ((b, x) :: l).lookup a = l.lookup a := by
  have e : (a == b) = false := by simpa using h
  simp only [List.lookup, e]
theorem opts_rule (b : Bool) (c : CN) (fs : List (Str × D)) : φ_Rule_options [(b, .obj c fs)] = .ret true (.dct []) [(b, .obj c fs)] := by
  show bodyFn 1 1 ss_Rule_options _ = _
  unfold bodyFn ss_Rule_options
  cases b <;> simp [argG, ssRet, ofO, seDNew, endsOf, endOf]
theorem opts_held (b : Bool) (ms e f : List Int) : φ_Held_options [(b, .obj .held (fldH ms e f))] = .ret true (.dct [(.inr "straight", tupI e), (.inr "folded", tupI f)]) [(b, .obj .held (fldH ms e f))] := by
  have l1 : (fldH ms e f).lookup ("_straight" : Str) = some (tupI e) := (lk_t e_rs').trans (lk_h rfl)
  have l2 : (fldH ms e f).lookup ("_folded" : Str) = some (tupI f) := (lk_t e_rf').trans ((lk_t e_sf').trans (lk_h rfl))
  have nd : ([.inr "straight", .inr "folded"] : List Key).Nodup := by decide +kernel
  show bodyFn 1 1 ss_Held_options _ = _
  unfold bodyFn ss_Held_options
  generalize fldH ms e f = fs at l1 l2 ⊢
  cases b <;> simp [argG, ssRet, ofO, seDisp, saCons, saNil, sbOf, seFld, sbVar, Ref.get, fieldD, isRule, l1, l2, O.bind, datas, nd, endsOf, endOf]
theorem opts_aimed (b : Bool) (ms e f : List Int) : φ_Aimed_options [(b, .obj .aimed (fldA ms e f))] = .ret true (.dct [(.inr "right", tupI e), (.inr "left", tupI f)]) [(b, .obj .aimed (fldA ms e f))] := by
  have l1 : (fldA ms e f).lookup ("_right" : Str) = some (tupI e) := (lk_t e_rr').trans (lk_h rfl)
  have l2 : (fldA ms e f).lookup ("_left" : Str) = some (tupI f) := (lk_t e_rl').trans ((lk_t e_ril').trans (lk_h rfl))
  have nd : ([.inr "right", .inr "left"] : List Key).Nodup := by decide +kernel
  show bodyFn 1 1 ss_Aimed_options _ = _
  unfold bodyFn ss_Aimed_options
  generalize fldA ms e f = fs at l1 l2 ⊢
  cases b <;> simp [argG, ssRet, ofO, seDisp, saCons, saNil, sbOf, seFld, sbVar, Ref.get, fieldD, isRule, l1, l2, O.bind, datas, nd, endsOf, endOf]
theorem opts_bound (b : Bool) (ms e f g h : List Int) : φ_Bound_options [(b, .obj .bound (fldB ms e f g h))] = .ret true (.dct [(.inr "straight", tupI e), (.inr "folded", tupI f), (.inr "right", tupI g), (.inr "left", tupI h)]) [(b, .obj .bound (fldB ms e f g h))] := by
  have l1 : (fldB ms e f g h).lookup ("_straight" : Str) = some (tupI e) := (lk_t e_rs').trans (lk_h rfl)
  have l2 : (fldB ms e f g h).lookup ("_folded" : Str) = some (tupI f) := (lk_t e_rf').trans ((lk_t e_sf').trans (lk_h rfl))
  have l3 : (fldB ms e f g h).lookup ("_right" : Str) = some (tupI g) := (lk_t e_rr').trans ((lk_t e_sr').trans ((lk_t e_fr').trans (lk_h rfl)))
  have l4 : (fldB ms e f g h).lookup ("_left" : Str) = some (tupI h) := (lk_t e_rl').trans ((lk_t e_sl').trans ((lk_t e_fl').trans ((lk_t e_ril').trans (lk_h rfl))))
  have nd : ([.inr "straight", .inr "folded", .inr "right", .inr "left"] : List Key).Nodup := by decide +kernel
  show bodyFn 1 1 ss_Bound_options _ = _
  unfold bodyFn ss_Bound_options
  generalize fldB ms e f g h = fs at l1 l2 l3 l4 ⊢
  cases b <;> simp [argG, ssRet, ofO, seDisp, saCons, saNil, sbOf, seFld, sbVar, Ref.get, fieldD, isRule, l1, l2, l3, l4, O.bind, datas, nd, endsOf, endOf]
theorem rods_ok' (b : Bool) (c : CN) (fs : List (Str × D)) (ms : List Int) (hc : isRule c = true) (l : fs.lookup ("_rods" : Str) = some (tupI ms)) : φ_Rule_rods [(b, .obj c fs)] = .ret true (lstI ms) [(b, .obj c fs)] := by
  show bodyFn 1 1 ss_Rule_rods _ = _
  unfold bodyFn ss_Rule_rods
  cases b <;> simp [argG, ssRet, ofO, seCB, saCons, saNil, sbOf, seFld, sbVar, Ref.get, fieldD, hc, l, O.bind, refsGet, dList, ofOpt, endsOf, endOf]
/-- what the defs ask of a rule -/
structure RuleOf (o : D) (kvs : List (Key × D)) (ms : List Int) : Prop where
  ex : ∃ c fs φ, o = .obj c fs ∧ isRule c = true ∧ fs.lookup ("_rods" : Str) = some (tupI ms) ∧ fs.lookup ("options" : Str) = none ∧ tb_options c = some φ ∧ tb_rods c = some φ_Rule_rods ∧ ∀ b, φ [(b, o)] = .ret true (.dct kvs) [(b, o)]
/-- an option of a rule, () if it has none -/
def optOf (kvs : List (Key × D)) (k : Str) : D := (valD kvs (.inr k)).getD (.tup [])
theorem e_or : ¬ (("options" : Str) = "_rods") := by decide +kernel
theorem e_os : ¬ (("options" : Str) = "_straight") := by decide +kernel
theorem e_of : ¬ (("options" : Str) = "_folded") := by decide +kernel
theorem e_oi : ¬ (("options" : Str) = "_right") := by decide +kernel
theorem e_ol : ¬ (("options" : Str) = "_left") := by decide +kernel
theorem is_rule (ms : List Int) : RuleOf (.obj .rule (fldR ms)) [] ms :=
  ⟨.rule, fldR ms, φ_Rule_options, rfl, rfl, lk_h rfl, (lk_t e_or).trans rfl, rfl, rfl, fun b => opts_rule b _ _⟩
theorem is_held (ms e f : List Int) : RuleOf (.obj .held (fldH ms e f)) [(.inr "straight", tupI e), (.inr "folded", tupI f)] ms :=
  ⟨.held, fldH ms e f, φ_Held_options, rfl, rfl, lk_h rfl, (lk_t e_or).trans ((lk_t e_os).trans ((lk_t e_of).trans rfl)), rfl, rfl, fun b => opts_held b _ _ _⟩
theorem is_aimed (ms e f : List Int) : RuleOf (.obj .aimed (fldA ms e f)) [(.inr "right", tupI e), (.inr "left", tupI f)] ms :=
  ⟨.aimed, fldA ms e f, φ_Aimed_options, rfl, rfl, lk_h rfl, (lk_t e_or).trans ((lk_t e_oi).trans ((lk_t e_ol).trans rfl)), rfl, rfl, fun b => opts_aimed b _ _ _⟩
theorem is_bound (ms e f g h : List Int) : RuleOf (.obj .bound (fldB ms e f g h)) [(.inr "straight", tupI e), (.inr "folded", tupI f), (.inr "right", tupI g), (.inr "left", tupI h)] ms :=
  ⟨.bound, fldB ms e f g h, φ_Bound_options, rfl, rfl, lk_h rfl, (lk_t e_or).trans ((lk_t e_os).trans ((lk_t e_of).trans ((lk_t e_oi).trans ((lk_t e_ol).trans rfl)))), rfl, rfl, fun b => opts_bound b _ _ _ _ _⟩
/-- the four options of a rule -/
structure Four (kvs : List (Key × D)) (e f g h : List Int) : Prop where
  s : optOf kvs "straight" = tupI e
  f : optOf kvs "folded" = tupI f
  r : optOf kvs "right" = tupI g
  l : optOf kvs "left" = tupI h
theorem v_h {a b : Str} {x : D} {l : List (Key × D)} (h : b = a) : valD ((.inr b, x) :: l) (.inr a) = some x := by
  subst h
  simp [valD, List.find?]
theorem v_t {a b : Str} {x : D} {l : List (Key × D)} (h : ¬ b = a) : valD ((.inr b, x) :: l) (.inr a) = valD l (.inr a) := by
  simp [valD, List.find?, h]
theorem o_h {a b : Str} {x : D} {l : List (Key × D)} (h : b = a) : optOf ((.inr b, x) :: l) a = x := by
  unfold optOf
  rw [v_h h]
  rfl
theorem o_t {a b : Str} {x : D} {l : List (Key × D)} (h : ¬ b = a) : optOf ((.inr b, x) :: l) a = optOf l a := by
  unfold optOf
  rw [v_t h]
theorem four_rule : Four [] [] [] [] [] := ⟨rfl, rfl, rfl, rfl⟩
theorem four_held (e f : List Int) : Four [(.inr "straight", tupI e), (.inr "folded", tupI f)] e f [] [] :=
  ⟨o_h rfl, (o_t k1).trans (o_h rfl), (o_t k2).trans ((o_t k4).trans rfl), (o_t k3).trans ((o_t k5).trans rfl)⟩
theorem four_aimed (g h : List Int) : Four [(.inr "right", tupI g), (.inr "left", tupI h)] [] [] g h :=
  ⟨(o_t k2').trans ((o_t k3').trans rfl), (o_t k4').trans ((o_t k5').trans rfl), o_h rfl, (o_t k6).trans (o_h rfl)⟩
theorem four_bound (e f g h : List Int) : Four [(.inr "straight", tupI e), (.inr "folded", tupI f), (.inr "right", tupI g), (.inr "left", tupI h)] e f g h :=
  ⟨o_h rfl, (o_t k1).trans (o_h rfl), (o_t k2).trans ((o_t k4).trans (o_h rfl)), (o_t k3).trans ((o_t k5).trans ((o_t k6).trans (o_h rfl)))⟩
end M7.Z
namespace M7.Z
open PySem PySem.Spec PyProof.Rows L2 R7 SX
theorem set_self {α : Type} {l : List α} {i : Nat} {a : α} (h : l[i]? = some a) : l.set i a = l := by
  apply List.ext_getElem?
  intro j
  rw [List.getElem?_set]
  by_cases e : i = j
  · subst e
    rw [if_pos rfl, h]
    rw [if_pos (List.getElem?_eq_some_iff.mp h).1]
  · rw [if_neg e]
/-- a def of one argument that gives it back as it was -/
theorem callO1 {φ : Fn} {g : G} {i : Nat} {c : Fl} {d r : D} {o : Bool} (hg : g[i]? = some (some (c, d))) (e : φ [(c.own, d)] = .ret o r [(c.own, d)]) : callO φ [.sl i] g = .ok (o, r) g := by
  have hs := set_self hg
  cases c <;> simp only [Fl.own] at e <;> simp [callO, lentOf, hg, Fl.own, distinct, argsOf, argOf, e, giveBack, hs]
theorem callS1 {φ : Fn} {g : G} {i : Nat} {c : Fl} {d r : D} {o : Bool} (hg : g[i]? = some (some (c, d))) (e : φ [(c.own, d)] = .ret o r [(c.own, d)]) : seCall φ (saCons (sbVar i) saNil) g = .ok (o, r) g := by
  have := callO1 hg e
  simp only [seCall, saCons, sbVar, saNil, hg, O.bind]
  exact this
theorem meth_opt {o : D} {kvs : List (Key × D)} {ms : List Int} (R : RuleOf o kvs ms) {g : G} {i : Nat} {c : Fl} (hg : g[i]? = some (some (c, o))) : seMeth "options" tb_options (sbVar i) saNil g = .ok (true, .dct kvs) g := by
  obtain ⟨cn, fs, φ, rfl, hc, l1, l2, t1, t2, e⟩ := R.ex
  have := callO1 (φ := φ) hg (e c.own)
  simp only [seMeth, sbVar, hg, O.bind, Ref.get, t1, l2, if_true, saNil]
  exact this
theorem prop_rods {o : D} {kvs : List (Key × D)} {ms : List Int} (R : RuleOf o kvs ms) {g : G} {i : Nat} {c : Fl} (hg : g[i]? = some (some (c, o))) : seProp tb_rods (sbVar i) g = .ok (true, lstI ms) g := by
  obtain ⟨cn, fs, φ, rfl, hc, l1, l2, t1, t2, e⟩ := R.ex
  have := callO1 (φ := φ_Rule_rods) hg (rods_ok' c.own cn fs ms hc l1)
  simp only [seProp, sbVar, hg, O.bind, Ref.get, t2]
  exact this
theorem get2 (x0 : Option (Fl × D)) (c1 : Fl) (kvs : List (Key × D)) (a : Str) : seDGet2 (sbVar 1) (sbVar 2) (sbOf (seTup saNil)) [x0, some (c1, .dct kvs), some (.f, .str a)] = .ok (false, optOf kvs a) [x0, some (c1, .dct kvs), some (.f, .str a)] := by
  cases e : valD kvs (.inr a) with
  | none => simp [seDGet2, sbVar, O.bind, Ref.get, sbOf, seTup, saNil, datas, sized_ok, keyD, e, optOf]
  | some d => simp [seDGet2, sbVar, O.bind, Ref.get, sbOf, seTup, saNil, datas, sized_ok, keyD, e, optOf]
theorem dc4 (x0 : Option (Fl × D)) (c1 : Fl) (kvs : List (Key × D)) (a b c d : Str) (h1 : ¬ a = b) (h2 : ¬ a = c) (h3 : ¬ a = d) (h4 : ¬ b = c) (h5 : ¬ b = d) (h6 : ¬ c = d) :
    seDc (siOf (seC (.tup [.str a, .str b, .str c, .str d]))) (sgName 2) (fun g => .ok true g) (seVar 2) (seDGet2 (sbVar 1) (sbVar 2) (sbOf (seTup saNil))) [2] [x0, some (c1, .dct kvs), none] =
      .ok (true, .dct [(.inr a, optOf kvs a), (.inr b, optOf kvs b), (.inr c, optOf kvs c), (.inr d, optOf kvs d)]) [x0, some (c1, .dct kvs), none] := by
  have g2 := get2 x0 c1 kvs
  generalize seDGet2 (sbVar 1) (sbVar 2) (sbOf (seTup saNil)) = F at g2 ⊢
  simp [seDc, siOf, seC, O.bind, itemsOf, calmG, compD, wipeG, sgName, setS, seVar, Fl.fz, g2, keyD, putKD, h1, h2, h3, h4, h5, h6, backG]
theorem allopt_gen (M C : SE) (b : Bool) (o kd r : D) (eM : M [some (if b = true then .p else .f, o), none, none] = .ok (true, kd) [some (if b = true then .p else .f, o), none, none])
    (eC : C [some (if b = true then .p else .f, o), some (.o, kd), none] = .ok (true, r) [some (if b = true then .p else .f, o), some (.o, kd), none]) :
    bodyFn 1 3 (ssSeq (ssAsg M (sgName 1)) (ssRet C)) [(b, o)] = .ret true r [(b, o)] := by
  unfold bodyFn
  cases b <;> simp at eM eC <;> simp [argG, ssSeq, ssAsg, eM, eC, ofO, sgName, setS, ssRet, endsOf, endOf]
theorem allopt_ok {o : D} {kvs : List (Key × D)} {ms : List Int} (R : RuleOf o kvs ms) (b : Bool) :
    φ_all_options [(b, o)] = .ret true (.dct [(.inr "straight", optOf kvs "straight"), (.inr "folded", optOf kvs "folded"), (.inr "right", optOf kvs "right"), (.inr "left", optOf kvs "left")]) [(b, o)] :=
  allopt_gen _ _ b o (.dct kvs) _ (meth_opt R (i := 0) rfl) (dc4 _ _ kvs _ _ _ _ k1 k2 k3 k4 k5 k6)
theorem told_lc (x0 : Option (Fl × D)) (kvs : List (Key × D)) (ws : List Str) (hl : ws.length < 100) :
    seLc (siOf (seVar 1)) (sgName 3) (fun g => .ok true g) (seIf (stB (seOp (dDIn false) (sbVar 3) (sbVar 2))) (seOp dDGet (sbVar 2) (sbVar 3)) (seTup saNil)) [3] [x0, some (.f, .lst (ws.map .str)), some (.f, .dct kvs), none] =
      .ok (true, .lst (ws.map (optOf kvs))) [x0, some (.f, .lst (ws.map .str)), some (.f, .dct kvs), none] :=
  lc1m (mk := M7.D.str) (ds := ws) (optOf kvs) (by simp [siOf, seVar, O.bind, Fl.fz, itemsOf]) rfl (by omega) fun a _ => ⟨false, by
    show seIf _ _ _ [x0, some (.f, .lst (ws.map .str)), some (.f, .dct kvs), some (.f, .str a)] = .ok (false, optOf kvs a) [x0, some (.f, .lst (ws.map .str)), some (.f, .dct kvs), some (.f, .str a)]
    cases e : valD kvs (.inr a) with
    | none => simp [seIf, stB, seOp, sbVar, O.bind, Ref.get, dDIn, keyD, e, ofOpt, seTup, saNil, datas, sized_ok, optOf]
    | some d => simp [seIf, stB, seOp, sbVar, O.bind, Ref.get, dDIn, dDGet, keyD, e, ofOpt, optOf]⟩
theorem told_gen (M P LC : SE) (b : Bool) (o kd r1 r2 s1 s2 s3 s4 : D) (eM : M [some (if b = true then .p else .f, o), none, none, none] = .ok (true, kd) [some (if b = true then .p else .f, o), none, none, none])
    (eP : P [some (if b = true then .p else .f, o), some (.f, .lst [s1, s2, s3, s4]), some (.f, kd), none] = .ok (true, r1) [some (if b = true then .p else .f, o), some (.f, .lst [s1, s2, s3, s4]), some (.f, kd), none])
    (eL : LC [some (if b = true then .p else .f, o), some (.f, .lst [s1, s2, s3, s4]), some (.f, kd), none] = .ok (true, r2) [some (if b = true then .p else .f, o), some (.f, .lst [s1, s2, s3, s4]), some (.f, kd), none]) :
    bodyFn 1 4 (ssSeq (ssAsg (seTup (saCons (sbOf (seLst (saCons (sbOf (seC s1)) (saCons (sbOf (seC s2)) (saCons (sbOf (seC s3)) (saCons (sbOf (seC s4)) saNil)))))) (saCons (sbOf M) saNil))) (sgTup 2 (sgCons (sgName 1) (sgCons (sgName 2) sgNil))))
    (ssRet (seLst (saCons (sbOf P) (saCons (sbOf LC) saNil))))) [(b, o)] = .ret true (.lst [r1, r2]) [(b, o)] := by
  unfold bodyFn
  cases b <;> simp at eM eP eL <;> simp [argG, ssSeq, ssAsg, seTup, seLst, saCons, sbOf, seC, saNil, datas, sized_ok, O.bind, eM, eP, eL, ofO, sgTup, sgCons, sgNil, sgName, setS, ssRet, endsOf, endOf]
abbrev toldD (ms e f g h : List Int) : D := .lst [lstI ms, .lst [tupI e, tupI f, tupI g, tupI h]]
theorem told_ok {o : D} {kvs : List (Key × D)} {ms e f g h : List Int} (R : RuleOf o kvs ms) (F : Four kvs e f g h) (b : Bool) : φ_law_told [(b, o)] = .ret true (toldD ms e f g h) [(b, o)] := by
  have := told_gen _ _ _ b o (.dct kvs) _ _ (.str "straight") (.str "folded") (.str "right") (.str "left") (meth_opt R (i := 0) rfl) (prop_rods R (i := 0) rfl) (told_lc (some (if b = true then .p else .f, o)) kvs ["straight", "folded", "right", "left"] (by decide))
  simp only [List.map_cons, List.map_nil, F.s, F.f, F.r, F.l] at this
  exact this
/-! the other end -/
theorem other_lc (ns : List Int) (n : Int) (hl : ns.length < 1000) :
    seLc (siOf (seVar 0)) (sgName 2) (fun g => .ok true g) (seOp dSub (sbOf (seOp dAdd (sbVar 1) (sbOf (seC (.int 1))))) (sbVar 2)) [2] [some (.f, tupI ns), some (.f, .int n), none] =
      .ok (true, .lst (ns.map fun k => .int (n + 1 - k))) [some (.f, tupI ns), some (.f, .int n), none] :=
  lc1m (mk := M7.D.int) (ds := ns) (fun k => .int (n + 1 - k)) (by simp [siOf, seVar, O.bind, Fl.fz, itemsOf]) rfl (by omega) fun a _ => ⟨false, by
    simp [seOp, sbOf, sbVar, seC, O.bind, Ref.get, dAdd, dSub, i2, ofOpt]⟩
theorem other_gen (LC : SE) (a b : D) (ns : List D) (e : LC [some (.f, a), some (.f, b), none] = .ok (true, .lst ns) [some (.f, a), some (.f, b), none]) :
    bodyFn 2 3 (ssRet (seCB dTuple (saCons (sbOf LC) saNil))) [(false, a), (false, b)] = .ret false (.tup ns) [(false, a), (false, b)] := by
  unfold bodyFn
  simp [argG, ssRet, ofO, seCB, saCons, sbOf, e, O.bind, saNil, refsGet, Ref.get, dTuple, ofOpt, endsOf, endOf]
theorem other_ok (ns : List Int) (n : Int) (hl : ns.length ≤ 100) : φ_from_other_end [(false, tupI ns), (false, .int n)] = .ret false (tupI (ns.map fun k => n + 1 - k)) [(false, tupI ns), (false, .int n)] := by
  have := other_gen _ _ _ _ (other_lc ns n (by omega))
  rw [show tupI (ns.map fun k => n + 1 - k) = .tup (ns.map fun k => .int (n + 1 - k)) by simp [tupI, Function.comp_def]]
  exact this
theorem chkrule_ok {o : D} {kvs : List (Key × D)} {ms : List Int} (R : RuleOf o kvs ms) (b : Bool) : φ_check_rule [(b, o)] = .ret false .non [(b, o)] := by
  obtain ⟨cn, fs, φ, rfl, hc, _⟩ := R.ex
  show bodyFn 1 1 ss_check_rule _ = _
  unfold bodyFn ss_check_rule
  cases cn <;> simp [isRule] at hc <;> cases b <;> simp [argG, ssIf, stNot, stB, seIsi, sbVar, Ref.get, tkD, tCls, onRules, O.bind, ofO, ssNext, endsOf, endOf]
end M7.Z
namespace M7.Z
open PySem PySem.Spec PyProof.Rows L2 R7 SX
theorem flip_gen (P : SE) (φk φo φf M : Fn) (G : D → D → Option (Bool × D)) (b : Bool) (o kd s1 s2 s3 s4 r1 r2 r3 r4 t1 t2 t3 t4 there : D) (ms : List D) (bk : List (Bool × D)) (hl : ms.length ≤ 100)
    (ek : φk [(b, o)] = .ret false .non [(b, o)]) (eP : ∀ g, g[0]? = some (some (if b = true then Fl.p else .f, o)) → P g = .ok (true, .lst ms) g) (eo : φo [(b, o)] = .ret true kd [(b, o)])
    (g1 : G kd s1 = some (false, t1)) (g2 : G kd s2 = some (false, t2)) (g3 : G kd s3 = some (false, t3)) (g4 : G kd s4 = some (false, t4))
    (f1 : φf [(false, t1), (false, .int (ms.length - 1))] = .ret false r1 [(false, t1), (false, .int (ms.length - 1))]) (f2 : φf [(false, t2), (false, .int (ms.length - 1))] = .ret false r2 [(false, t2), (false, .int (ms.length - 1))])
    (f3 : φf [(false, t3), (false, .int ms.length)] = .ret false r3 [(false, t3), (false, .int ms.length)]) (f4 : φf [(false, t4), (false, .int ms.length)] = .ret false r4 [(false, t4), (false, .int ms.length)])
    (em : M [(true, .obj .bound []), (false, r1), (false, r2), (false, r3), (false, r4), (false, .tup ms.reverse)] = .ret false .non ((true, there) :: bk)) :
    bodyFn 1 7 (ssSeq (ssDrop (seCall φk (saCons (sbVar 0) saNil)))
    (ssSeq (ssAsg (seRevL (sbOf P)) (sgName 1))
    (ssSeq (ssAsg (seCall φo (saCons (sbVar 0) saNil)) (sgName 2))
    (ssSeq (ssAsg (seCall φf (saCons (sbOf (seOp G (sbVar 2) (sbOf (seC s1)))) (saCons (sbOf (seOp dSub (sbOf (seCB dLen (saCons (sbVar 1) saNil))) (sbOf (seC (.int 1))))) saNil))) (sgName 3))
    (ssSeq (ssAsg (seCall φf (saCons (sbOf (seOp G (sbVar 2) (sbOf (seC s2)))) (saCons (sbOf (seOp dSub (sbOf (seCB dLen (saCons (sbVar 1) saNil))) (sbOf (seC (.int 1))))) saNil))) (sgName 4))
    (ssSeq (ssAsg (seCall φf (saCons (sbOf (seOp G (sbVar 2) (sbOf (seC s3)))) (saCons (sbOf (seCB dLen (saCons (sbVar 1) saNil))) saNil))) (sgName 5))
    (ssSeq (ssAsg (seCall φf (saCons (sbOf (seOp G (sbVar 2) (sbOf (seC s4)))) (saCons (sbOf (seCB dLen (saCons (sbVar 1) saNil))) saNil))) (sgName 6))
    (ssRet (seMakeS .bound M 4 id (seVar 1) (saCons (sbOf (seVar 3)) (saCons (sbOf (seVar 4)) (saCons (sbOf (seVar 5)) (saCons (sbOf (seVar 6)) saNil))))))))))))) [(b, o)] =
      .ret true there [(b, o)] := by
  have hk := fun (g : M7.G) => mkO_ok (c := .bound) (φ := M) (m := 4) (gD := id) (ds := ms.reverse) (es := [r1, r2, r3, r4]) (o := there) (g := g) (bk := bk) (by rw [List.length_reverse]; exact hl) rfl em
  unfold bodyFn
  cases b
  · simp at eP
    simp [argG, ssSeq, ssDrop, ssAsg, seCall, saCons, sbVar, sbOf, seC, seVar, saNil, O.bind, distinct, lentOf, argsOf, argOf, Fl.own, Fl.pin, Fl.fz, ek, giveBack, ofO, seRevL, eP, Ref.get, sgName, setS, eo, seOp, g1, g2, g3, g4, ofOpt, seCB, refsGet, dLen, dSub, i2, f1, f2, f3, f4, ssRet, seMakeS, seqOf, datas, hk, endsOf, endOf]
  · simp at eP
    simp [argG, ssSeq, ssDrop, ssAsg, seCall, saCons, sbVar, sbOf, seC, seVar, saNil, O.bind, distinct, lentOf, argsOf, argOf, Fl.own, Fl.pin, Fl.fz, ek, giveBack, ofO, seRevL, eP, Ref.get, sgName, setS, eo, seOp, g1, g2, g3, g4, ofOpt, seCB, refsGet, dLen, dSub, i2, f1, f2, f3, f4, ssRet, seMakeS, seqOf, datas, hk, endsOf, endOf]
theorem map_sub_nodup {l : List Int} (n : Int) (h : l.Nodup) : (l.map fun k => n - k).Nodup := by
  rw [List.Nodup, List.pairwise_map]
  exact h.imp fun q e => q (by omega)
theorem pair_map {n : Int} {a b : List Int} (h : PairOk n a b) : PairOk n (a.map fun k => n + 1 - k) (b.map fun k => n + 1 - k) := by
  refine ⟨map_sub_nodup _ h.na, map_sub_nodup _ h.nb, ?_, ?_, ?_, by rw [List.length_map]; exact h.la, by rw [List.length_map]; exact h.lb⟩
  · intro k hk
    obtain ⟨j, hj, rfl⟩ := List.mem_map.mp hk
    have := h.ra j hj
    omega
  · intro k hk
    obtain ⟨j, hj, rfl⟩ := List.mem_map.mp hk
    have := h.rb j hj
    omega
  · intro k hk hk2
    obtain ⟨j, hj, rfl⟩ := List.mem_map.mp hk
    obtain ⟨i, hi, e⟩ := List.mem_map.mp hk2
    have : i = j := by omega
    subst this
    exact h.dj _ hj hi
theorem pair_swap {n : Int} {a b : List Int} (h : PairOk n a b) : PairOk n b a := ⟨h.nb, h.na, h.rb, h.ra, fun k q r => h.dj k r q, h.lb, h.la⟩
/-- a list, counted from the other end -/
abbrev oth (n : Int) (l : List Int) : List Int := sortI (l.map fun k => n + 1 - k)
theorem dget_ok (kvs : List (Key × D)) (a : Str) (d : D) (h : valD kvs (.inr a) = some d) : dDGet (.dct kvs) (.str a) = some (false, d) := by
  simp [dDGet, keyD, h]
theorem flip_ok {o : D} {kvs : List (Key × D)} {ms e f g h : List Int} (R : RuleOf o kvs ms) (F : Four kvs e f g h) (b : Bool) (hl : 1 ≤ ms.length ∧ ms.length ≤ 12) (hm : ∀ m ∈ ms, Rod m) (h1 : PairOk (ms.length - 1) e f) (h2 : PairOk ms.length g h) :
    φ_flipped [(b, o)] = .ret true (.obj .bound (fldB ms.reverse (oth (ms.length - 1) e) (oth (ms.length - 1) f) (oth ms.length h) (oth ms.length g))) [(b, o)] := by
  have eo := allopt_ok R b
  rw [F.s, F.f, F.r, F.l] at eo
  have hrl : ((ms.reverse.length : Nat) : Int) = ms.length := by rw [List.length_reverse]
  have em := bound_init ms.reverse (e.map fun k => (ms.length : Int) - 1 + 1 - k) (f.map fun k => (ms.length : Int) - 1 + 1 - k) (h.map fun k => (ms.length : Int) + 1 - k) (g.map fun k => (ms.length : Int) + 1 - k) (by rw [List.length_reverse]; exact hl) (fun m q => hm m (List.mem_reverse.mp q)) (by rw [hrl]; exact pair_map h1) (by rw [hrl]; exact pair_swap (pair_map h2))
  have hrev : tupI ms.reverse = .tup (ms.map M7.D.int).reverse := by rw [tupI, List.map_reverse]
  rw [hrev] at em
  have q1 := other_ok e (ms.length - 1) h1.la
  have q2 := other_ok f (ms.length - 1) h1.lb
  have q3 := other_ok h ms.length h2.lb
  have q4 := other_ok g ms.length h2.la
  exact flip_gen _ φ_check_rule φ_all_options φ_from_other_end φ_Bound___init dDGet b o _ _ _ _ _ _ _ _ _ _ _ _ _ _ (ms.map M7.D.int) _ (by rw [List.length_map]; omega) (chkrule_ok R b) (fun g hg => prop_rods R hg) eo
    (dget_ok _ _ _ (v_h rfl)) (dget_ok _ _ _ ((v_t k1).trans (v_h rfl))) (dget_ok _ _ _ ((v_t k3).trans ((v_t k5).trans ((v_t k6).trans (v_h rfl))))) (dget_ok _ _ _ ((v_t k2).trans ((v_t k4).trans (v_h rfl))))
    (by rw [List.length_map]; exact q1) (by rw [List.length_map]; exact q2) (by rw [List.length_map]; exact q3) (by rw [List.length_map]; exact q4) em
end M7.Z
namespace M7.Z
open PySem PySem.Spec PyProof.Rows L2 R7 SX
theorem due_lc (x0 : Option (Fl × D)) (c1 : Fl) (os a : D) (l : List Int) (s n : Int) (ac : D) (hl : l.length < 1000) (hx : dIx os (.int s) = some (false, tupI l)) :
    seLc (siOf (seOp dIx (sbVar 1) (sbVar 4))) (sgName 6) (fun g => .ok true g) (seOp dSub (sbVar 5) (sbVar 6)) [6] [x0, some (c1, os), some (.f, a), some (.o, ac), some (.f, .int s), some (.f, .int n), none] =
      .ok (true, .lst (l.map fun k => .int (n - k))) [x0, some (c1, os), some (.f, a), some (.o, ac), some (.f, .int s), some (.f, .int n), none] :=
  lc1m (mk := M7.D.int) (ds := l) (fun k => .int (n - k)) (by
    generalize dIx = X at hx ⊢
    simp [siOf, seOp, sbVar, O.bind, Ref.get, hx, ofOpt, itemsOf]) rfl (by omega) fun k _ => ⟨false, by
    show seOp _ _ _ [x0, some (c1, os), some (.f, a), some (.o, ac), some (.f, .int s), some (.f, .int n), some (.f, .int k)] = .ok (false, _) [x0, some (c1, os), some (.f, a), some (.o, ac), some (.f, .int s), some (.f, .int n), some (.f, .int k)]
    simp [seOp, sbVar, O.bind, Ref.get, dSub, i2, ofOpt]⟩
theorem due_step_gen (LC : SE) (S : List D → Option (Bool × D)) (A : D → List D → Option (D × D)) (x0 x1 x2 x4 x5 : Option (Fl × D)) (acc acc' l l' : List D)
    (eL : LC [x0, x1, x2, some (.o, .lst acc), x4, x5, none] = .ok (true, .lst l) [x0, x1, x2, some (.o, .lst acc), x4, x5, none]) (eS : S [.lst l] = some (true, .lst l')) (eA : A (.lst acc) [.tup l'] = some (.non, .lst acc')) :
    ssDrop (seMutV isLst 3 A (saCons (sbOf (seCB dTuple (saCons (sbOf (seCB S (saCons (sbOf LC) saNil))) saNil))) saNil)) [x0, x1, x2, some (.o, .lst acc), x4, x5, none] = .nx [x0, x1, x2, some (.o, .lst acc'), x4, x5, none] := by
  simp [ssDrop, seMutV, seMut, ownAt, Fl.own, isLst, saCons, sbOf, seCB, saNil, O.bind, eL, refsGet, Ref.get, eS, dTuple, ofOpt, datas, eA, ofO]
theorem due_step (x0 : Option (Fl × D)) (c1 : Fl) (os a : D) (l : List Int) (s n : Int) (acc : List D) (hl : l.length < 1000) (hx : dIx os (.int s) = some (false, tupI l)) (ha : acc.length < 100) :
    ss_law_due_b0 [x0, some (c1, os), some (.f, a), some (.o, .lst acc), some (.f, .int s), some (.f, .int n), none] =
      .nx [x0, some (c1, os), some (.f, a), some (.o, .lst (acc ++ [tupI (sortI (l.map fun k => n - k))])), some (.f, .int s), some (.f, .int n), none] := by
  refine due_step_gen _ dSorted fAppend x0 _ _ _ _ acc _ _ _ (due_lc x0 c1 os a l s n _ hl hx) ?_ (fApp (by omega))
  rw [← dSorted_lst]
  simp [Function.comp_def]
theorem sg45 {x0 x1 x2 x3 x4 x5 x6 : Option (Fl × D)} (h : lap2 x4 x5) (a b : D) : sgTup 2 (sgCons (sgName 4) (sgCons (sgName 5) sgNil)) (false, .tup [a, b]) [x0, x1, x2, x3, x4, x5, x6] = some [x0, x1, x2, x3, some (.f, a), some (.f, b), x6] := by
  rcases h with ⟨rfl, rfl⟩ | ⟨d, e, rfl, rfl⟩ <;> rfl
theorem due_gen (B : SS) (b1 b2 : Bool) (ms : List D) (o r : D) (y4 y5 : Option (Fl × D)) (n : Int) (hn : n = ms.length)
    (e : loopL (sgTup 2 (sgCons (sgName 4) (sgCons (sgName 5) sgNil))) B [.tup [.int 0, .int n], .tup [.int 1, .int n], .tup [.int 3, .int (n + 1)], .tup [.int 2, .int (n + 1)]] [some (if b1 = true then .p else .f, .lst ms), some (if b2 = true then .p else .f, o), some (.f, .int n), some (.o, .lst []), none, none, none] =
      .nx [some (if b1 = true then .p else .f, .lst ms), some (if b2 = true then .p else .f, o), some (.f, .int n), some (.o, r), y4, y5, none]) :
    bodyFn 2 7 (ssSeq (ssPar 2 3 (seCB dLen (saCons (sbVar 0) saNil)) (seLst saNil))
    (ssSeq (ssFor (siOf (seLst (saCons (sbOf (seTup (saCons (sbOf (seC (.int 0))) (saCons (sbOf (seVar 2)) saNil)))) (saCons (sbOf (seTup (saCons (sbOf (seC (.int 1))) (saCons (sbOf (seVar 2)) saNil)))) (saCons (sbOf (seTup (saCons (sbOf (seC (.int 3))) (saCons (sbOf (seOp dAdd (sbVar 2) (sbOf (seC (.int 1))))) saNil)))) (saCons (sbOf (seTup (saCons (sbOf (seC (.int 2))) (saCons (sbOf (seOp dAdd (sbVar 2) (sbOf (seC (.int 1))))) saNil)))) saNil)))))) (sgTup 2 (sgCons (sgName 4) (sgCons (sgName 5) sgNil))) B)
    (ssRet (seLst (saCons (sbOf (seRevL (sbVar 0))) (saCons (sbOf (seVar 3)) saNil)))))) [(b1, .lst ms), (b2, o)] = .ret true (.lst [.lst ms.reverse, r]) [(b1, .lst ms), (b2, o)] := by
  subst hn
  unfold bodyFn
  cases b1 <;> cases b2 <;> simp at e <;>
  simp [argG, ssSeq, ssPar, seCB, saCons, sbVar, saNil, O.bind, refsGet, Ref.get, dLen, ofOpt, ofO, seLst, datas, sized_ok, setS, ssFor, siOf, sbOf, seTup, seC, seVar, Fl.fz, seOp, dAdd, itemsOf, e, ssRet, seRevL, endsOf, endOf]
theorem due_ok (b1 b2 : Bool) (ms e f g h : List Int) (le : e.length ≤ 100) (lf : f.length ≤ 100) (lg : g.length ≤ 100) (lh : h.length ≤ 100) :
    φ_law_due [(b1, lstI ms), (b2, optD e f g h)] =
      .ret true (.lst [lstI ms.reverse, .lst [tupI (sortI (e.map fun k => (ms.length : Int) - k)), tupI (sortI (f.map fun k => (ms.length : Int) - k)), tupI (sortI (h.map fun k => (ms.length : Int) + 1 - k)), tupI (sortI (g.map fun k => (ms.length : Int) + 1 - k))]]) [(b1, lstI ms), (b2, optD e f g h)] := by
  have s1 := due_step (some (if b1 = true then .p else .f, lstI ms)) (if b2 = true then .p else .f) (optD e f g h) (.int ms.length) e 0 ms.length [] (by omega) rfl (by simp)
  have s2 := due_step (some (if b1 = true then .p else .f, lstI ms)) (if b2 = true then .p else .f) (optD e f g h) (.int ms.length) f 1 ms.length [tupI (sortI (e.map fun k => (ms.length : Int) - k))] (by omega) rfl (by simp)
  have s3 := due_step (some (if b1 = true then .p else .f, lstI ms)) (if b2 = true then .p else .f) (optD e f g h) (.int ms.length) h 3 (ms.length + 1) [tupI (sortI (e.map fun k => (ms.length : Int) - k)), tupI (sortI (f.map fun k => (ms.length : Int) - k))] (by omega) rfl (by simp)
  have s4 := due_step (some (if b1 = true then .p else .f, lstI ms)) (if b2 = true then .p else .f) (optD e f g h) (.int ms.length) g 2 (ms.length + 1) [tupI (sortI (e.map fun k => (ms.length : Int) - k)), tupI (sortI (f.map fun k => (ms.length : Int) - k)), tupI (sortI (h.map fun k => (ms.length : Int) + 1 - k))] (by omega) rfl (by simp)
  simp only [List.nil_append, List.cons_append] at s1 s2 s3 s4
  have := due_gen ss_law_due_b0 b1 b2 (ms.map M7.D.int) (optD e f g h) _ _ _ ms.length (by rw [List.length_map]) (by
    rw [loopL_step (sg45 (.inl ⟨rfl, rfl⟩) _ _) s1]
    rw [loopL_step (sg45 (.inr ⟨_, _, rfl, rfl⟩) _ _) s2]
    rw [loopL_step (sg45 (.inr ⟨_, _, rfl, rfl⟩) _ _) s3]
    rw [loopL_step (sg45 (.inr ⟨_, _, rfl, rfl⟩) _ _) s4]
    rfl)
  rw [← List.map_reverse] at this
  exact this
/-! is_right -/
theorem right_gen (φt φf φq φd : Fn) (R : List D → Option (Bool × D)) (E : D → D → Option (Bool × D)) (LC : SE) (b1 b2 : Bool) (o ms os td sh there t2 du bo th2 t3 : D) (fs : List (Str × D)) (ht : there = .obj .bound fs) (h3 : t3 = .lst [ms, bo])
    (et : φt [(false, o)] = .ret true td [(false, o)]) (er : R [td] = some (false, sh)) (ef : φf [(false, o)] = .ret true there [(false, o)]) (et2 : φt [(true, there)] = .ret true t2 [(true, there)])
    (ed : φd [(b1, ms), (b2, os)] = .ret true du [(b1, ms), (b2, os)]) (eq : φq [(false, t2), (false, du)] = .ret false (.bl true) [(false, t2), (false, du)])
    (eL : LC [some (.f, o), some ((if b1 = true then Fl.p else .f).fz, ms), some (if b2 = true then .p else .f, os), some (.f, sh), some (.o, there), none, none] = .ok (true, bo) [some (.f, o), some ((if b1 = true then Fl.p else .f).fz, ms), some ((if b2 = true then Fl.p else .f).fz, os), some (.f, sh), some (.o, there), none, none])
    (ef2 : φf [(true, there)] = .ret true th2 [(true, there)]) (et3 : φt [(false, th2)] = .ret true t3 [(false, th2)]) (eq2 : φq [(false, t3), (true, t3)] = .ret false (.bl true) [(false, t3), (true, t3)]) (ee : E sh sh = some (false, .bl true)) :
    bodyFn 3 7 (ssSeq (ssPar 3 4 (seCB R (saCons (sbOf (seCall φt (saCons (sbVar 0) saNil))) saNil)) (seCall φf (saCons (sbVar 0) saNil)))
    (ssSeq (ssIf (stOr (stNot (stB (seIsi (tCls (onRules false false false true)) (sbVar 4)))) (stNot (stB (seCall φq (saCons (sbOf (seCall φt (saCons (sbVar 4) saNil))) (saCons (sbOf (seCall φd (saCons (sbVar 1) (saCons (sbVar 2) saNil)))) saNil)))))) (ssRet (seC (.bl false))) ssNext)
    (ssSeq (ssAsg (seLst (saCons (sbOf (seVar 1)) (saCons (sbOf LC) saNil))) (sgName 5))
    (ssRet (seAnd (seCall φq (saCons (sbOf (seCall φt (saCons (sbOf (seCall φf (saCons (sbVar 4) saNil))) saNil))) (saCons (sbVar 5) saNil))) (seOp E (sbOf (seCB R (saCons (sbOf (seCall φt (saCons (sbVar 0) saNil))) saNil))) (sbVar 3))))))) [(false, o), (b1, ms), (b2, os)] =
      .ret false (.bl true) [(false, o), (false, ms), (false, os)] := by
  subst h3
  subst ht
  unfold bodyFn
  cases b1 <;> cases b2 <;> simp [Fl.fz] at eL <;>
  simp [argG, ssSeq, ssPar, seCB, saCons, sbVar, sbOf, saNil, O.bind, seCall, distinct, lentOf, argsOf, argOf, Fl.own, et, er, giveBack, refsGet, Ref.get, ofOpt, ofO, ef, setS, ssIf, stOr, stNot, stB, seIsi, tkD, tCls, onRules, et2, ed, eq, ssNext, ssAsg, seLst, seVar, Fl.fz, eL, datas, sized_ok, sgName, ssRet, seAnd, ef2, et3, eq2, seOp, ee, endsOf, endOf]
end M7.Z
namespace M7.Z
open PySem PySem.Spec PyProof.Rows L2 R7 SX
theorem back_lc (x0 x1 x3 x4 x5 : Option (Fl × D)) (c : Fl) (e f g h : List Int) :
    seLc (siOf (seVar 2)) (sgName 6) (fun g => .ok true g) (seCB dTuple (saCons (sbOf (seCB dSorted (saCons (sbVar 6) saNil))) saNil)) [6] [x0, x1, some (c, optD e f g h), x3, x4, x5, none] =
      .ok (true, .lst [tupI (sortI e), tupI (sortI f), tupI (sortI g), tupI (sortI h)]) [x0, x1, some (c.fz, optD e f g h), x3, x4, x5, none] :=
  lc1m (mk := tupI) (ds := [e, f, g, h]) (fun l => tupI (sortI l)) (by simp [siOf, seVar, O.bind, itemsOf]) rfl (by simp) fun l _ => ⟨false, by
    have := dSorted_tup l
    show seCB _ _ [x0, x1, some (c.fz, optD e f g h), x3, x4, x5, some (.f, tupI l)] = .ok (false, _) [x0, x1, some (c.fz, optD e f g h), x3, x4, x5, some (.f, tupI l)]
    generalize dSorted = S at this ⊢
    simp [seCB, saCons, sbOf, sbVar, saNil, O.bind, refsGet, Ref.get, this, dTuple, ofOpt]⟩
theorem oth_sort (n : Int) (l : List Int) : oth n (sortI l) = sortI (l.map fun k => n + 1 - k) := sortI_perm ((sortI_self l).map _)
theorem oth_oth (n : Int) (l : List Int) : oth n (oth n l) = sortI l := by
  unfold oth
  rw [sortI_perm ((sortI_self (l.map fun k => n + 1 - k)).map fun k => n + 1 - k), List.map_map]
  refine congrArg sortI ((List.map_congr_left fun k _ => ?_).trans (List.map_id _))
  show n + 1 - (n + 1 - k) = k
  omega
theorem sm_told {ms e f g h : List Int} (hm : ∀ m ∈ ms, Rod m) (hl : ms.length ≤ 12) (n : Int) (hn : n ≤ 100) (h1 : PairOk n e f) (h2 : PairOk n g h) : Sm 10000 3 (toldD ms e f g h) := by
  have p1 : Sm 600 1 (lstI ms) := sm_lstI (fun m q => by have := hm m q; unfold Rod at this; omega) (by omega)
  have p2 : Sm 600 1 (tupI e) := sm_tupI (fun m q => by have := h1.ra m q; omega) h1.la
  have p3 : Sm 600 1 (tupI f) := sm_tupI (fun m q => by have := h1.rb m q; omega) h1.lb
  have p4 : Sm 600 1 (tupI g) := sm_tupI (fun m q => by have := h2.ra m q; omega) h2.la
  have p5 : Sm 600 1 (tupI h) := sm_tupI (fun m q => by have := h2.rb m q; omega) h2.lb
  have p6 : Sm 3000 2 (.lst [tupI e, tupI f, tupI g, tupI h]) := (sm_lst (n := 600) (k := 1) fun d hd => by
    simp only [List.mem_cons, List.not_mem_nil, or_false] at hd
    rcases hd with rfl | rfl | rfl | rfl
    · exact p2
    · exact p3
    · exact p4
    · exact p5).mono (by simp) (by omega)
  refine (sm_lst (n := 3000) (k := 2) fun d hd => ?_).mono (by simp) (by omega)
  simp only [List.mem_cons, List.not_mem_nil, or_false] at hd
  rcases hd with rfl | rfl
  · exact p1.mono (by omega) (by omega)
  · exact p6
theorem pair_mono {n m : Int} {a b : List Int} (h : PairOk n a b) (hn : n ≤ m) : PairOk m a b :=
  ⟨h.na, h.nb, fun k q => ⟨(h.ra k q).1, Int.le_trans (h.ra k q).2 hn⟩, fun k q => ⟨(h.rb k q).1, Int.le_trans (h.rb k q).2 hn⟩, h.dj, h.la, h.lb⟩
theorem right_ok {o : D} {kvs : List (Key × D)} {ms e f g h : List Int} (R : RuleOf o kvs ms) (F : Four kvs (sortI e) (sortI f) (sortI g) (sortI h)) (b1 b2 : Bool) (hl : 1 ≤ ms.length ∧ ms.length ≤ 12) (hm : ∀ m ∈ ms, Rod m) (h1 : PairOk (ms.length - 1) e f) (h2 : PairOk ms.length g h) :
    φ_law_is_right [(false, o), (b1, lstI ms), (b2, optD e f g h)] = .ret false (.bl true) [(false, o), (false, lstI ms), (false, optD e f g h)] := by
  have s1 := sorted_pair h1
  have s2 := sorted_pair h2
  have et := told_ok R F false
  obtain ⟨sh, er, hs⟩ := dRep_ok (sm_told hm hl.2 ms.length (by omega) (pair_mono s1 (by omega)) s2) (by omega) (by omega)
  have ef := flip_ok R F false hl hm s1 s2
  have R2 := is_bound ms.reverse (oth (ms.length - 1) (sortI e)) (oth (ms.length - 1) (sortI f)) (oth ms.length (sortI h)) (oth ms.length (sortI g))
  have F2 := four_bound (oth (ms.length - 1) (sortI e)) (oth (ms.length - 1) (sortI f)) (oth ms.length (sortI h)) (oth ms.length (sortI g))
  have et2 := told_ok R2 F2 true
  have hrl : ((ms.reverse.length : Nat) : Int) = ms.length := by rw [List.length_reverse]
  have hmr : ∀ m ∈ ms.reverse, Rod m := fun m q => hm m (List.mem_reverse.mp q)
  have t1 : PairOk (ms.length - 1) (oth (ms.length - 1) (sortI e)) (oth (ms.length - 1) (sortI f)) := sorted_pair (pair_map s1)
  have t2 : PairOk ms.length (oth ms.length (sortI h)) (oth ms.length (sortI g)) := sorted_pair (pair_map (pair_swap s2))
  have ef2 := flip_ok R2 F2 true (by rw [List.length_reverse]; exact hl) hmr (by rw [hrl]; exact t1) (by rw [hrl]; exact t2)
  rw [hrl, List.reverse_reverse, oth_oth, oth_oth, oth_oth, oth_oth] at ef2
  simp only [sortI_idem] at ef2
  have et3 := told_ok (is_bound ms (sortI e) (sortI f) (sortI g) (sortI h)) (four_bound (sortI e) (sortI f) (sortI g) (sortI h)) false
  have ed := due_ok b1 b2 ms e f g h h1.la h1.lb h2.la h2.lb
  have q1 : ∀ l : List Int, sortI (l.map fun k => (ms.length : Int) - k) = oth (ms.length - 1) (sortI l) := fun l => by
    rw [oth_sort]
    exact congrArg sortI (List.map_congr_left fun k _ => by omega)
  have q2 : ∀ l : List Int, sortI (l.map fun k => (ms.length : Int) + 1 - k) = oth ms.length (sortI l) := fun l => by rw [oth_sort]
  rw [q1, q1, q2, q2] at ed
  have eq := equal_ok (sm_told hmr (by rw [List.length_reverse]; exact hl.2) ms.length (by omega) (pair_mono t1 (by omega)) t2) (by omega) (by omega) false false
  have eq2 := equal_ok (sm_told hm hl.2 ms.length (by omega) (pair_mono s1 (by omega)) s2) (by omega) (by omega) false true
  show bodyFn 3 7 ss_law_is_right _ = _
  unfold ss_law_is_right
  exact right_gen φ_law_told φ_flipped φ_law_is_equal φ_law_due dRep dEq _ b1 b2 o (lstI ms) (optD e f g h) _ (.str sh) _ _ _ _ _ _ _ rfl rfl et er ef et2 ed eq (back_lc _ _ _ _ _ _ e f g h) ef2 et3 eq2 (by rw [dEq_str hs hs, decide_eq_true rfl])
end M7.Z
namespace M7.Z
open PySem PySem.Spec PyProof.Rows L2 R7 SX
theorem rest_nil : ∀ (ms : List Int) (k : Int), (∀ m ∈ ms, Rod m) → ∀ p ∈ restT [] [] [] [] k ms, p.1 ∈ [45] ∧ Rod p.2.1 ∧ (p.2.2 = [] ∨ ∃ c, p.2.2 = [c] ∧ c ∈ ([] : List Nat))
  | [], _, _, p, hp => by cases hp
  | m :: ms, k, hm, p, hp => by
    rcases List.mem_cons.mp hp with rfl | hp
    · exact ⟨by simp [mkT], hm m (.head _), .inl (by simp [amT])⟩
    · exact rest_nil ms (k + 1) (fun m h => hm m (.tail _ h)) p hp
theorem plain_gen (φc M : Fn) (t k1 k2 r x y o : D) (rs : List D) (bk : List (Bool × D)) (hl : rs.length ≤ 100) (ec : φc [(false, t), (false, .int 12), (false, .int 40), (false, k1), (false, k2)] = .ret false (.tup [.lst rs, x, y]) [(false, t), (false, .int 12), (false, .int 40), (false, k1), (false, k2)])
    (em : M [(true, .obj .rule []), (false, .tup rs)] = .ret false .non ((true, o) :: bk)) :
    bodyFn 2 3 (ssSeq (ssAsg (seOp dIx (sbOf (seCall φc (saCons (sbVar 1) (saCons (sbOf (seC (.int 12))) (saCons (sbOf (seC (.int 40))) (saCons (sbOf (seC k1)) (saCons (sbOf (seC k2)) saNil))))))) (sbOf (seC (.int 0)))) (sgName 2))
    (ssRet (seMakeSv .rule M id 0 (seVar 2)))) [(false, .cls .rule), (false, t)] = .ret true o [(false, .cls .rule), (false, t)] := by
  have hk := fun (g : M7.G) => mkO_ok (c := .rule) (φ := M) (m := 0) (gD := id) (ds := rs) (es := []) (o := o) (g := g) (bk := bk) hl rfl em
  unfold bodyFn
  simp [argG, ssSeq, ssAsg, seOp, sbOf, seCall, saCons, sbVar, seC, saNil, O.bind, distinct, lentOf, argsOf, argOf, Fl.own, Fl.fz, ec, giveBack, Ref.get, dIx, atI, ixN, ofOpt, ofO, sgName, setS, ssRet, seMakeSv, seVar, seqOf, hk, endsOf, endOf]
theorem plain_ok (m : Int) (ms : List Int) (hm : ∀ k ∈ m :: ms, Rod k) (hl : (m :: ms).length ≤ 12) :
    φ_Rule_plain [(false, .cls .rule), (false, strL (textT [] [] [] [] (m :: ms)))] = .ret true (.obj .rule (fldR (m :: ms))) [(false, .cls .rule), (false, strL (textT [] [] [] [] (m :: ms)))] := by
  have hle := text_len [] [] [] [] (m :: ms) hm
  have ec := cut_ok kind_plain (T := textT [] [] [] [] (m :: ms)) (by omega) m [] (restT [] [] [] [] 1 ms) (by simp [textT, amT]) (hm m (.head _)) (.inl rfl) (rest_nil ms 1 fun m h => hm m (.tail _ h)) (by rw [restT_len]; simp at hl; omega)
  rw [restT_rods] at ec
  have em := rule_init .rule [] (m :: ms) rfl (by simp) ⟨by simp, hl⟩ hm
  simp only [putFD] at em
  show bodyFn 2 3 ss_Rule_plain _ = _
  unfold ss_Rule_plain
  rw [e_mi, e_empty]
  exact plain_gen φ_cut φ_Rule___init _ _ _ .non _ _ _ _ _ (by rw [List.length_map]; omega) ec em
theorem join_text : ∀ (m : Int) (ms : List Int) (k : Int), TL.joinL [45] ((m :: ms).map num) = num m ++ tailT (restT [] [] [] [] k ms)
  | m, [], k => by simp [TL.joinL, restT, tailT]
  | m, n :: ms, k => by
    have ih := join_text n ms (k + 1)
    simp only [List.map_cons] at ih
    simp only [List.map_cons, TL.joinL, ih, restT, tailT]
    simp [mkT, amT]
theorem strsD_map (l : List (List Nat)) : strsD (l.map strL) = some (l.map S) := by
  induction l with
  | nil => rfl
  | cons a l ih => simp only [List.map_cons, strsD, ih, Option.map_some]
theorem join_num (m : Int) (ms : List Int) (hm : ∀ k ∈ m :: ms, Rod k) (hl : (m :: ms).length ≤ 12) : dJoin (.str ("-" : Str)) (lstS ((m :: ms).map num)) = some (false, strL (textT [] [] [] [] (m :: ms))) := by
  have h2 : ∀ l : List Int, (∀ k ∈ l, Rod k) → ((l.map num).map (·.length)).sum ≤ 2 * l.length := fun l => by
    induction l with
    | nil => simp
    | cons a l ih =>
      intro h
      have := ih fun k q => h k (.tail _ q)
      have hz : (num a).length ≤ 2 := by
        rcases num_shape (h a (.head _)) with ⟨_, e, _⟩ | ⟨_, _, e, _⟩ <;> rw [e] <;> simp
      simp only [List.map_cons, List.sum_cons, List.length_cons]
      omega
  have := h2 (m :: ms) hm
  simp only [dJoin, strsD_map, Option.bind_some]
  rw [if_pos, e_mi, join_S, join_text m ms 1]
  · simp [textT, amT]
  · rw [lens, e_mi, S_len]
    simp only [List.length_map, List.length_cons, List.length_nil] at *
    omega
/-! few rods -/
theorem held_ok (b : Bool) (few e f : List Int) (hl : 1 ≤ few.length ∧ few.length ≤ 4) (hm : ∀ m ∈ few, Rod m) (h : PairOk (few.length - 1) e f) :
    φ_law_held [(b, lstI few), (false, tupI e), (false, tupI f)] = .ret true (.obj .held (fldH few (sortI e) (sortI f))) [(b, lstI few), (false, tupI e), (false, tupI f)] := by
  have em := held_init .held [] few e f rfl (by simp) ⟨hl.1, by omega⟩ hm h
  simp only [putFD, e_rs, e_rf, e_sf, if_true, if_false] at em
  have hk := fun (g : M7.G) => mkO_ok (c := .held) (φ := φ_Held___init) (m := 2) (gD := id) (ds := few.map .int) (es := [tupI e, tupI f]) (o := .obj .held (fldH few (sortI e) (sortI f))) (g := g) (bk := _) (by rw [List.length_map]; omega) rfl em
  have hk2 := fun (g : M7.G) => mkO_ok (c := .held) (φ := φ_Held___init) (m := 2) (gD := swap2) (ds := few.map .int) (es := [tupI f, tupI e]) (o := .obj .held (fldH few (sortI e) (sortI f))) (g := g) (bk := _) (by rw [List.length_map]; omega) rfl em
  show bodyFn 3 3 ss_law_held _ = _
  unfold ss_law_held bodyFn
  clear em
  generalize φ_Held___init = M at hk hk2 ⊢
  generalize tupI e = te at hk hk2 ⊢
  generalize tupI f = tf at hk hk2 ⊢
  generalize (M7.D.obj .held (fldH few (sortI e) (sortI f))) = o at hk hk2 ⊢
  have d1 : ∀ i j : Int, dEq (.int i) (.int j) = some (false, .bl (decide (i = j))) := dEq_int
  generalize dEq = E at d1 ⊢
  match few, hl, hk, hk2 with
  | [a], _, hk, hk2 => simp at hk hk2; cases b <;> simp [argG, ssSeq, ssIf, stB, seOp, sbOf, seCB, saCons, sbVar, saNil, O.bind, refsGet, Ref.get, dLen, ofOpt, seC, d1, ofO, ssRet, ssNext, seMake, dIx, atI, ixN, seVar, Fl.fz, datas, hk, hk2, endsOf, endOf]
  | [a, c], _, hk, hk2 => simp at hk hk2; cases b <;> simp [argG, ssSeq, ssIf, stB, seOp, sbOf, seCB, saCons, sbVar, saNil, O.bind, refsGet, Ref.get, dLen, ofOpt, seC, d1, ofO, ssRet, ssNext, seMake, dIx, atI, ixN, seVar, Fl.fz, datas, hk, hk2, endsOf, endOf]
  | [a, c, d], _, hk, hk2 => simp at hk hk2; cases b <;> simp [argG, ssSeq, ssIf, stB, seOp, sbOf, seCB, saCons, sbVar, saNil, O.bind, refsGet, Ref.get, dLen, ofOpt, seC, d1, ofO, ssRet, ssNext, seMake, dIx, atI, ixN, seVar, Fl.fz, datas, hk, hk2, endsOf, endOf]
  | [a, c, d, x], _, hk, hk2 => simp at hk hk2; cases b <;> simp [argG, ssSeq, ssIf, stB, seOp, sbOf, seCB, saCons, sbVar, saNil, O.bind, refsGet, Ref.get, dLen, ofOpt, seC, d1, ofO, ssRet, ssNext, seMake, dIx, atI, ixN, seVar, Fl.fz, datas, hk, hk2, endsOf, endOf]
theorem aimed_ok (b : Bool) (few e f : List Int) (hl : 1 ≤ few.length ∧ few.length ≤ 4) (hm : ∀ m ∈ few, Rod m) (h : PairOk few.length e f) :
    φ_law_aimed [(b, lstI few), (false, tupI e), (false, tupI f)] = .ret true (.obj .aimed (fldA few (sortI e) (sortI f))) [(b, lstI few), (false, tupI e), (false, tupI f)] := by
  have em := aimed_init .aimed [] few e f rfl (by simp) ⟨hl.1, by omega⟩ hm h
  simp only [putFD, e_rr, e_rl, e_ril, if_true, if_false] at em
  have hk := fun (g : M7.G) => mkO_ok (c := .aimed) (φ := φ_Aimed___init) (m := 2) (gD := id) (ds := few.map .int) (es := [tupI e, tupI f]) (o := .obj .aimed (fldA few (sortI e) (sortI f))) (g := g) (bk := _) (by rw [List.length_map]; omega) rfl em
  have hk2 := fun (g : M7.G) => mkO_ok (c := .aimed) (φ := φ_Aimed___init) (m := 2) (gD := swap2) (ds := few.map .int) (es := [tupI f, tupI e]) (o := .obj .aimed (fldA few (sortI e) (sortI f))) (g := g) (bk := _) (by rw [List.length_map]; omega) rfl em
  show bodyFn 3 3 ss_law_aimed _ = _
  unfold ss_law_aimed bodyFn
  clear em
  generalize φ_Aimed___init = M at hk hk2 ⊢
  generalize tupI e = te at hk hk2 ⊢
  generalize tupI f = tf at hk hk2 ⊢
  generalize (M7.D.obj .aimed (fldA few (sortI e) (sortI f))) = o at hk hk2 ⊢
  have d1 : ∀ i j : Int, dEq (.int i) (.int j) = some (false, .bl (decide (i = j))) := dEq_int
  generalize dEq = E at d1 ⊢
  match few, hl, hk, hk2 with
  | [a], _, hk, hk2 => simp at hk hk2; cases b <;> simp [argG, ssSeq, ssIf, stB, seOp, sbOf, seCB, saCons, sbVar, saNil, O.bind, refsGet, Ref.get, dLen, ofOpt, seC, d1, ofO, ssRet, ssNext, seMake, dIx, atI, ixN, seVar, Fl.fz, datas, hk, hk2, endsOf, endOf]
  | [a, c], _, hk, hk2 => simp at hk hk2; cases b <;> simp [argG, ssSeq, ssIf, stB, seOp, sbOf, seCB, saCons, sbVar, saNil, O.bind, refsGet, Ref.get, dLen, ofOpt, seC, d1, ofO, ssRet, ssNext, seMake, dIx, atI, ixN, seVar, Fl.fz, datas, hk, hk2, endsOf, endOf]
  | [a, c, d], _, hk, hk2 => simp at hk hk2; cases b <;> simp [argG, ssSeq, ssIf, stB, seOp, sbOf, seCB, saCons, sbVar, saNil, O.bind, refsGet, Ref.get, dLen, ofOpt, seC, d1, ofO, ssRet, ssNext, seMake, dIx, atI, ixN, seVar, Fl.fz, datas, hk, hk2, endsOf, endOf]
  | [a, c, d, x], _, hk, hk2 => simp at hk hk2; cases b <;> simp [argG, ssSeq, ssIf, stB, seOp, sbOf, seCB, saCons, sbVar, saNil, O.bind, refsGet, Ref.get, dLen, ofOpt, seC, d1, ofO, ssRet, ssNext, seMake, dIx, atI, ixN, seVar, Fl.fz, datas, hk, hk2, endsOf, endOf]
end M7.Z
namespace M7.Z
open PySem PySem.Spec PyProof.Rows L2 R7 SX
/-- a value that is no rule -/
def notRule (d : D) : Prop := ∃ k, tkD d = some k ∧ tCls (onRules true true true true) k = some false
theorem chk_no {d : D} (h : notRule d) : φ_check_rule [(false, d)] = .ex .rule none [(false, d)] := by
  obtain ⟨k, h1, h2⟩ := h
  show bodyFn 1 1 ss_check_rule _ = _
  unfold bodyFn ss_check_rule
  simp [argG, ssIf, stNot, stB, seIsi, sbVar, Ref.get, h1, h2, O.bind, ofO, ssRaise, seC, endsOf, endOf]
theorem flip_no_gen (φ : Fn) (B : SS) (d : D) (e : φ [(false, d)] = .ex .rule none [(false, d)]) : bodyFn 1 7 (ssSeq (ssDrop (seCall φ (saCons (sbVar 0) saNil))) B) [(false, d)] = .ex .rule none [(false, d)] := by
  unfold bodyFn
  simp [argG, ssSeq, ssDrop, seCall, saCons, sbVar, saNil, O.bind, distinct, lentOf, argsOf, argOf, Fl.own, e, giveBack, ofO, endsOf, endOf]
theorem flip_no {d : D} (h : notRule d) : φ_flipped [(false, d)] = .ex .rule none [(false, d)] := flip_no_gen _ _ d (chk_no h)
theorem ref_gen (φ : Fn) (d : D) (e : φ [(false, d)] = .ex .rule none [(false, d)]) : bodyFn 1 1 (ssSeq (ssTryN mt_RuleError (ssDrop (seCall φ (saCons (sbVar 0) saNil))) (ssRet (seC (.bl true)))) (ssRet (seC (.bl false)))) [(false, d)] = .ret false (.bl true) [(false, d)] := by
  unfold bodyFn
  simp [argG, ssSeq, ssTryN, ssDrop, seCall, saCons, sbVar, saNil, O.bind, distinct, lentOf, argsOf, argOf, Fl.own, e, giveBack, ofO, mt_RuleError, ssRet, seC, endsOf, endOf]
theorem ref_ok {d : D} (h : notRule d) : φ_law_is_refused [(false, d)] = .ret false (.bl true) [(false, d)] := ref_gen _ d (flip_no h)
/-! the law's laps -/
def Un (x : Option (Fl × D)) : Prop := ∀ c d, x = some (c, d) → c.pin = false
theorem un_none : Un none := fun _ _ h => by cases h
theorem un_f (d : D) : Un (some (.f, d)) := fun _ _ h => by cases h; rfl
theorem un_o (d : D) : Un (some (.o, d)) := fun _ _ h => by cases h; rfl
theorem setS_un {g : G} {i : Nat} {x : Option (Fl × D)} {r : Bool × D} (h : g[i]? = some x) (u : Un x) : setS g i r = some (g.set i (some (if r.1 = true then .o else .f, r.2))) := by
  unfold setS
  rw [h]
  rcases x with _ | ⟨c, d⟩
  · rfl
  · simp [u c d rfl]
theorem asg_un {se : SE} {g g1 : G} {i : Nat} {x : Option (Fl × D)} {o : Bool} {d : D} (e : se g = .ok (o, d) g1) (h : g1[i]? = some x) (u : Un x) : ssAsg se (sgName i) g = .nx (g1.set i (some (if o = true then .o else .f, d))) := by
  unfold ssAsg sgName
  rw [e]
  simp only [ofO, setS_un h u]
section
variable {s k l x4 x5 x6 x7 x8 x9 x10 : Option (Fl × D)}
theorem a1 (φ : Fn) (p p' r : D) (u : Un x4) (e : φ [(true, p), (false, .int 12)] = .ret true r [(true, p'), (false, .int 12)]) :
    ssAsg (seCall φ (saCons (sbVar 2) (saCons (sbOf (seC (.int 12))) saNil))) (sgName 4) [s, k, some (.o, p), l, x4, x5, x6, x7, x8, x9, x10, none] = .nx [s, k, some (.o, p'), l, some (.o, r), x5, x6, x7, x8, x9, x10, none] := by
  refine (asg_un (o := true) (d := r) (g1 := [s, k, some (.o, p'), l, x4, x5, x6, x7, x8, x9, x10, none]) ?_ rfl u).trans rfl
  simp [seCall, saCons, sbVar, sbOf, seC, saNil, O.bind, distinct, lentOf, argsOf, argOf, Fl.own, e, giveBack]
theorem a2 (φ : Fn) (p p' r : D) (ds : List D) (u : Un x5) (e : φ [(true, p), (false, .int ds.length)] = .ret true r [(true, p'), (false, .int ds.length)]) :
    ssAsg (seCall φ (saCons (sbVar 2) (saCons (sbOf (seCB dLen (saCons (sbVar 4) saNil))) saNil))) (sgName 5) [s, k, some (.o, p), l, some (.o, .lst ds), x5, x6, x7, x8, x9, x10, none] = .nx [s, k, some (.o, p'), l, some (.o, .lst ds), some (.o, r), x6, x7, x8, x9, x10, none] := by
  refine (asg_un (o := true) (d := r) (g1 := [s, k, some (.o, p'), l, some (.o, .lst ds), x5, x6, x7, x8, x9, x10, none]) ?_ rfl u).trans rfl
  simp [seCall, seCB, saCons, sbVar, sbOf, seC, saNil, O.bind, refsGet, Ref.get, dLen, ofOpt, distinct, lentOf, argsOf, argOf, Fl.own, e, giveBack]
theorem a3 (φq φr φt : Fn) (p rods opts t o : D) (e1 : φt [(true, rods), (true, opts)] = .ret false t [(false, rods), (true, opts)]) (e2 : φr [(false, t)] = .ret true o [(false, t)]) (e3 : φq [(false, o), (false, rods), (true, opts)] = .ret false (.bl true) [(false, o), (false, rods), (false, opts)]) :
    (ssIf (stNot (stB (seCall φq (saCons (sbOf (seCall φr (saCons (sbOf (seCall φt (saCons (sbVar 4) (saCons (sbVar 5) saNil)))) saNil))) (saCons (sbVar 4) (saCons (sbVar 5) saNil)))))) (ssRet (seC (.bl false))) ssNext) [s, k, some (.o, p), l, some (.o, rods), some (.o, opts), x6, x7, x8, x9, x10, none] =
      .nx [s, k, some (.o, p), l, some (.f, rods), some (.f, opts), x6, x7, x8, x9, x10, none] := by
  simp [ssIf, stNot, stB, seCall, saCons, sbVar, sbOf, saNil, O.bind, distinct, lentOf, argsOf, argOf, Fl.own, Fl.fz, e1, e2, e3, giveBack, ofO, ssNext]
theorem a4 (p opts : D) (ds : List D) (u : Un x6) :
    ssAsg (seSl dSl (sbVar 4) soNone (soSome (seC (.int 4)))) (sgName 6) [s, k, some (.o, p), l, some (.f, .lst ds), some (.f, opts), x6, x7, x8, x9, x10, none] =
      .nx [s, k, some (.o, p), l, some (.f, .lst ds), some (.f, opts), some (.o, .lst (ds.take 4)), x7, x8, x9, x10, none] := by
  refine (asg_un (o := true) (d := .lst (ds.take 4)) (g1 := [s, k, some (.o, p), l, some (.f, .lst ds), some (.f, opts), x6, x7, x8, x9, x10, none]) ?_ rfl u).trans rfl
  have e : cutD ds none (some 4) = ds.take 4 := by
    unfold cutD
    rw [HT.sIx_none, show (4 : Int) = ((4 : Nat) : Int) from rfl, HT.sIx_nat, List.drop_zero, Nat.sub_zero]
    by_cases h : 4 ≤ ds.length
    · rw [Nat.min_eq_left h]
    · rw [List.take_of_length_le (by omega), List.take_of_length_le (by omega)]
  simp [seSl, sbVar, soNone, soSome, seC, O.bind, Ref.get, dSl, ofOpt, e]
theorem a5 (φ : Fn) (p p' rods opts e f g h : D) (ds : List D) (u7 : Un x7) (u8 : Un x8) (u9 : Un x9) (u10 : Un x10) (q : φ [(true, p), (false, .int ds.length)] = .ret true (.lst [e, f, g, h]) [(true, p'), (false, .int ds.length)]) :
    ssAsg (seCall φ (saCons (sbVar 2) (saCons (sbOf (seCB dLen (saCons (sbVar 6) saNil))) saNil))) (sgTup 4 (sgCons (sgName 7) (sgCons (sgName 8) (sgCons (sgName 9) (sgCons (sgName 10) sgNil))))) [s, k, some (.o, p), l, some (.f, rods), some (.f, opts), some (.o, .lst ds), x7, x8, x9, x10, none] =
      .nx [s, k, some (.o, p'), l, some (.f, rods), some (.f, opts), some (.o, .lst ds), some (.f, e), some (.f, f), some (.f, g), some (.f, h), none] := by
  have s7 : sgName 7 (false, e) [s, k, some (.o, p'), l, some (.f, rods), some (.f, opts), some (.o, .lst ds), x7, x8, x9, x10, none] = some [s, k, some (.o, p'), l, some (.f, rods), some (.f, opts), some (.o, .lst ds), some (.f, e), x8, x9, x10, none] := (setS_un rfl u7).trans rfl
  have s8 : sgName 8 (false, f) [s, k, some (.o, p'), l, some (.f, rods), some (.f, opts), some (.o, .lst ds), some (.f, e), x8, x9, x10, none] = some [s, k, some (.o, p'), l, some (.f, rods), some (.f, opts), some (.o, .lst ds), some (.f, e), some (.f, f), x9, x10, none] := (setS_un rfl u8).trans rfl
  have s9 : sgName 9 (false, g) [s, k, some (.o, p'), l, some (.f, rods), some (.f, opts), some (.o, .lst ds), some (.f, e), some (.f, f), x9, x10, none] = some [s, k, some (.o, p'), l, some (.f, rods), some (.f, opts), some (.o, .lst ds), some (.f, e), some (.f, f), some (.f, g), x10, none] := (setS_un rfl u9).trans rfl
  have s10 : sgName 10 (false, h) [s, k, some (.o, p'), l, some (.f, rods), some (.f, opts), some (.o, .lst ds), some (.f, e), some (.f, f), some (.f, g), x10, none] = some [s, k, some (.o, p'), l, some (.f, rods), some (.f, opts), some (.o, .lst ds), some (.f, e), some (.f, f), some (.f, g), some (.f, h), none] := (setS_un rfl u10).trans rfl
  generalize sgName 7 = t7 at s7 ⊢
  generalize sgName 8 = t8 at s8 ⊢
  generalize sgName 9 = t9 at s9 ⊢
  generalize sgName 10 = t10 at s10 ⊢
  simp [ssAsg, seCall, seCB, saCons, sbVar, sbOf, seC, saNil, O.bind, refsGet, Ref.get, dLen, ofOpt, distinct, lentOf, argsOf, argOf, Fl.own, q, giveBack, ofO, sgTup, sgCons, sgNil, s7, s8, s9, s10]
theorem a6 (φq φh : Fn) (p rods opts few e f g h o : D) (e1 : φh [(true, few), (false, e), (false, f)] = .ret true o [(true, few), (false, e), (false, f)]) (e2 : φq [(false, o), (true, few), (false, .lst [e, f, .tup [], .tup []])] = .ret false (.bl true) [(false, o), (false, few), (false, .lst [e, f, .tup [], .tup []])]) :
    (ssIf (stNot (stB (seCall φq (saCons (sbOf (seCall φh (saCons (sbVar 6) (saCons (sbVar 7) (saCons (sbVar 8) saNil))))) (saCons (sbVar 6) (saCons (sbOf (seLst (saCons (sbOf (seVar 7)) (saCons (sbOf (seVar 8)) (saCons (sbOf (seTup saNil)) (saCons (sbOf (seTup saNil)) saNil)))))) saNil)))))) (ssRet (seC (.bl false))) ssNext) [s, k, some (.o, p), l, some (.f, rods), some (.f, opts), some (.o, few), some (.f, e), some (.f, f), some (.f, g), some (.f, h), none] =
      .nx [s, k, some (.o, p), l, some (.f, rods), some (.f, opts), some (.f, few), some (.f, e), some (.f, f), some (.f, g), some (.f, h), none] := by
  simp [ssIf, stNot, stB, seCall, saCons, sbVar, sbOf, seVar, seLst, seTup, sized_ok, datas, saNil, O.bind, distinct, lentOf, argsOf, argOf, Fl.own, Fl.fz, e1, e2, giveBack, ofO, ssNext]
theorem a7 (φq φh : Fn) (p rods opts few e f g h o : D) (e1 : φh [(false, few), (false, g), (false, h)] = .ret true o [(false, few), (false, g), (false, h)]) (e2 : φq [(false, o), (false, few), (false, .lst [.tup [], .tup [], g, h])] = .ret false (.bl true) [(false, o), (false, few), (false, .lst [.tup [], .tup [], g, h])]) :
    (ssIf (stNot (stB (seCall φq (saCons (sbOf (seCall φh (saCons (sbVar 6) (saCons (sbVar 9) (saCons (sbVar 10) saNil))))) (saCons (sbVar 6) (saCons (sbOf (seLst (saCons (sbOf (seTup saNil)) (saCons (sbOf (seTup saNil)) (saCons (sbOf (seVar 9)) (saCons (sbOf (seVar 10)) saNil)))))) saNil)))))) (ssRet (seC (.bl false))) ssNext) [s, k, some (.o, p), l, some (.f, rods), some (.f, opts), some (.f, few), some (.f, e), some (.f, f), some (.f, g), some (.f, h), none] =
      .nx [s, k, some (.o, p), l, some (.f, rods), some (.f, opts), some (.f, few), some (.f, e), some (.f, f), some (.f, g), some (.f, h), none] := by
  simp [ssIf, stNot, stB, seCall, saCons, sbVar, sbOf, seVar, seLst, seTup, sized_ok, datas, saNil, O.bind, distinct, lentOf, argsOf, argOf, Fl.own, Fl.fz, e1, e2, giveBack, ofO, ssNext]
theorem a8 (φq φp : Fn) (J : D → D → Option (Bool × D)) (LC : SE) (p rods opts few e f g h o t : D) (mi : Str) (ns : D) (eL : LC [s, k, some (.o, p), l, some (.f, rods), some (.f, opts), some (.f, few), some (.f, e), some (.f, f), some (.f, g), some (.f, h), none] = .ok (true, ns) [s, k, some (.o, p), l, some (.f, rods), some (.f, opts), some (.f, few), some (.f, e), some (.f, f), some (.f, g), some (.f, h), none])
    (ej : J (.str mi) ns = some (false, t)) (e1 : φp [(false, .cls .rule), (false, t)] = .ret true o [(false, .cls .rule), (false, t)]) (e2 : φq [(false, o), (false, rods), (false, .lst [.tup [], .tup [], .tup [], .tup []])] = .ret false (.bl true) [(false, o), (false, rods), (false, .lst [.tup [], .tup [], .tup [], .tup []])]) :
    (ssIf (stNot (stB (seCall φq (saCons (sbOf (seCall φp (saD (.cls .rule) (saCons (sbOf (seM1 J (sbOf (seC (.str mi))) (sbOf LC))) saNil)))) (saCons (sbVar 4) (saCons (sbOf (seLst (saCons (sbOf (seTup saNil)) (saCons (sbOf (seTup saNil)) (saCons (sbOf (seTup saNil)) (saCons (sbOf (seTup saNil)) saNil)))))) saNil)))))) (ssRet (seC (.bl false))) ssNext) [s, k, some (.o, p), l, some (.f, rods), some (.f, opts), some (.f, few), some (.f, e), some (.f, f), some (.f, g), some (.f, h), none] =
      .nx [s, k, some (.o, p), l, some (.f, rods), some (.f, opts), some (.f, few), some (.f, e), some (.f, f), some (.f, g), some (.f, h), none] := by
  simp [ssIf, stNot, stB, seCall, saCons, saD, sbVar, sbOf, seC, seM1, Ref.get, eL, ej, ofOpt, seLst, seTup, sized_ok, datas, saNil, O.bind, distinct, lentOf, argsOf, argOf, Fl.own, Fl.fz, e1, e2, giveBack, ofO, ssNext]
end
end M7.Z
namespace M7.Z
open PySem PySem.Spec PyProof.Rows L2 R7 SX
theorem opts_pair1 {n : Int} {e f g h : List Int} (o : Opts n e f g h) : PairOk (n - 1) e f :=
  ⟨o.h1.nd, o.h2.nd, o.h1.rg, o.h2.rg, fun k q r => o.h2.dj k r q, by have := o.h1.sz; omega, by have := o.h2.sz; omega⟩
theorem opts_pair2 {n : Int} {e f g h : List Int} (o : Opts n e f g h) : PairOk n g h :=
  ⟨o.h3.nd, o.h4.nd, o.h3.rg, o.h4.rg, fun k q r => o.h4.dj k r q, by have := o.h3.sz; omega, by have := o.h4.sz; omega⟩
theorem pair_nil (n : Int) : PairOk n [] [] := ⟨by simp, by simp, by simp, by simp, by simp, by simp, by simp⟩
/-- the slots that a lap may set -/
def UnL (l : List (Option (Fl × D))) : Prop := ∀ x ∈ l, Un x
theorem plain_lc (s k l x5 x6 x7 x8 x9 x10 : Option (Fl × D)) (p : D) (ms : List Int) (hm : ∀ m ∈ ms, Rod m) (hl : ms.length ≤ 12) :
    seLc (siOf (seVar 4)) (sgName 11) (fun g => .ok true g) (seCB dStr (saCons (sbVar 11) saNil)) [11] [s, k, some (.o, p), l, some (.f, lstI ms), x5, x6, x7, x8, x9, x10, none] =
      .ok (true, lstS (ms.map num)) [s, k, some (.o, p), l, some (.f, lstI ms), x5, x6, x7, x8, x9, x10, none] := by
  have := lc1m (mk := M7.D.int) (si := siOf (seVar 4)) (se := seCB dStr (saCons (sbVar 11) saNil)) (k := 11) (g := [s, k, some (.o, p), l, some (.f, lstI ms), x5, x6, x7, x8, x9, x10, none]) (g1 := [s, k, some (.o, p), l, some (.f, lstI ms), x5, x6, x7, x8, x9, x10, none]) (ds := ms) (fun m => strL (num m)) (by simp [siOf, seVar, O.bind, Fl.fz, itemsOf]) rfl (by omega) (fun m hm' => ⟨false, by
    have e := dStr_num (hm m hm')
    show seCB _ _ [s, k, some (.o, p), l, some (.f, lstI ms), x5, x6, x7, x8, x9, x10, some (.f, .int m)] = .ok (false, _) [s, k, some (.o, p), l, some (.f, lstI ms), x5, x6, x7, x8, x9, x10, some (.f, .int m)]
    generalize dStr = S' at e ⊢
    simp [seCB, saCons, sbVar, saNil, O.bind, refsGet, Ref.get, e, ofOpt]⟩)
  rw [this]
  simp [lstS, Function.comp_def]
theorem lap_ok (s k l : Option (Fl × D)) (a b c : Int) (x4 x5 x6 x7 x8 x9 x10 : Option (Fl × D)) (u : UnL [x4, x5, x6, x7, x8, x9, x10]) :
    ∃ (a' b' c' : Int) (y4 y5 y6 y7 y8 y9 y10 : Option (Fl × D)), UnL [y4, y5, y6, y7, y8, y9, y10] ∧
      ss_law_b0 [s, k, some (.o, .lst [.int a, .int b, .int c]), l, x4, x5, x6, x7, x8, x9, x10, none] =
      .nx [s, k, some (.o, .lst [.int a', .int b', .int c']), l, y4, y5, y6, y7, y8, y9, y10, none] := by
  obtain ⟨ms, a1', b1', c1', l1, l2, hm, e1⟩ := rods_ok a b c 12 (by decide) (by decide)
  obtain ⟨e, f, g, h, a2', b2', c2', ho, e2⟩ := options_ok a1' b1' c1' ms.length (by omega) (by omega)
  have hm4 : ∀ m ∈ ms.take 4, Rod m := fun m q => hm m (List.mem_of_mem_take q)
  have l4 : 1 ≤ (ms.take 4).length ∧ (ms.take 4).length ≤ 4 := by rw [List.length_take]; omega
  obtain ⟨e', f', g', h', a3', b3', c3', ho', e5⟩ := options_ok a2' b2' c2' (ms.take 4).length (by omega) (by omega)
  have hp1 := opts_pair1 ho
  have hp2 := opts_pair2 ho
  have hq1 := opts_pair1 ho'
  have hq2 := opts_pair2 ho'
  have hl : ms.length ≤ 12 := by omega
  match ms, l1, l2, hm, hl, ho, hp1, hp2, e1, e2, hm4, l4, ho', hq1, hq2, e5 with
  | m :: ms, l1, l2, hm, hl, ho, hp1, hp2, e1, e2, hm4, l4, ho', hq1, hq2, e5 =>
    have ll : 1 ≤ (m :: ms).length ∧ (m :: ms).length ≤ 12 := ⟨l1, hl⟩
    have t := text_ok true true e f g h m ms hm hl
    have r := read_ok e f g h m ms hm hl hp1 hp2
    have q3 := right_ok (is_bound (m :: ms) (sortI e) (sortI f) (sortI g) (sortI h)) (four_bound (sortI e) (sortI f) (sortI g) (sortI h)) false true ll hm hp1 hp2
    have hh := held_ok true ((m :: ms).take 4) e' f' l4 hm4 hq1
    have q6 := right_ok (e := e') (f := f') (g := []) (h := []) (is_held ((m :: ms).take 4) (sortI e') (sortI f')) (four_held (sortI e') (sortI f')) true false ⟨l4.1, by omega⟩ hm4 hq1 (pair_nil _)
    have ha := aimed_ok false ((m :: ms).take 4) g' h' l4 hm4 hq2
    have q7 := right_ok (e := []) (f := []) (g := g') (h := h') (is_aimed ((m :: ms).take 4) (sortI g') (sortI h')) (four_aimed (sortI g') (sortI h')) false false ⟨l4.1, by omega⟩ hm4 (pair_nil _) hq2
    have pp := plain_ok m ms hm hl
    have q8 := right_ok (e := []) (f := []) (g := []) (h := []) (is_rule (m :: ms)) four_rule false false ll hm (pair_nil _) (pair_nil _)
    have jn := join_num m ms hm hl
    have tk : (M7.D.lst ((((m :: ms).map M7.D.int)).take 4)) = lstI ((m :: ms).take 4) := by rw [lstI, List.map_take]
    have um : ∀ x ∈ [x4, x5, x6, x7, x8, x9, x10], Un x := u
    refine ⟨a3', b3', c3', some (.f, lstI (m :: ms)), some (.f, optD e f g h), some (.f, lstI ((m :: ms).take 4)), some (.f, tupI e'), some (.f, tupI f'), some (.f, tupI g'), some (.f, tupI h'), ?_, ?_⟩
    · intro x hx
      simp only [List.mem_cons, List.not_mem_nil, or_false] at hx
      rcases hx with rfl | rfl | rfl | rfl | rfl | rfl | rfl <;> exact un_f _
    unfold ss_law_b0
    rw [seq_nx (a1 φ_law_rods _ _ _ (um x4 (by simp)) e1)]
    rw [seq_nx (a2 φ_law_options _ _ _ _ (um x5 (by simp)) (by rw [List.length_map]; exact e2))]
    rw [seq_nx (a3 φ_law_is_right φ_read φ_law_text _ _ _ _ _ t r q3)]
    rw [seq_nx (a4 _ _ _ (um x6 (by simp)))]
    rw [tk]
    rw [seq_nx (a5 φ_law_options _ _ _ _ _ _ _ _ _ (um x7 (by simp)) (um x8 (by simp)) (um x9 (by simp)) (um x10 (by simp)) (by rw [List.length_map]; exact e5))]
    rw [seq_nx (a6 φ_law_is_right φ_law_held _ _ _ _ _ _ _ _ _ hh q6)]
    rw [seq_nx (a7 φ_law_is_right φ_law_aimed _ _ _ _ _ _ _ _ _ ha q7)]
    exact a8 φ_law_is_right φ_Rule_plain dJoin _ _ _ _ _ _ _ _ _ _ _ _ _ (plain_lc _ _ _ _ _ _ _ _ _ _ (m :: ms) hm hl) jn pp q8
end M7.Z
namespace M7.Z
open PySem PySem.Spec PyProof.Rows L2 R7 SX
theorem sg3 {x0 x1 x2 x3 x4 x5 x6 x7 x8 x9 x10 x11 : Option (Fl × D)} (u : Un x3) (d : D) : sgName 3 (false, d) [x0, x1, x2, x3, x4, x5, x6, x7, x8, x9, x10, x11] = some [x0, x1, x2, some (.f, d), x4, x5, x6, x7, x8, x9, x10, x11] := (setS_un rfl u).trans rfl
theorem sg1 {x0 x1 x2 x3 x4 x5 x6 x7 x8 x9 x10 x11 : Option (Fl × D)} (u : Un x1) (d : D) : sgName 1 (false, d) [x0, x1, x2, x3, x4, x5, x6, x7, x8, x9, x10, x11] = some [x0, some (.f, d), x2, x3, x4, x5, x6, x7, x8, x9, x10, x11] := (setS_un rfl u).trans rfl
/-- the slots of the law behind the script and its index -/
def lawG (s k : Option (Fl × D)) (g : G) : Prop := ∃ (a b c : Int) (l x4 x5 x6 x7 x8 x9 x10 : Option (Fl × D)), UnL [l, x4, x5, x6, x7, x8, x9, x10] ∧ g = [s, k, some (.o, .lst [.int a, .int b, .int c]), l, x4, x5, x6, x7, x8, x9, x10, none]
theorem laps_ok (s k : Option (Fl × D)) : ∀ (ds : List D) (g : G), lawG s k g → ∃ g', lawG s k g' ∧ loopL (sgName 3) ss_law_b0 ds g = .nx g'
  | [], g, h => ⟨g, h, rfl⟩
  | d :: ds, g, h => by
    obtain ⟨a, b, c, l, x4, x5, x6, x7, x8, x9, x10, u, rfl⟩ := h
    obtain ⟨a', b', c', y4, y5, y6, y7, y8, y9, y10, u', e⟩ := lap_ok s k (some (.f, d)) a b c x4 x5 x6 x7 x8 x9 x10 (fun x hx => u x (.tail _ hx))
    obtain ⟨g', h', e'⟩ := laps_ok s k ds _ ⟨a', b', c', some (.f, d), y4, y5, y6, y7, y8, y9, y10, (fun x hx => by
      rcases List.mem_cons.mp hx with rfl | hx
      · exact un_f _
      · exact u' x hx), rfl⟩
    exact ⟨g', h', (loopL_step (sg3 (u l (.head _)) d) e).trans e'⟩
/-- what stands in front of a lap over a cell -/
def outG (s : Option (Fl × D)) (g : G) : Prop := ∃ (x1 x2 l x4 x5 x6 x7 x8 x9 x10 : Option (Fl × D)), UnL [x1, x2, l, x4, x5, x6, x7, x8, x9, x10] ∧ g = [s, x1, x2, l, x4, x5, x6, x7, x8, x9, x10, none]
theorem no_ref {d : D} (h : d ∈ [M7.D.non, .int 0, .bl true, .str ("2-1" : Str), .str ("" : Str), .tup [.int 2, .int 1], .lst [.int 2], .dct [], .tup [], .str ("LR" : Str), .int 12]) : notRule d := by
  simp only [List.mem_cons, List.not_mem_nil, or_false] at h
  rcases h with rfl | rfl | rfl | rfl | rfl | rfl | rfl | rfl | rfl | rfl | rfl <;> exact ⟨_, rfl, rfl⟩
theorem cell_gen (φs φc : Fn) (sc n v p : D) (x2 : Option (Fl × D)) (r : List (Option (Fl × D))) (u : Un x2) (e1 : φc [(false, sc), (false, n)] = .ret false v [(false, sc), (false, n)]) (e2 : φs [(false, v)] = .ret true p [(false, v)]) :
    ssAsg (seCall φs (saCons (sbOf (seCall φc (saCons (sbVar 0) (saCons (sbVar 1) saNil)))) saNil)) (sgName 2) (some (.f, sc) :: some (.f, n) :: x2 :: r) = .nx (some (.f, sc) :: some (.f, n) :: some (.o, p) :: r) := by
  refine (asg_un (o := true) (d := p) (g1 := some (.f, sc) :: some (.f, n) :: x2 :: r) ?_ rfl u).trans rfl
  simp [seCall, saCons, sbVar, sbOf, saNil, O.bind, distinct, lentOf, argsOf, argOf, Fl.own, e1, e2, giveBack]
theorem ask_gen (φr φc : Fn) (LST : SE) (x0 x1 : Option (Fl × D)) (p p' d : D) (ds : List D) (r : List (Option (Fl × D))) (eL : ∀ g, LST g = .ok (true, .lst ds) g) (e1 : φc [(true, p), (false, .lst ds)] = .ret false d [(true, p'), (false, .lst ds)]) (e2 : φr [(false, d)] = .ret false (.bl true) [(false, d)]) :
    (ssIf (stNot (stB (seCall φr (saCons (sbOf (seCall φc (saCons (sbVar 2) (saCons (sbOf LST) saNil)))) saNil)))) (ssRet (seC (.bl false))) ssNext) (x0 :: x1 :: some (.o, p) :: r) = .nx (x0 :: x1 :: some (.o, p') :: r) := by
  simp [ssIf, stNot, stB, seCall, saCons, sbVar, sbOf, saNil, eL, O.bind, distinct, lentOf, argsOf, argOf, Fl.own, e1, e2, giveBack, ofO, ssNext]
theorem for6 (B : SS) (g g' : G) (e : loopL (sgName 3) B (rangeD 0 6) g = .nx g') : ssFor (siA rg1 (saCons (sbOf (seC (.int 6))) saNil)) (sgName 3) B g = .nx g' := by
  simp [ssFor, siA, saCons, sbOf, seC, saNil, O.bind, refsGet, Ref.get, rg1, ofO, e]
theorem outer_ok (ns : List Int) (hl : ns.length ≤ 63) (i : Nat) (hi : i < 1000) (g : G) (h : outG (some (.f, .scr (ns.map .int))) g) :
    ∃ g1 g2, sgName 1 (false, .int (0 + (i : Int))) g = some g1 ∧ ss_law_b1 g1 = .nx g2 ∧ outG (some (.f, .scr (ns.map .int))) g2 := by
  obtain ⟨x1, x2, l, x4, x5, x6, x7, x8, x9, x10, u, rfl⟩ := h
  have um : ∀ x ∈ [x1, x2, l, x4, x5, x6, x7, x8, x9, x10], Un x := u
  obtain ⟨v, ec⟩ := cell_ok ns (0 + (i : Int)) (by omega) (by omega) hl
  obtain ⟨x, y, es⟩ := source_ok v
  obtain ⟨g', h', e'⟩ := laps_ok (some (.f, .scr (ns.map .int))) (some (.f, .int (0 + (i : Int)))) (rangeD 0 6) [some (.f, .scr (ns.map .int)), some (.f, .int (0 + (i : Int))), some (.o, .lst [.int x, .int y, .int 0]), l, x4, x5, x6, x7, x8, x9, x10, none] ⟨x, y, 0, l, x4, x5, x6, x7, x8, x9, x10, fun x hx => u x (.tail _ (.tail _ hx)), rfl⟩
  obtain ⟨a, b, c, l', y4, y5, y6, y7, y8, y9, y10, u', rfl⟩ := h'
  obtain ⟨d, a', b', c', hd, ed⟩ := choose_ok a b c [M7.D.non, .int 0, .bl true, .str ("2-1" : Str), .str ("" : Str), .tup [.int 2, .int 1], .lst [.int 2], .dct [], .tup [], .str ("LR" : Str), .int 12] (by simp) (by simp)
  refine ⟨_, [some (.f, .scr (ns.map .int)), some (.f, .int (0 + (i : Int))), some (.o, .lst [.int a', .int b', .int c']), l', y4, y5, y6, y7, y8, y9, y10, none], sg1 (um x1 (by simp)) _, ?_, _, _, _, _, _, _, _, _, _, _, ?_, rfl⟩
  · unfold ss_law_b1
    rw [seq_nx (cell_gen φ_law_source φ_law_cell _ _ _ _ _ _ (um x2 (by simp)) ec es), seq_nx (for6 _ _ _ e')]
    exact ask_gen φ_law_is_refused φ_law_choose _ _ _ _ _ _ _ _ (fun g => by simp [seLst, seTup, seDNew, saCons, sbOf, seC, saNil, O.bind, datas, sized_ok]) ed (ref_ok (no_ref hd))
  · intro x hx
    rcases List.mem_cons.mp hx with rfl | hx
    · exact un_f _
    rcases List.mem_cons.mp hx with rfl | hx
    · exact un_o _
    exact u' x hx
theorem law_gen (B : SS) (sc : List D) (hl : sc.length ≤ 63) (x1 : List (Option (Fl × D))) (n : Int) (hn : n = if (if 4 < (sc.length : Int) then (4 : Int) else sc.length) > 1 then (if 4 < (sc.length : Int) then (4 : Int) else sc.length) else 1) (e : loopL (sgName 1) B (rangeD 0 n.toNat) [some (.f, .scr sc), none, none, none, none, none, none, none, none, none, none, none] = .nx (some (.f, .scr sc) :: x1)) :
    bodyFn 1 12 (ssTryN mt_FoldError (ssSeq (ssFor (siA rg1 (saCons (sbOf (seCB dMax2 (saCons (sbOf (seC (.int 1))) (saCons (sbOf (seCB dMin2 (saCons (sbOf (seCB dLen (saCons (sbVar 0) saNil))) (saCons (sbOf (seC (.int 4))) saNil)))) saNil)))) saNil)) (sgName 1) B)
    (ssRet (seC (.bl true)))) (ssRet (seC (.bl false)))) [(false, .scr sc)] = .ret false (.bl true) [(false, .scr sc)] := by
  have hb : -4611686018427387904 ≤ n ∧ n < 4611686018427387904 := by
    rw [hn]
    split <;> (try split) <;> omega
  unfold bodyFn
  simp [argG, ssTryN, ssSeq, ssFor, siA, saCons, sbOf, seCB, seC, sbVar, saNil, O.bind, refsGet, Ref.get, dLen, dMin2, dMax2, ofOpt, rg1, ← hn, hb, ofO, e, ssRet, endsOf, endOf]
theorem law_ok (ns : List Int) (hl : ns.length ≤ 63) : φ_law [(false, .scr (ns.map .int))] = .ret false (.bl true) [(false, .scr (ns.map .int))] := by
  obtain ⟨n, hn⟩ : ∃ n : Int, n = if (if 4 < ((ns.map M7.D.int).length : Int) then (4 : Int) else (ns.map M7.D.int).length) > 1 then (if 4 < ((ns.map M7.D.int).length : Int) then (4 : Int) else (ns.map M7.D.int).length) else 1 := ⟨_, rfl⟩
  have hb : n ≤ 4 := by
    rw [hn]
    split <;> (try split) <;> omega
  obtain ⟨g', e, x1, x2, l, x4, x5, x6, x7, x8, x9, x10, u, rfl⟩ := loopL_nx (sg := sgName 1) (body := ss_law_b1) (ds := rangeD 0 n.toNat) (i := 0) (g := [some (.f, .scr (ns.map .int)), none, none, none, none, none, none, none, none, none, none, none]) (fun _ g => outG (some (.f, .scr (ns.map .int))) g)
    ⟨none, none, none, none, none, none, none, none, none, none, (fun x hx => by
      simp only [List.mem_cons, List.not_mem_nil, or_false, or_self] at hx
      rw [hx]
      exact un_none), rfl⟩ (fun j d g hd hi => by
      have hj := rangeD_get hd
      have hlt : j < n.toNat := by
        have := (List.getElem?_eq_some_iff.mp hd).1
        simpa [rangeD] using this
      rw [hj]
      exact outer_ok ns hl j (by omega) g hi)
  exact law_gen ss_law_b1 (ns.map .int) (by rw [List.length_map]; exact hl) _ n hn e
end M7.Z
theorem M7.pure_04 : ∀ ns : List Int, ns.length ≤ 63 → ∃ bk, M7.φ_law [(false, M7.D.scr (ns.map M7.D.int))] = M7.FO.ret false (M7.D.bl true) bk := fun ns hl => ⟨_, M7.Z.law_ok ns hl⟩
/-! The end of a law whose def is promised by FnG, with tables of code objects. -/
namespace R7
open PySem PySem.Spec PyProof.Rows L2
/-- what is tracked when the law is called: the tables, and the script unless it is written -/
def lawH (TS : List Addr) (a : Addr) (free : Bool) (u : HO) : Hp := fun b => if b ∈ TS then some (.tbl #[]) else if (b == a && free) = true then some u else none
theorem lawH_t {TS : List Addr} {a b : Addr} {free : Bool} {u : HO} (h : b ∈ TS) : lawH TS a free u b = some (.tbl #[]) := if_pos h
theorem lawH_a {TS : List Addr} {a : Addr} {u : HO} (h : a ∉ TS) : lawH TS a true u a = some u := by
  unfold lawH
  rw [if_neg h, if_pos (by simp)]
theorem lawH_cases {TS : List Addr} {a b : Addr} {free : Bool} {u o : HO} (e : lawH TS a free u b = some o) : (b ∈ TS ∧ o = .tbl #[]) ∨ (b = a ∧ free = true ∧ o = u) := by
  unfold lawH at e
  by_cases hb : b ∈ TS
  · rw [if_pos hb] at e
    exact .inl ⟨hb, (Option.some.inj e).symm⟩
  · rw [if_neg hb] at e
    by_cases hc : (b == a && free) = true
    · rw [if_pos hc] at e
      simp only [Bool.and_eq_true, beq_iff_eq] at hc
      exact .inr ⟨hc.1, hc.2, (Option.some.inj e).symm⟩
    · rw [if_neg hc] at e
      cases e
theorem lawH_none {TS : List Addr} {a b : Addr} {free : Bool} {u : HO} (h1 : b ∉ TS) (h2 : b = a → free = false) : lawH TS a free u b = none := by
  unfold lawH
  rw [if_neg h1, if_neg]
  intro hc
  simp only [Bool.and_eq_true, beq_iff_eq] at hc
  rw [h2 hc.1] at hc
  cases hc.2
theorem end_call {P : Program} {w : World} {K : PySem.W.Frag} {mg mb : Str → Option Value} {k : Nat} {fa a : Addr} {cs : List (Addr × Addr)} {fd : FuncData} {x : Str} {sp : Sp} {s : Shared} {vs : List Value} {ns : List Int}
    (KX : K.In s.heap) (hns : s.heap.Ns mainGlobals mg) (hbn : s.heap.Ns builtinsNs mb) (hbb : ∀ y : Str, y ≠ "__name__" → mb y = bootBuiltins y) (hlim : s.heap.NoLimit) (hgens : s.gens = #[]) (hsys : ∃ mm, s.heap.Ns sysModules mm)
    (hT : ∀ p ∈ cs, s.heap.get? p.2 = some { cls := .none, data := .fields #[] }) (nT : ∀ p ∈ cs, K.lookup p.2 = none) (hC : ∀ p ∈ cs, PySem.W.CodeHd s.heap p.1 p.2)
    (hbm : ∃ (bm : Addr) (ob : Obj), mg "__builtins__" = some (.ref bm) ∧ bm ≠ builtinsNs ∧ s.heap.get? bm = some ob ∧ ob.cls = .type "module" ∧ ob.dict = some builtinsNs ∧ ob.data = .plain)
    (ha : s.heap.get? a = some { cls := .type "list", data := .seq vs.toArray }) (hi : IntsAre vs ns) (hl : ns.length ≤ sizeLine) (hr : Room k callerA)
    (F : ∀ base : Heap, K.In base → base.Ns mainGlobals mg → SysB base → (∀ p ∈ cs, LamX.TabB base mg p.1 p.2) → FnG P w K mg base CX0 k fa fd [x] sp) (hbind : ∀ (s : Shared) (u : Value), BindsTo s fd ⟨[u], []⟩ [(x, u)])
    (hsp : ∀ H : Hp, (∀ p ∈ cs, H p.2 = some (.tbl #[])) → SqL K H a (ns.map V.int) → sp [.ref a] H (fun v _ => v = .bl true) fun _ _ _ => False) :
    codeAny (model P w) callerA (.call (.ref fa) ⟨[.ref a], []⟩) (fun r s' => r = .ok (.ret (.bool true)) ∧ OldK s.heap s'.heap ∧ s'.os = s.os ∧ AllBare s'.gens) s := by
  have rv := vals_ints hi
  have lenV := hi.length
  generalize eTS : cs.map (·.2) = TS
  have inT : ∀ p ∈ cs, p.2 ∈ TS := fun p hp => eTS ▸ List.mem_map.mpr ⟨p, hp, rfl⟩
  have outT : ∀ b ∈ TS, ∃ p ∈ cs, p.2 = b := fun b hb => by
    rw [← eTS] at hb
    exact List.mem_map.mp hb
  have isT : ∀ b ∈ TS, s.heap.get? b = some { cls := .none, data := .fields #[] } := fun b hb => by
    obtain ⟨p, hp, e⟩ := outT b hb
    exact e ▸ hT p hp
  have aT : a ∉ TS := fun z => by
    have e := isT a z
    rw [ha] at e
    exact absurd (congrArg Obj.data (Option.some.inj e)) (by intro q; cases q)
  generalize ef : (K.lookup a).isNone = free
  generalize eu : HO.frz { cls := .type "list", data := .seq vs.toArray } (.lst (ns.map V.int)) = u
  generalize eH : lawH TS a free u = H
  have Hc : ∀ {b o}, H b = some o → (b ∈ TS ∧ o = .tbl #[]) ∨ (b = a ∧ free = true ∧ o = u) := fun {b o} e => lawH_cases (eH ▸ e)
  have kT : ∀ b ∈ TS, K.lookup b = none := fun b hb => by
    obtain ⟨p, hp, e⟩ := outT b hb
    exact e ▸ nT p hp
  -- what is no list and no empty table is not tracked
  have off : ∀ {b : Addr} {o : Obj}, s.heap.get? b = some o → (∀ us n, o.data ≠ .seq us n) → o.data ≠ .fields #[] → H b = none := fun {b o} e n1 n2 => by
    cases q : H b with
    | none => rfl
    | some v =>
      rcases Hc q with ⟨z, _⟩ | ⟨z, _, _⟩
      · rw [isT b z] at e
        exact absurd rfl ((Option.some.inj e) ▸ n2)
      · rw [z, ha] at e
        exact absurd rfl ((Option.some.inj e) ▸ n1 _ _)
  have up : ∀ {b : Addr} {o : Obj}, s.heap.get? b = some o → H b = none → (hidT s.heap H).get? b = some o := fun e n => hidT_get e n
  have upNs : ∀ {b : Addr} {m : Str → Option Value}, s.heap.Ns b m → (hidT s.heap H).Ns b m := fun {b m} h => by
    obtain ⟨o, es, ep, e, d, r⟩ := h
    exact ⟨o, es, ep, up e (off e (fun us n z => by rw [d] at z; cases z) (fun z => by rw [d] at z; cases z)), d, r⟩
  have hK : K.In (hidT s.heap H) := fun b o e => by
    refine up (KX b o e) ?_
    cases q : H b with
    | none => rfl
    | some v =>
      rcases Hc q with ⟨z, _⟩ | ⟨z, z2, _⟩
      · rw [kT b z] at e
        cases e
      · rw [z] at e
        rw [e] at ef
        rw [← ef] at z2
        cases z2
  have hM : Mod K mg (hidT s.heap H) := by
    obtain ⟨mc, h1, h2⟩ := hlim
    exact ⟨hK, upNs hns, ⟨mb, upNs hbn, hbb⟩, ⟨mc, upNs h1, h2⟩⟩
  have hS : SysB (hidT s.heap H) := by
    obtain ⟨mm, h⟩ := hsys
    obtain ⟨o, es, ep, e, _⟩ := upNs h
    exact ⟨o, e⟩
  have hTB : ∀ p ∈ cs, LamX.TabB (hidT s.heap H) mg p.1 p.2 := fun p hp => by
    refine ⟨?_, ?_, fun z => ?_⟩
    · obtain ⟨o, us, f1, f2, f3, f4, f5, f6, f7, e1, r1, r2, r3, rest⟩ := hC p hp
      refine ⟨o, us, f1, f2, f3, f4, f5, f6, f7, up e1 (off e1 (fun ws n z => by rw [r2] at z; cases z) fun z => ?_), r1, r2, r3, rest⟩
      rw [r2] at z
      injection z with z
      rw [z] at r3
      simp at r3
    · obtain ⟨bm, ob, b1, b2, b3, b4, b5, b6⟩ := hbm
      have g1 : bm ≠ mainGlobals := fun q => by
        obtain ⟨o, es, ep, e, d, _⟩ := hns
        rw [q, e] at b3
        rw [Option.some.inj b3, b6] at d
        cases d
      have g2 : bm ≠ p.2 := fun q => by
        rw [q, hT p hp] at b3
        rw [← Option.some.inj b3] at b6
        cases b6
      exact ⟨bm, ob, b1, b2, g1, g2, up b3 (off b3 (fun ws n z => by rw [b6] at z; cases z) fun z => by rw [b6] at z; cases z), b4, b5, b6⟩
    · obtain ⟨o, es, ep, e, d, _⟩ := hns
      rw [z, hT p hp] at e
      rw [← Option.some.inj e] at d
      cases d
  have hok : HOk P w H s.heap := fun b o q => by
    rcases Hc q with ⟨z, e⟩ | ⟨z, _, e⟩
    · rw [e]
      exact isT b z
    · rw [e, ← eu, z]
      exact ⟨ha, by rw [List.length_map]; exact hl, vs, _, rv, ha⟩
  have hSq : SqL K H a (ns.map V.int) := by
    cases q : K.lookup a with
    | none =>
      rw [q] at ef
      have ef' : true = free := ef
      refine .inl (.inr ⟨{ cls := .type "list", data := .seq vs.toArray }, ?_⟩)
      rw [← eH, ← ef', ← eu]
      exact lawH_a aT
    | some o =>
      have e := KX a o q
      rw [ha] at e
      rw [← Option.some.inj e] at q
      exact .inr ⟨_, vs.toArray, _, q, rfl, rfl, rfl, by rw [List.size_toArray, lenV]; exact hl, by simpa using rv⟩
  have hTt : ∀ p ∈ cs, H p.2 = some (.tbl #[]) := fun p hp => by
    rw [← eH]
    exact lawH_t (inT p hp)
  have e0 : Env0 P w K mg (hidT s.heap H) callerA [] s H := ⟨rfl, hM, fun b o e => of_hidT e, Nat.le_of_eq (hidT_size _ _), trivial, fun b hb => absurd hb (by simp [frs]), hok, .of_eq hgens⟩
  refine codeAny_mono ((F _ hK (upNs hns) hS hTB).go callerA [] s H ⟨[.ref a], []⟩ [.ref a] [.ref a] (fun v _ => v = .bl true) (fun _ _ _ => False) rfl hr e0 (hbind s (.ref a)) (.cons rfl .nil) (hsp H hTt hSq)) fun r s' h => ?_
  cases r with
  | error e => exact h.elim
  | ok fl =>
    cases fl with
    | next => exact h.elim
    | brk => exact h.elim
    | cont => exact h.elim
    | ret v =>
      obtain ⟨y, H', os, bare, un, ok', ry, q⟩ := h
      have q' : y = .bl true := q
      rw [q'] at ry
      obtain rfl : v = Value.bool true := ry
      have stays : ∀ b o, b ∉ TS → s.heap.get? b = some o → s'.heap.get? b = some o := fun b o nb e => by
        cases qb : H b with
        | none => exact un.keep b o e qb (by simp [frs]) (by simp)
        | some v =>
          rcases Hc qb with ⟨z, _⟩ | ⟨z, _, z3⟩
          · exact absurd z nb
          · rw [z3, ← eu] at qb
            have z2 := ok' b _ (un.frzs b _ _ qb)
            have z4 := hok b _ qb
            have e5 := z4.1
            rw [e] at e5
            rw [Option.some.inj e5]
            exact z2.1
      have grows : ∀ b ∈ TS, ∃ more : Array Value, s'.heap.get? b = some { cls := .none, data := .fields more } := fun b hb => by
        obtain ⟨p, hp, e⟩ := outT b hb
        obtain ⟨more, z⟩ := un.tbls p.2 #[] (hTt p hp)
        rw [← e]
        exact ⟨_, ok' p.2 _ z⟩
      refine ⟨rfl, ⟨fun b o e => ?_, fun b o e => ?_⟩, os, bare⟩
      · by_cases hb : b ∈ TS
        · obtain ⟨p, hp, ep⟩ := outT b hb
          obtain ⟨more, hm⟩ := grows b hb
          have e2 := e
          rw [isT b hb] at e2
          rw [← Option.some.inj e2]
          exact .inr (.inl ⟨by rw [← ep]; exact ((hC p hp).tab (hT p hp)).isCodeTable, rfl, #[], more, rfl, by rw [Array.empty_append]; exact hm⟩)
        · exact .inl (stays b o hb e)
      · by_cases hb : b ∈ TS
        · obtain ⟨more, hm⟩ := grows b hb
          exact ⟨_, hm⟩
        · exact ⟨o, stays b o hb e⟩
end R7
namespace R7
open PySem PySem.Spec PyProof.Rows L2
/-- the law's promise as its end wants it -/
def spEnd (K : PySem.W.Frag) : Sp := fun vs H Q _ => ∃ (a : Addr) (ns : List Int), vs = [.ref a] ∧ SqL K H a (ns.map V.int) ∧ ns.length ≤ 63 ∧ ∀ H', Q (.bl true) H'
/-- .. from what the def does to data -/
theorem end_D {w : M7.WD} {φ : M7.Fn} {Q : VK} {E : XK} {vs : List V} {H : Hp} (hφ : ∀ ns : List Int, ns.length ≤ 63 → ∃ bk, φ [(false, .scr (ns.map M7.D.int))] = .ret false (.bl true) bk) (h : spEnd w.K vs H Q E) : M7.spD w φ vs H Q E := by
  obtain ⟨a, ns, rfl, hs, hn, q⟩ := h
  obtain ⟨bk, e⟩ := hφ ns hn
  refine ⟨H, fun _ => none, [(false, .scr (ns.map M7.D.int))], ⟨fun b o z => .inl z, fun b o z => (by cases z), fun b o z => (by cases z), rfl, fun i c d z hc => ?_, fun i c d z hc => ?_, fun i j c c' d e a z z' hc hc' => ?_, fun i c d z hc => ?_⟩, ?_⟩
  · match i with
    | 0 =>
      cases z
      exact ⟨_, rfl, .scr hs (M7.ints_dens ns)⟩
    | i + 1 => cases z
  · match i with
    | 0 => cases z; cases hc
    | i + 1 => cases z
  · match i with
    | 0 => cases z; cases hc
    | i + 1 => cases z
  · match i with
    | 0 => cases z; cases hc
    | i + 1 => cases z
  · rw [e]
    intro v B' H' e' t r
    cases (show M7.Den w B' v (.bl true) from r)
    exact q H'
theorem FnG.imp {P : Program} {w : World} {K : PySem.W.Frag} {mg : Str → Option Value} {base : Heap} {CX : CXT} {k : Nat} {f : Addr} {fd : FuncData} {ps : List Str} {sp sp' : Sp} (F : FnG P w K mg base CX k f fd ps sp) (h : ∀ vs H Q E, sp' vs H Q E → sp vs H Q E) : FnG P w K mg base CX k f fd ps sp' :=
  ⟨fun vs H Q E z => F.len vs H Q E (h _ _ _ _ z), fun A outer s H args us vs Q E hg hr e0 hb r z => F.go A outer s H args us vs Q E hg hr e0 hb r (h _ _ _ _ z)⟩
theorem walk_endD {l : PySem.W.OpenLaw} {k : Nat} {q : Program} {loose : List Str} {XP : (Str → Option Value) → Heap → Prop} {YP : World → Heap → Prop} {d : DefRec} {K : Params → PySem.W.Frag} {x : Str}
    (hn : l.most = some 63) (hdf : d.params.defaults = []) (himp : importsNone q = true) (hr : Room k callerA) (hY : ∀ (w : World) (h : Heap), YP w h → (K w.params).In h)
    (F : ∀ (w : World) (mg : Str → Option Value) (fa : Addr) (h : Heap), YP w h → (K w.params).In h → h.Ns mainGlobals mg → mg d.name = some (.ref fa) →
      ∃ fd : FuncData, (∀ (s : Shared) (u : Value), BindsTo s fd ⟨[u], []⟩ [(x, u)]) ∧ ∀ base : Heap, (K w.params).In base → base.Ns mainGlobals mg → SysB base → FnG l.prog w (K w.params) mg base CX0 k fa fd [x] (spEnd (K w.params))) :
    PySem.W.WalkO q loose XP YP l.row.toRowW d [] (fun f vs => PySem.call f vs) := by
  refine Att.attach_callB hn hdf fun w s₀ s₁ mg mb fa o pm cd doc a vs ns G Y ho hd hcd hmg hobj hints hlen hbits hg => ?_
  have KX := hY w _ Y
  obtain ⟨fd, h5, h6⟩ := F w mg fa _ Y KX G.T.g hmg
  obtain ⟨mm, hm, _⟩ := (G.T.seer himp).mods
  refine end_call (cs := []) KX G.T.g G.T.b G.T.builtins G.T.nolimit hg ⟨mm, hm⟩ (by simp) (by simp) (by simp) G.T.bmain hobj hints (Nat.le_trans hlen (by decide)) hr (fun base hb hn hs _ => h6 base hb hn hs) h5 fun H hH hS => ?_
  exact ⟨a, ns, rfl, hS, hlen, fun _ => rfl⟩
end R7
set_option maxHeartbeats 4000000
namespace M7
open PySem PySem.Spec PyProof.Rows L2
theorem kit_ref {K : PySem.W.Frag} {t : Value} {C : Addr} {r : Bool} (i : PySem.W.isClsIn K C = true) (ty : PySem.W.typeIn K (.ref C) = some (.type "type")) (s : PySem.W.subIn K t (.ref C) = some r) : PySem.W.kitCls K t (.ref C) = some r := by
  have i' : (PySem.W.clsIn K C).isSome = true := i
  show (if ((PySem.W.clsIn K C).isSome && PySem.W.typeIn K (.ref C) == some (.type "type")) = true then PySem.W.subIn K t (.ref C) else none) = some r
  rw [i', ty, if_pos (by decide)]
  exact s
theorem kit_ne {K : PySem.W.Frag} {A B : Addr} {r : Bool} (h : A ≠ B) (k : PySem.W.kitCls K (.ref A) (.ref B) = some r) : PySem.W.kitOne K (.ref A) (.ref B) = some r := by
  unfold PySem.W.kitOne
  rw [if_neg (fun z => h (by have := eq_of_beq z; injection this))]
  exact k
theorem kit_tref {K : PySem.W.Frag} {T : String} {B : Addr} {r : Bool} (k : PySem.W.kitCls K (.type T) (.ref B) = some r) : PySem.W.kitOne K (.type T) (.ref B) = some r := by
  unfold PySem.W.kitOne
  rw [if_neg (fun z => by have := eq_of_beq z; cases this)]
  exact k
theorem kit_same {K : PySem.W.Frag} {A : Addr} : PySem.W.kitOne K (.ref A) (.ref A) = some true := by
  unfold PySem.W.kitOne
  rw [if_pos (beq_self_eq_true _)]
theorem exm_ref {K : PySem.W.Frag} {c : Value} {C : Addr} {r : Bool} (b : PySem.W.subIn K (.ref C) (.type "BaseException") = some true) (k : PySem.W.kitCls K c (.ref C) = some r) : PySem.W.exmOne K c (.ref C) = some r := by
  unfold PySem.W.exmOne
  rw [b, if_pos (beq_self_eq_true _)]
  exact k
@[reducible] def wdOf (K : PySem.W.Frag) (CRule CHeld CAimed CBound XRodsError XLockError XRuleError XFoldError : Addr) : WD := ⟨K, fun c => match c with | .rule => CRule | .held => CHeld | .aimed => CAimed | .bound => CBound | _ => 0, fun x => match x with | .rods => XRodsError | .lock => XLockError | .rule => XRuleError | .fold => XFoldError | _ => 0, fun x => x = .rods ∨ x = .lock ∨ x = .rule⟩
theorem all_04 {P : Program} {wl : World} {K : PySem.W.Frag} {h : Heap} {mg : Str → Option Value} (X : K.In h) (G : h.Ns mainGlobals mg)
    {CRule CHeld CAimed CBound XRodsError XLockError XRuleError XFoldError f_is_integer f_letter_at f_length_size f_cut f_Rule_is_rod f_Rule___init ps_is_rod f_Rule_rods f_Rule_options f_Rule_plain f_check_option f_option_pair f_Held___init f_Held_options f_Aimed___init f_Aimed_options f_Bound___init f_Bound_options f_check_rule f_all_options TOPTIONS f_from_other_end f_flipped q_rods f_numbers_of f_read f_law_cell f_law_source f_law_draw f_law_choose f_law_is_equal f_law_rods f_law_option f_law_options f_law_text f_law_held f_law_aimed f_law_told f_law_due f_law_is_right f_law_is_refused f_law ps_plain : Addr}
    {od_is_integer an_is_integer : Option Addr} {sl_is_integer : Array (Option Value)} {oc_is_integer kV_is_integer dc_is_integer pm_is_integer cd_is_integer ct_is_integer : Value}
    {od_letter_at an_letter_at : Option Addr} {sl_letter_at : Array (Option Value)} {oc_letter_at kV_letter_at dc_letter_at pm_letter_at cd_letter_at ct_letter_at : Value}
    {od_length_size an_length_size : Option Addr} {sl_length_size : Array (Option Value)} {oc_length_size kV_length_size dc_length_size pm_length_size cd_length_size ct_length_size : Value}
    {tk_FIRST_DIGITS : Tok}
    {tk_DIGITS : Tok}
    {od_cut an_cut : Option Addr} {sl_cut : Array (Option Value)} {oc_cut kV_cut dc_cut pm_cut cd_cut ct_cut : Value}
    {od_Rule_is_rod an_Rule_is_rod : Option Addr} {sl_Rule_is_rod : Array (Option Value)} {oc_Rule_is_rod kV_Rule_is_rod dc_Rule_is_rod pm_Rule_is_rod cd_Rule_is_rod ct_Rule_is_rod : Value}
    {tk_v_Rule_MOST_LENGTH : Tok}
    {od_Rule___init an_Rule___init : Option Addr} {sl_Rule___init : Array (Option Value)} {oc_Rule___init kV_Rule___init dc_Rule___init pm_Rule___init cd_Rule___init ct_Rule___init : Value}
    {tk_v_Rule_MOST_RODS : Tok}
    {rs_is_rod : List Value}
    {od_Rule_rods an_Rule_rods : Option Addr} {sl_Rule_rods : Array (Option Value)} {oc_Rule_rods kV_Rule_rods dc_Rule_rods pm_Rule_rods cd_Rule_rods ct_Rule_rods : Value}
    {od_Rule_options an_Rule_options : Option Addr} {sl_Rule_options : Array (Option Value)} {oc_Rule_options kV_Rule_options dc_Rule_options pm_Rule_options cd_Rule_options ct_Rule_options : Value}
    {od_Rule_plain an_Rule_plain : Option Addr} {sl_Rule_plain : Array (Option Value)} {oc_Rule_plain kV_Rule_plain dc_Rule_plain pm_Rule_plain cd_Rule_plain ct_Rule_plain : Value}
    {tk_NO_AIMS : Tok}
    {tk_FREE : Tok}
    {od_check_option an_check_option : Option Addr} {sl_check_option : Array (Option Value)} {oc_check_option kV_check_option dc_check_option pm_check_option cd_check_option ct_check_option : Value}
    {od_option_pair an_option_pair : Option Addr} {sl_option_pair : Array (Option Value)} {oc_option_pair kV_option_pair dc_option_pair pm_option_pair cd_option_pair ct_option_pair : Value}
    {od_Held___init an_Held___init : Option Addr} {sl_Held___init : Array (Option Value)} {oc_Held___init kV_Held___init dc_Held___init pm_Held___init cd_Held___init ct_Held___init : Value}
    {od_Held_options an_Held_options : Option Addr} {sl_Held_options : Array (Option Value)} {oc_Held_options kV_Held_options dc_Held_options pm_Held_options cd_Held_options ct_Held_options : Value}
    {od_Aimed___init an_Aimed___init : Option Addr} {sl_Aimed___init : Array (Option Value)} {oc_Aimed___init kV_Aimed___init dc_Aimed___init pm_Aimed___init cd_Aimed___init ct_Aimed___init : Value}
    {od_Aimed_options an_Aimed_options : Option Addr} {sl_Aimed_options : Array (Option Value)} {oc_Aimed_options kV_Aimed_options dc_Aimed_options pm_Aimed_options cd_Aimed_options ct_Aimed_options : Value}
    {od_Bound___init an_Bound___init : Option Addr} {sl_Bound___init : Array (Option Value)} {oc_Bound___init kV_Bound___init dc_Bound___init pm_Bound___init cd_Bound___init ct_Bound___init : Value}
    {od_Bound_options an_Bound_options : Option Addr} {sl_Bound_options : Array (Option Value)} {oc_Bound_options kV_Bound_options dc_Bound_options pm_Bound_options cd_Bound_options ct_Bound_options : Value}
    {od_check_rule an_check_rule : Option Addr} {sl_check_rule : Array (Option Value)} {oc_check_rule kV_check_rule dc_check_rule pm_check_rule cd_check_rule ct_check_rule : Value}
    {od_all_options an_all_options : Option Addr} {sl_all_options : Array (Option Value)} {oc_all_options kV_all_options dc_all_options pm_all_options cd_all_options ct_all_options : Value}
    {tk_OPTIONS0 tk_OPTIONS1 tk_OPTIONS2 tk_OPTIONS3 : Tok} {od_OPTIONS : Option Addr} {n_OPTIONS : Nat} {sl_OPTIONS : Array (Option Value)}
    {od_from_other_end an_from_other_end : Option Addr} {sl_from_other_end : Array (Option Value)} {oc_from_other_end kV_from_other_end dc_from_other_end pm_from_other_end cd_from_other_end ct_from_other_end : Value}
    {od_flipped an_flipped : Option Addr} {sl_flipped : Array (Option Value)} {oc_flipped kV_flipped dc_flipped pm_flipped cd_flipped ct_flipped : Value}
    {r_rods : List Value}
    {od_numbers_of an_numbers_of : Option Addr} {sl_numbers_of : Array (Option Value)} {oc_numbers_of kV_numbers_of dc_numbers_of pm_numbers_of cd_numbers_of ct_numbers_of : Value}
    {od_read an_read : Option Addr} {sl_read : Array (Option Value)} {oc_read kV_read dc_read pm_read cd_read ct_read : Value}
    {tk_AIMS : Tok}
    {tk_HINGES : Tok}
    {tk_STRAIGHT : Tok}
    {tk_FOLDED : Tok}
    {tk_RIGHT : Tok}
    {tk_LEFT : Tok}
    {od_law_cell an_law_cell : Option Addr} {sl_law_cell : Array (Option Value)} {oc_law_cell kV_law_cell dc_law_cell pm_law_cell cd_law_cell ct_law_cell : Value}
    {od_law_source an_law_source : Option Addr} {sl_law_source : Array (Option Value)} {oc_law_source kV_law_source dc_law_source pm_law_source cd_law_source ct_law_source : Value}
    {od_law_draw an_law_draw : Option Addr} {sl_law_draw : Array (Option Value)} {oc_law_draw kV_law_draw dc_law_draw pm_law_draw cd_law_draw ct_law_draw : Value}
    {od_law_choose an_law_choose : Option Addr} {sl_law_choose : Array (Option Value)} {oc_law_choose kV_law_choose dc_law_choose pm_law_choose cd_law_choose ct_law_choose : Value}
    {od_law_is_equal an_law_is_equal : Option Addr} {sl_law_is_equal : Array (Option Value)} {oc_law_is_equal kV_law_is_equal dc_law_is_equal pm_law_is_equal cd_law_is_equal ct_law_is_equal : Value}
    {od_law_rods an_law_rods : Option Addr} {sl_law_rods : Array (Option Value)} {oc_law_rods kV_law_rods dc_law_rods pm_law_rods cd_law_rods ct_law_rods : Value}
    {od_law_option an_law_option : Option Addr} {sl_law_option : Array (Option Value)} {oc_law_option kV_law_option dc_law_option pm_law_option cd_law_option ct_law_option : Value}
    {od_law_options an_law_options : Option Addr} {sl_law_options : Array (Option Value)} {oc_law_options kV_law_options dc_law_options pm_law_options cd_law_options ct_law_options : Value}
    {od_law_text an_law_text : Option Addr} {sl_law_text : Array (Option Value)} {oc_law_text kV_law_text dc_law_text pm_law_text cd_law_text ct_law_text : Value}
    {od_law_held an_law_held : Option Addr} {sl_law_held : Array (Option Value)} {oc_law_held kV_law_held dc_law_held pm_law_held cd_law_held ct_law_held : Value}
    {od_law_aimed an_law_aimed : Option Addr} {sl_law_aimed : Array (Option Value)} {oc_law_aimed kV_law_aimed dc_law_aimed pm_law_aimed cd_law_aimed ct_law_aimed : Value}
    {od_law_told an_law_told : Option Addr} {sl_law_told : Array (Option Value)} {oc_law_told kV_law_told dc_law_told pm_law_told cd_law_told ct_law_told : Value}
    {od_law_due an_law_due : Option Addr} {sl_law_due : Array (Option Value)} {oc_law_due kV_law_due dc_law_due pm_law_due cd_law_due ct_law_due : Value}
    {od_law_is_right an_law_is_right : Option Addr} {sl_law_is_right : Array (Option Value)} {oc_law_is_right kV_law_is_right dc_law_is_right pm_law_is_right cd_law_is_right ct_law_is_right : Value}
    {od_law_is_refused an_law_is_refused : Option Addr} {sl_law_is_refused : Array (Option Value)} {oc_law_is_refused kV_law_is_refused dc_law_is_refused pm_law_is_refused cd_law_is_refused ct_law_is_refused : Value}
    {od_law an_law : Option Addr} {sl_law : Array (Option Value)} {oc_law kV_law dc_law pm_law cd_law ct_law : Value}
    {rs_plain : List Value}
    (z_isinstance : PySem.W.nsIn K mainGlobals "isinstance" = some none)
    (z_int : PySem.W.nsIn K mainGlobals "int" = some none)
    (z_bool : PySem.W.nsIn K mainGlobals "bool" = some none)
    (z_len : PySem.W.nsIn K mainGlobals "len" = some none)
    (a_FIRST_DIGITS : PySem.W.nsIn K mainGlobals "FIRST_DIGITS" = some (some (.str "123456789" tk_FIRST_DIGITS)))
    (a_letter_at : PySem.W.nsIn K mainGlobals "letter_at" = some (some (.ref f_letter_at)))
    (a_DIGITS : PySem.W.nsIn K mainGlobals "DIGITS" = some (some (.str "0123456789" tk_DIGITS)))
    (z_str : PySem.W.nsIn K mainGlobals "str" = some none)
    (a_length_size : PySem.W.nsIn K mainGlobals "length_size" = some (some (.ref f_length_size)))
    (a_is_integer : PySem.W.nsIn K mainGlobals "is_integer" = some (some (.ref f_is_integer)))
    (a_Rule : PySem.W.nsIn K mainGlobals "Rule" = some (some (.ref CRule)))
    (a_RodsError : PySem.W.nsIn K mainGlobals "RodsError" = some (some (.ref XRodsError)))
    (z_all : PySem.W.nsIn K mainGlobals "all" = some none)
    (z_list : PySem.W.nsIn K mainGlobals "list" = some none)
    (a_NO_AIMS : PySem.W.nsIn K mainGlobals "NO_AIMS" = some (some (.str "" tk_NO_AIMS)))
    (a_FREE : PySem.W.nsIn K mainGlobals "FREE" = some (some (.str "-" tk_FREE)))
    (a_cut : PySem.W.nsIn K mainGlobals "cut" = some (some (.ref f_cut)))
    (z_tuple : PySem.W.nsIn K mainGlobals "tuple" = some none)
    (a_LockError : PySem.W.nsIn K mainGlobals "LockError" = some (some (.ref XLockError)))
    (z_set : PySem.W.nsIn K mainGlobals "set" = some none)
    (a_check_option : PySem.W.nsIn K mainGlobals "check_option" = some (some (.ref f_check_option)))
    (z_any : PySem.W.nsIn K mainGlobals "any" = some none)
    (z_sorted : PySem.W.nsIn K mainGlobals "sorted" = some none)
    (a_option_pair : PySem.W.nsIn K mainGlobals "option_pair" = some (some (.ref f_option_pair)))
    (a_Held : PySem.W.nsIn K mainGlobals "Held" = some (some (.ref CHeld)))
    (a_Aimed : PySem.W.nsIn K mainGlobals "Aimed" = some (some (.ref CAimed)))
    (a_RuleError : PySem.W.nsIn K mainGlobals "RuleError" = some (some (.ref XRuleError)))
    (a_OPTIONS : PySem.W.nsIn K mainGlobals "OPTIONS" = some (some (.ref TOPTIONS)))
    (a_check_rule : PySem.W.nsIn K mainGlobals "check_rule" = some (some (.ref f_check_rule)))
    (a_all_options : PySem.W.nsIn K mainGlobals "all_options" = some (some (.ref f_all_options)))
    (a_from_other_end : PySem.W.nsIn K mainGlobals "from_other_end" = some (some (.ref f_from_other_end)))
    (a_Bound : PySem.W.nsIn K mainGlobals "Bound" = some (some (.ref CBound)))
    (z_enumerate : PySem.W.nsIn K mainGlobals "enumerate" = some none)
    (a_AIMS : PySem.W.nsIn K mainGlobals "AIMS" = some (some (.str "><" tk_AIMS)))
    (a_HINGES : PySem.W.nsIn K mainGlobals "HINGES" = some (some (.str "-=~" tk_HINGES)))
    (a_STRAIGHT : PySem.W.nsIn K mainGlobals "STRAIGHT" = some (some (.str "=" tk_STRAIGHT)))
    (a_numbers_of : PySem.W.nsIn K mainGlobals "numbers_of" = some (some (.ref f_numbers_of)))
    (a_FOLDED : PySem.W.nsIn K mainGlobals "FOLDED" = some (some (.str "~" tk_FOLDED)))
    (a_RIGHT : PySem.W.nsIn K mainGlobals "RIGHT" = some (some (.str ">" tk_RIGHT)))
    (a_LEFT : PySem.W.nsIn K mainGlobals "LEFT" = some (some (.str "<" tk_LEFT)))
    (z_max : PySem.W.nsIn K mainGlobals "max" = some none)
    (a_law_draw : PySem.W.nsIn K mainGlobals "_law_draw" = some (some (.ref f_law_draw)))
    (z_repr : PySem.W.nsIn K mainGlobals "repr" = some none)
    (z_range : PySem.W.nsIn K mainGlobals "range" = some none)
    (a_law_option : PySem.W.nsIn K mainGlobals "_law_option" = some (some (.ref f_law_option)))
    (a_law_told : PySem.W.nsIn K mainGlobals "_law_told" = some (some (.ref f_law_told)))
    (a_flipped : PySem.W.nsIn K mainGlobals "flipped" = some (some (.ref f_flipped)))
    (a_law_due : PySem.W.nsIn K mainGlobals "_law_due" = some (some (.ref f_law_due)))
    (a_law_is_equal : PySem.W.nsIn K mainGlobals "_law_is_equal" = some (some (.ref f_law_is_equal)))
    (z_min : PySem.W.nsIn K mainGlobals "min" = some none)
    (a_law_cell : PySem.W.nsIn K mainGlobals "_law_cell" = some (some (.ref f_law_cell)))
    (a_law_source : PySem.W.nsIn K mainGlobals "_law_source" = some (some (.ref f_law_source)))
    (a_law_rods : PySem.W.nsIn K mainGlobals "_law_rods" = some (some (.ref f_law_rods)))
    (a_law_options : PySem.W.nsIn K mainGlobals "_law_options" = some (some (.ref f_law_options)))
    (a_law_text : PySem.W.nsIn K mainGlobals "_law_text" = some (some (.ref f_law_text)))
    (a_read : PySem.W.nsIn K mainGlobals "read" = some (some (.ref f_read)))
    (a_law_is_right : PySem.W.nsIn K mainGlobals "_law_is_right" = some (some (.ref f_law_is_right)))
    (a_law_held : PySem.W.nsIn K mainGlobals "_law_held" = some (some (.ref f_law_held)))
    (a_law_aimed : PySem.W.nsIn K mainGlobals "_law_aimed" = some (some (.ref f_law_aimed)))
    (a_law_choose : PySem.W.nsIn K mainGlobals "_law_choose" = some (some (.ref f_law_choose)))
    (a_law_is_refused : PySem.W.nsIn K mainGlobals "_law_is_refused" = some (some (.ref f_law_is_refused)))
    (a_FoldError : PySem.W.nsIn K mainGlobals "FoldError" = some (some (.ref XFoldError)))
    (a_law : PySem.W.nsIn K mainGlobals "law" = some (some (.ref f_law)))
    (fv_Rule_MOST_LENGTH : PySem.W.findCls K (.ref CRule) (.type "type") "MOST_LENGTH" = some (.val (.int 40 tk_v_Rule_MOST_LENGTH)))
    (fv_Rule_MOST_RODS : PySem.W.findCls K (.ref CRule) (.type "type") "MOST_RODS" = some (.val (.int 12 tk_v_Rule_MOST_RODS)))
    (sm_is_rod : PySem.W.findCls K (.ref CRule) (.type "type") "is_rod" = some (.get (.builtin "staticmethod.__get__") (.ref ps_is_rod) .none (.ref CRule)))
    (sa_Rule : PySem.W.findIn K (.ref CRule) "__setattr__" = some (some (.builtin "object.__setattr__")))
    (n_rods_Rule : PySem.W.findIn K (.ref CRule) "_rods" = some none)
    (sa_Held : PySem.W.findIn K (.ref CHeld) "__setattr__" = some (some (.builtin "object.__setattr__")))
    (n_rods_Held : PySem.W.findIn K (.ref CHeld) "_rods" = some none)
    (sa_Aimed : PySem.W.findIn K (.ref CAimed) "__setattr__" = some (some (.builtin "object.__setattr__")))
    (n_rods_Aimed : PySem.W.findIn K (.ref CAimed) "_rods" = some none)
    (sa_Bound : PySem.W.findIn K (.ref CBound) "__setattr__" = some (some (.builtin "object.__setattr__")))
    (n_rods_Bound : PySem.W.findIn K (.ref CBound) "_rods" = some none)
    (if_Rule : PySem.W.findIn K (.ref CRule) "__init__" = some (some (.ref f_Rule___init)))
    (fc_Rule : PySem.W.findCls K (.ref CRule) (.type "type") "__init__" = some (.val (.ref f_Rule___init)))
    (n_folded_Rule : PySem.W.findIn K (.ref CRule) "_folded" = some none)
    (n_folded_Held : PySem.W.findIn K (.ref CHeld) "_folded" = some none)
    (n_folded_Aimed : PySem.W.findIn K (.ref CAimed) "_folded" = some none)
    (n_folded_Bound : PySem.W.findIn K (.ref CBound) "_folded" = some none)
    (n_straight_Rule : PySem.W.findIn K (.ref CRule) "_straight" = some none)
    (n_straight_Held : PySem.W.findIn K (.ref CHeld) "_straight" = some none)
    (n_straight_Aimed : PySem.W.findIn K (.ref CAimed) "_straight" = some none)
    (n_straight_Bound : PySem.W.findIn K (.ref CBound) "_straight" = some none)
    (n_left_Rule : PySem.W.findIn K (.ref CRule) "_left" = some none)
    (n_left_Held : PySem.W.findIn K (.ref CHeld) "_left" = some none)
    (n_left_Aimed : PySem.W.findIn K (.ref CAimed) "_left" = some none)
    (n_left_Bound : PySem.W.findIn K (.ref CBound) "_left" = some none)
    (n_right_Rule : PySem.W.findIn K (.ref CRule) "_right" = some none)
    (n_right_Held : PySem.W.findIn K (.ref CHeld) "_right" = some none)
    (n_right_Aimed : PySem.W.findIn K (.ref CAimed) "_right" = some none)
    (n_right_Bound : PySem.W.findIn K (.ref CBound) "_right" = some none)
    (fc_Held : PySem.W.findCls K (.ref CHeld) (.type "type") "__init__" = some (.val (.ref f_Held___init)))
    (fc_Aimed : PySem.W.findCls K (.ref CAimed) (.type "type") "__init__" = some (.val (.ref f_Aimed___init)))
    (hc_Rule : PySem.W.findIn K (.ref CRule) "__class__" = some (some (.builtin "object.__class__")))
    (hc_Held : PySem.W.findIn K (.ref CHeld) "__class__" = some (some (.builtin "object.__class__")))
    (hc_Aimed : PySem.W.findIn K (.ref CAimed) "__class__" = some (some (.builtin "object.__class__")))
    (hc_Bound : PySem.W.findIn K (.ref CBound) "__class__" = some (some (.builtin "object.__class__")))
    (mf_Rule_options : PySem.W.findIn K (.ref CRule) "options" = some (some (.ref f_Rule_options)))
    (mf_Held_options : PySem.W.findIn K (.ref CHeld) "options" = some (some (.ref f_Held_options)))
    (mf_Aimed_options : PySem.W.findIn K (.ref CAimed) "options" = some (some (.ref f_Aimed_options)))
    (mf_Bound_options : PySem.W.findIn K (.ref CBound) "options" = some (some (.ref f_Bound_options)))
    (pf_Rule_rods : PySem.W.findIn K (.ref CRule) "rods" = some (some (.ref q_rods)))
    (pf_Held_rods : PySem.W.findIn K (.ref CHeld) "rods" = some (some (.ref q_rods)))
    (pf_Aimed_rods : PySem.W.findIn K (.ref CAimed) "rods" = some (some (.ref q_rods)))
    (pf_Bound_rods : PySem.W.findIn K (.ref CBound) "rods" = some (some (.ref q_rods)))
    (if_Bound : PySem.W.findIn K (.ref CBound) "__init__" = some (some (.ref f_Bound___init)))
    (if_Held : PySem.W.findIn K (.ref CHeld) "__init__" = some (some (.ref f_Held___init)))
    (if_Aimed : PySem.W.findIn K (.ref CAimed) "__init__" = some (some (.ref f_Aimed___init)))
    (sm_plain : PySem.W.findCls K (.ref CRule) (.type "type") "plain" = some (.get (.builtin "classmethod.__get__") (.ref ps_plain) .none (.ref CRule)))
    (sr_is_rod : PySem.W.recIn K ps_is_rod "staticmethod" = some (.ref f_Rule_is_rod :: rs_is_rod))
    (pr_rods : PySem.W.recIn K q_rods "property" = some (.ref f_Rule_rods :: r_rods))
    (sr_plain : PySem.W.recIn K ps_plain "classmethod" = some (.ref f_Rule_plain :: rs_plain))
    (l_is_integer : K.lookup f_is_integer = some ⟨oc_is_integer, od_is_integer, .func (PySem.W.fnOf "is_integer" "is_integer" (defArgs st_is_integer) (defBody st_is_integer) (defScope st_is_integer) .none kV_is_integer dc_is_integer pm_is_integer an_is_integer cd_is_integer ct_is_integer), sl_is_integer⟩)
    (l_letter_at : K.lookup f_letter_at = some ⟨oc_letter_at, od_letter_at, .func (PySem.W.fnOf "letter_at" "letter_at" (defArgs st_letter_at) (defBody st_letter_at) (defScope st_letter_at) .none kV_letter_at dc_letter_at pm_letter_at an_letter_at cd_letter_at ct_letter_at), sl_letter_at⟩)
    (l_length_size : K.lookup f_length_size = some ⟨oc_length_size, od_length_size, .func (PySem.W.fnOf "length_size" "length_size" (defArgs st_length_size) (defBody st_length_size) (defScope st_length_size) .none kV_length_size dc_length_size pm_length_size an_length_size cd_length_size ct_length_size), sl_length_size⟩)
    (l_cut : K.lookup f_cut = some ⟨oc_cut, od_cut, .func (PySem.W.fnOf "cut" "cut" (defArgs st_cut) (defBody st_cut) (defScope st_cut) .none kV_cut dc_cut pm_cut an_cut cd_cut ct_cut), sl_cut⟩)
    (l_Rule_is_rod : K.lookup f_Rule_is_rod = some ⟨oc_Rule_is_rod, od_Rule_is_rod, .func (PySem.W.fnOf "is_rod" "Rule.is_rod" (defArgs st_Rule_is_rod) (defBody st_Rule_is_rod) (defScope st_Rule_is_rod) .none kV_Rule_is_rod dc_Rule_is_rod pm_Rule_is_rod an_Rule_is_rod cd_Rule_is_rod ct_Rule_is_rod), sl_Rule_is_rod⟩)
    (l_Rule___init : K.lookup f_Rule___init = some ⟨oc_Rule___init, od_Rule___init, .func (PySem.W.fnOf "__init__" "Rule.__init__" (defArgs st_Rule___init) (defBody st_Rule___init) (defScope st_Rule___init) .none kV_Rule___init dc_Rule___init pm_Rule___init an_Rule___init cd_Rule___init ct_Rule___init), sl_Rule___init⟩)
    (l_Rule_rods : K.lookup f_Rule_rods = some ⟨oc_Rule_rods, od_Rule_rods, .func (PySem.W.fnOf "rods" "Rule.rods" (defArgs st_Rule_rods) (defBody st_Rule_rods) (defScope st_Rule_rods) .none kV_Rule_rods dc_Rule_rods pm_Rule_rods an_Rule_rods cd_Rule_rods ct_Rule_rods), sl_Rule_rods⟩)
    (l_Rule_options : K.lookup f_Rule_options = some ⟨oc_Rule_options, od_Rule_options, .func (PySem.W.fnOf "options" "Rule.options" (defArgs st_Rule_options) (defBody st_Rule_options) (defScope st_Rule_options) .none kV_Rule_options dc_Rule_options pm_Rule_options an_Rule_options cd_Rule_options ct_Rule_options), sl_Rule_options⟩)
    (l_Rule_plain : K.lookup f_Rule_plain = some ⟨oc_Rule_plain, od_Rule_plain, .func (PySem.W.fnOf "plain" "Rule.plain" (defArgs st_Rule_plain) (defBody st_Rule_plain) (defScope st_Rule_plain) .none kV_Rule_plain dc_Rule_plain pm_Rule_plain an_Rule_plain cd_Rule_plain ct_Rule_plain), sl_Rule_plain⟩)
    (l_check_option : K.lookup f_check_option = some ⟨oc_check_option, od_check_option, .func (PySem.W.fnOf "check_option" "check_option" (defArgs st_check_option) (defBody st_check_option) (defScope st_check_option) .none kV_check_option dc_check_option pm_check_option an_check_option cd_check_option ct_check_option), sl_check_option⟩)
    (l_option_pair : K.lookup f_option_pair = some ⟨oc_option_pair, od_option_pair, .func (PySem.W.fnOf "option_pair" "option_pair" (defArgs st_option_pair) (defBody st_option_pair) (defScope st_option_pair) .none kV_option_pair dc_option_pair pm_option_pair an_option_pair cd_option_pair ct_option_pair), sl_option_pair⟩)
    (l_Held___init : K.lookup f_Held___init = some ⟨oc_Held___init, od_Held___init, .func (PySem.W.fnOf "__init__" "Held.__init__" (defArgs st_Held___init) (defBody st_Held___init) (defScope st_Held___init) .none kV_Held___init dc_Held___init pm_Held___init an_Held___init cd_Held___init ct_Held___init), sl_Held___init⟩)
    (l_Held_options : K.lookup f_Held_options = some ⟨oc_Held_options, od_Held_options, .func (PySem.W.fnOf "options" "Held.options" (defArgs st_Held_options) (defBody st_Held_options) (defScope st_Held_options) .none kV_Held_options dc_Held_options pm_Held_options an_Held_options cd_Held_options ct_Held_options), sl_Held_options⟩)
    (l_Aimed___init : K.lookup f_Aimed___init = some ⟨oc_Aimed___init, od_Aimed___init, .func (PySem.W.fnOf "__init__" "Aimed.__init__" (defArgs st_Aimed___init) (defBody st_Aimed___init) (defScope st_Aimed___init) .none kV_Aimed___init dc_Aimed___init pm_Aimed___init an_Aimed___init cd_Aimed___init ct_Aimed___init), sl_Aimed___init⟩)
    (l_Aimed_options : K.lookup f_Aimed_options = some ⟨oc_Aimed_options, od_Aimed_options, .func (PySem.W.fnOf "options" "Aimed.options" (defArgs st_Aimed_options) (defBody st_Aimed_options) (defScope st_Aimed_options) .none kV_Aimed_options dc_Aimed_options pm_Aimed_options an_Aimed_options cd_Aimed_options ct_Aimed_options), sl_Aimed_options⟩)
    (l_Bound___init : K.lookup f_Bound___init = some ⟨oc_Bound___init, od_Bound___init, .func (PySem.W.fnOf "__init__" "Bound.__init__" (defArgs st_Bound___init) (defBody st_Bound___init) (defScope st_Bound___init) .none kV_Bound___init dc_Bound___init pm_Bound___init an_Bound___init cd_Bound___init ct_Bound___init), sl_Bound___init⟩)
    (l_Bound_options : K.lookup f_Bound_options = some ⟨oc_Bound_options, od_Bound_options, .func (PySem.W.fnOf "options" "Bound.options" (defArgs st_Bound_options) (defBody st_Bound_options) (defScope st_Bound_options) .none kV_Bound_options dc_Bound_options pm_Bound_options an_Bound_options cd_Bound_options ct_Bound_options), sl_Bound_options⟩)
    (l_check_rule : K.lookup f_check_rule = some ⟨oc_check_rule, od_check_rule, .func (PySem.W.fnOf "check_rule" "check_rule" (defArgs st_check_rule) (defBody st_check_rule) (defScope st_check_rule) .none kV_check_rule dc_check_rule pm_check_rule an_check_rule cd_check_rule ct_check_rule), sl_check_rule⟩)
    (l_all_options : K.lookup f_all_options = some ⟨oc_all_options, od_all_options, .func (PySem.W.fnOf "all_options" "all_options" (defArgs st_all_options) (defBody st_all_options) (defScope st_all_options) .none kV_all_options dc_all_options pm_all_options an_all_options cd_all_options ct_all_options), sl_all_options⟩)
    (l_OPTIONS : K.lookup TOPTIONS = some ⟨.type "tuple", od_OPTIONS, .seq #[.str "straight" tk_OPTIONS0, .str "folded" tk_OPTIONS1, .str "right" tk_OPTIONS2, .str "left" tk_OPTIONS3] n_OPTIONS, sl_OPTIONS⟩)
    (l_from_other_end : K.lookup f_from_other_end = some ⟨oc_from_other_end, od_from_other_end, .func (PySem.W.fnOf "from_other_end" "from_other_end" (defArgs st_from_other_end) (defBody st_from_other_end) (defScope st_from_other_end) .none kV_from_other_end dc_from_other_end pm_from_other_end an_from_other_end cd_from_other_end ct_from_other_end), sl_from_other_end⟩)
    (l_flipped : K.lookup f_flipped = some ⟨oc_flipped, od_flipped, .func (PySem.W.fnOf "flipped" "flipped" (defArgs st_flipped) (defBody st_flipped) (defScope st_flipped) .none kV_flipped dc_flipped pm_flipped an_flipped cd_flipped ct_flipped), sl_flipped⟩)
    (l_numbers_of : K.lookup f_numbers_of = some ⟨oc_numbers_of, od_numbers_of, .func (PySem.W.fnOf "numbers_of" "numbers_of" (defArgs st_numbers_of) (defBody st_numbers_of) (defScope st_numbers_of) .none kV_numbers_of dc_numbers_of pm_numbers_of an_numbers_of cd_numbers_of ct_numbers_of), sl_numbers_of⟩)
    (l_read : K.lookup f_read = some ⟨oc_read, od_read, .func (PySem.W.fnOf "read" "read" (defArgs st_read) (defBody st_read) (defScope st_read) .none kV_read dc_read pm_read an_read cd_read ct_read), sl_read⟩)
    (l_law_cell : K.lookup f_law_cell = some ⟨oc_law_cell, od_law_cell, .func (PySem.W.fnOf "_law_cell" "_law_cell" (defArgs st_law_cell) (defBody st_law_cell) (defScope st_law_cell) .none kV_law_cell dc_law_cell pm_law_cell an_law_cell cd_law_cell ct_law_cell), sl_law_cell⟩)
    (l_law_source : K.lookup f_law_source = some ⟨oc_law_source, od_law_source, .func (PySem.W.fnOf "_law_source" "_law_source" (defArgs st_law_source) (defBody st_law_source) (defScope st_law_source) .none kV_law_source dc_law_source pm_law_source an_law_source cd_law_source ct_law_source), sl_law_source⟩)
    (l_law_draw : K.lookup f_law_draw = some ⟨oc_law_draw, od_law_draw, .func (PySem.W.fnOf "_law_draw" "_law_draw" (defArgs st_law_draw) (defBody st_law_draw) (defScope st_law_draw) .none kV_law_draw dc_law_draw pm_law_draw an_law_draw cd_law_draw ct_law_draw), sl_law_draw⟩)
    (l_law_choose : K.lookup f_law_choose = some ⟨oc_law_choose, od_law_choose, .func (PySem.W.fnOf "_law_choose" "_law_choose" (defArgs st_law_choose) (defBody st_law_choose) (defScope st_law_choose) .none kV_law_choose dc_law_choose pm_law_choose an_law_choose cd_law_choose ct_law_choose), sl_law_choose⟩)
    (l_law_is_equal : K.lookup f_law_is_equal = some ⟨oc_law_is_equal, od_law_is_equal, .func (PySem.W.fnOf "_law_is_equal" "_law_is_equal" (defArgs st_law_is_equal) (defBody st_law_is_equal) (defScope st_law_is_equal) .none kV_law_is_equal dc_law_is_equal pm_law_is_equal an_law_is_equal cd_law_is_equal ct_law_is_equal), sl_law_is_equal⟩)
    (l_law_rods : K.lookup f_law_rods = some ⟨oc_law_rods, od_law_rods, .func (PySem.W.fnOf "_law_rods" "_law_rods" (defArgs st_law_rods) (defBody st_law_rods) (defScope st_law_rods) .none kV_law_rods dc_law_rods pm_law_rods an_law_rods cd_law_rods ct_law_rods), sl_law_rods⟩)
    (l_law_option : K.lookup f_law_option = some ⟨oc_law_option, od_law_option, .func (PySem.W.fnOf "_law_option" "_law_option" (defArgs st_law_option) (defBody st_law_option) (defScope st_law_option) .none kV_law_option dc_law_option pm_law_option an_law_option cd_law_option ct_law_option), sl_law_option⟩)
    (l_law_options : K.lookup f_law_options = some ⟨oc_law_options, od_law_options, .func (PySem.W.fnOf "_law_options" "_law_options" (defArgs st_law_options) (defBody st_law_options) (defScope st_law_options) .none kV_law_options dc_law_options pm_law_options an_law_options cd_law_options ct_law_options), sl_law_options⟩)
    (l_law_text : K.lookup f_law_text = some ⟨oc_law_text, od_law_text, .func (PySem.W.fnOf "_law_text" "_law_text" (defArgs st_law_text) (defBody st_law_text) (defScope st_law_text) .none kV_law_text dc_law_text pm_law_text an_law_text cd_law_text ct_law_text), sl_law_text⟩)
    (l_law_held : K.lookup f_law_held = some ⟨oc_law_held, od_law_held, .func (PySem.W.fnOf "_law_held" "_law_held" (defArgs st_law_held) (defBody st_law_held) (defScope st_law_held) .none kV_law_held dc_law_held pm_law_held an_law_held cd_law_held ct_law_held), sl_law_held⟩)
    (l_law_aimed : K.lookup f_law_aimed = some ⟨oc_law_aimed, od_law_aimed, .func (PySem.W.fnOf "_law_aimed" "_law_aimed" (defArgs st_law_aimed) (defBody st_law_aimed) (defScope st_law_aimed) .none kV_law_aimed dc_law_aimed pm_law_aimed an_law_aimed cd_law_aimed ct_law_aimed), sl_law_aimed⟩)
    (l_law_told : K.lookup f_law_told = some ⟨oc_law_told, od_law_told, .func (PySem.W.fnOf "_law_told" "_law_told" (defArgs st_law_told) (defBody st_law_told) (defScope st_law_told) .none kV_law_told dc_law_told pm_law_told an_law_told cd_law_told ct_law_told), sl_law_told⟩)
    (l_law_due : K.lookup f_law_due = some ⟨oc_law_due, od_law_due, .func (PySem.W.fnOf "_law_due" "_law_due" (defArgs st_law_due) (defBody st_law_due) (defScope st_law_due) .none kV_law_due dc_law_due pm_law_due an_law_due cd_law_due ct_law_due), sl_law_due⟩)
    (l_law_is_right : K.lookup f_law_is_right = some ⟨oc_law_is_right, od_law_is_right, .func (PySem.W.fnOf "_law_is_right" "_law_is_right" (defArgs st_law_is_right) (defBody st_law_is_right) (defScope st_law_is_right) .none kV_law_is_right dc_law_is_right pm_law_is_right an_law_is_right cd_law_is_right ct_law_is_right), sl_law_is_right⟩)
    (l_law_is_refused : K.lookup f_law_is_refused = some ⟨oc_law_is_refused, od_law_is_refused, .func (PySem.W.fnOf "_law_is_refused" "_law_is_refused" (defArgs st_law_is_refused) (defBody st_law_is_refused) (defScope st_law_is_refused) .none kV_law_is_refused dc_law_is_refused pm_law_is_refused an_law_is_refused cd_law_is_refused ct_law_is_refused), sl_law_is_refused⟩)
    (l_law : K.lookup f_law = some ⟨oc_law, od_law, .func (PySem.W.fnOf "law" "law" (defArgs st_law) (defBody st_law) (defScope st_law) .none kV_law dc_law pm_law an_law cd_law ct_law), sl_law⟩)
    (c_is_integer : PySem.W.codeIn K cd_is_integer "is_integer" = true)
    (k_is_integer : PySem.W.keepIn K (.ref f_is_integer) = true)
    (c_letter_at : PySem.W.codeIn K cd_letter_at "letter_at" = true)
    (k_letter_at : PySem.W.keepIn K (.ref f_letter_at) = true)
    (c_length_size : PySem.W.codeIn K cd_length_size "length_size" = true)
    (k_length_size : PySem.W.keepIn K (.ref f_length_size) = true)
    (c_cut : PySem.W.codeIn K cd_cut "cut" = true)
    (k_cut : PySem.W.keepIn K (.ref f_cut) = true)
    (c_Rule_is_rod : PySem.W.codeIn K cd_Rule_is_rod "Rule.is_rod" = true)
    (k_Rule_is_rod : PySem.W.keepIn K (.ref f_Rule_is_rod) = true)
    (rd_Rule : PySem.W.readsIn K CRule (.type "type") = true)
    (sp_Rule : PySem.W.specialIn K (.ref CRule) "__getattribute__" = some (some (.builtin "type.__getattribute__")))
    (c_Rule___init : PySem.W.codeIn K cd_Rule___init "Rule.__init__" = true)
    (k_Rule___init : PySem.W.keepIn K (.ref f_Rule___init) = true)
    (xE_RodsError : PySem.W.excIn K XRodsError [.type "ValueError", .type "Exception", .type "BaseException", .type "object"] "ValueError.__new__" = true)
    (kE_RodsError : PySem.W.keepIn K (.ref XRodsError) = true)
    (bE_RodsError : PySem.W.subIn K (.ref XRodsError) (.type "BaseException") = some true)
    (tC_RodsError : PySem.W.typeIn K (.ref XRodsError) = some (.type "type"))
    (pg_Rule : PySem.W.plainGet K CRule Str.empty = true)
    (hd_Rule : PySem.W.hasDictIn K CRule = true)
    (po_Rule : PySem.W.plainOver K CRule = true)
    (pg_Held : PySem.W.plainGet K CHeld Str.empty = true)
    (hd_Held : PySem.W.hasDictIn K CHeld = true)
    (po_Held : PySem.W.plainOver K CHeld = true)
    (pg_Aimed : PySem.W.plainGet K CAimed Str.empty = true)
    (hd_Aimed : PySem.W.hasDictIn K CAimed = true)
    (po_Aimed : PySem.W.plainOver K CAimed = true)
    (pg_Bound : PySem.W.plainGet K CBound Str.empty = true)
    (hd_Bound : PySem.W.hasDictIn K CBound = true)
    (po_Bound : PySem.W.plainOver K CBound = true)
    (c_Rule_rods : PySem.W.codeIn K cd_Rule_rods "Rule.rods" = true)
    (k_Rule_rods : PySem.W.keepIn K (.ref f_Rule_rods) = true)
    (c_Rule_options : PySem.W.codeIn K cd_Rule_options "Rule.options" = true)
    (k_Rule_options : PySem.W.keepIn K (.ref f_Rule_options) = true)
    (c_Rule_plain : PySem.W.codeIn K cd_Rule_plain "Rule.plain" = true)
    (k_Rule_plain : PySem.W.keepIn K (.ref f_Rule_plain) = true)
    (mk_Rule : PySem.W.makesIn K CRule = true)
    (j_Rule___init : PySem.W.isFn K (.ref f_Rule___init) = true)
    (kC_Rule : PySem.W.keepIn K (.ref CRule) = true)
    (c_check_option : PySem.W.codeIn K cd_check_option "check_option" = true)
    (k_check_option : PySem.W.keepIn K (.ref f_check_option) = true)
    (xE_LockError : PySem.W.excIn K XLockError [.type "ValueError", .type "Exception", .type "BaseException", .type "object"] "ValueError.__new__" = true)
    (kE_LockError : PySem.W.keepIn K (.ref XLockError) = true)
    (bE_LockError : PySem.W.subIn K (.ref XLockError) (.type "BaseException") = some true)
    (tC_LockError : PySem.W.typeIn K (.ref XLockError) = some (.type "type"))
    (c_option_pair : PySem.W.codeIn K cd_option_pair "option_pair" = true)
    (k_option_pair : PySem.W.keepIn K (.ref f_option_pair) = true)
    (c_Held___init : PySem.W.codeIn K cd_Held___init "Held.__init__" = true)
    (k_Held___init : PySem.W.keepIn K (.ref f_Held___init) = true)
    (c_Held_options : PySem.W.codeIn K cd_Held_options "Held.options" = true)
    (k_Held_options : PySem.W.keepIn K (.ref f_Held_options) = true)
    (c_Aimed___init : PySem.W.codeIn K cd_Aimed___init "Aimed.__init__" = true)
    (k_Aimed___init : PySem.W.keepIn K (.ref f_Aimed___init) = true)
    (c_Aimed_options : PySem.W.codeIn K cd_Aimed_options "Aimed.options" = true)
    (k_Aimed_options : PySem.W.keepIn K (.ref f_Aimed_options) = true)
    (c_Bound___init : PySem.W.codeIn K cd_Bound___init "Bound.__init__" = true)
    (k_Bound___init : PySem.W.keepIn K (.ref f_Bound___init) = true)
    (rd_Held : PySem.W.readsIn K CHeld (.type "type") = true)
    (sp_Held : PySem.W.specialIn K (.ref CHeld) "__getattribute__" = some (some (.builtin "type.__getattribute__")))
    (rd_Aimed : PySem.W.readsIn K CAimed (.type "type") = true)
    (sp_Aimed : PySem.W.specialIn K (.ref CAimed) "__getattribute__" = some (some (.builtin "type.__getattribute__")))
    (c_Bound_options : PySem.W.codeIn K cd_Bound_options "Bound.options" = true)
    (k_Bound_options : PySem.W.keepIn K (.ref f_Bound_options) = true)
    (c_check_rule : PySem.W.codeIn K cd_check_rule "check_rule" = true)
    (k_check_rule : PySem.W.keepIn K (.ref f_check_rule) = true)
    (iC_Rule : PySem.W.isClsIn K CRule = true)
    (tC_Rule : PySem.W.typeIn K (.ref CRule) = some (.type "type"))
    (s_non_Rule : PySem.W.subIn K (.type "NoneType") (.ref CRule) = some false)
    (s_bl_Rule : PySem.W.subIn K (.type "bool") (.ref CRule) = some false)
    (s_int_Rule : PySem.W.subIn K (.type "int") (.ref CRule) = some false)
    (s_str_Rule : PySem.W.subIn K (.type "str") (.ref CRule) = some false)
    (s_lst_Rule : PySem.W.subIn K (.type "list") (.ref CRule) = some false)
    (s_tup_Rule : PySem.W.subIn K (.type "tuple") (.ref CRule) = some false)
    (s_dct_Rule : PySem.W.subIn K (.type "dict") (.ref CRule) = some false)
    (hcn : PySem.W.specialIn K (.builtin "object.__class__") "__get__" = some (some (.builtin "getset_descriptor.__get__")))
    (hct : PySem.W.takesIn K (.builtin "object.__class__") = some true)
    (hm_Rule : PySem.W.mroIn K CRule (.type "object") = some true)
    (s_Held_Rule : PySem.W.subIn K (.ref CHeld) (.ref CRule) = some true)
    (hm_Held : PySem.W.mroIn K CHeld (.type "object") = some true)
    (s_Aimed_Rule : PySem.W.subIn K (.ref CAimed) (.ref CRule) = some true)
    (hm_Aimed : PySem.W.mroIn K CAimed (.type "object") = some true)
    (s_Bound_Rule : PySem.W.subIn K (.ref CBound) (.ref CRule) = some true)
    (hm_Bound : PySem.W.mroIn K CBound (.type "object") = some true)
    (xE_RuleError : PySem.W.excIn K XRuleError [.type "ValueError", .type "Exception", .type "BaseException", .type "object"] "ValueError.__new__" = true)
    (kE_RuleError : PySem.W.keepIn K (.ref XRuleError) = true)
    (bE_RuleError : PySem.W.subIn K (.ref XRuleError) (.type "BaseException") = some true)
    (tC_RuleError : PySem.W.typeIn K (.ref XRuleError) = some (.type "type"))
    (c_all_options : PySem.W.codeIn K cd_all_options "all_options" = true)
    (k_all_options : PySem.W.keepIn K (.ref f_all_options) = true)
    (j_Rule_options : PySem.W.isFn K (.ref f_Rule_options) = true)
    (j_Held_options : PySem.W.isFn K (.ref f_Held_options) = true)
    (j_Aimed_options : PySem.W.isFn K (.ref f_Aimed_options) = true)
    (j_Bound_options : PySem.W.isFn K (.ref f_Bound_options) = true)
    (c_from_other_end : PySem.W.codeIn K cd_from_other_end "from_other_end" = true)
    (k_from_other_end : PySem.W.keepIn K (.ref f_from_other_end) = true)
    (c_flipped : PySem.W.codeIn K cd_flipped "flipped" = true)
    (k_flipped : PySem.W.keepIn K (.ref f_flipped) = true)
    (pg_rods_ : PySem.W.specialIn K (.ref q_rods) "__get__" = some (some (.builtin "property.__get__")))
    (pt_rods : PySem.W.takesIn K (.ref q_rods) = some true)
    (mk_Bound : PySem.W.makesIn K CBound = true)
    (j_Bound___init : PySem.W.isFn K (.ref f_Bound___init) = true)
    (kC_Bound : PySem.W.keepIn K (.ref CBound) = true)
    (c_numbers_of : PySem.W.codeIn K cd_numbers_of "numbers_of" = true)
    (k_numbers_of : PySem.W.keepIn K (.ref f_numbers_of) = true)
    (c_read : PySem.W.codeIn K cd_read "read" = true)
    (k_read : PySem.W.keepIn K (.ref f_read) = true)
    (c_law_cell : PySem.W.codeIn K cd_law_cell "_law_cell" = true)
    (k_law_cell : PySem.W.keepIn K (.ref f_law_cell) = true)
    (c_law_source : PySem.W.codeIn K cd_law_source "_law_source" = true)
    (k_law_source : PySem.W.keepIn K (.ref f_law_source) = true)
    (c_law_draw : PySem.W.codeIn K cd_law_draw "_law_draw" = true)
    (k_law_draw : PySem.W.keepIn K (.ref f_law_draw) = true)
    (c_law_choose : PySem.W.codeIn K cd_law_choose "_law_choose" = true)
    (k_law_choose : PySem.W.keepIn K (.ref f_law_choose) = true)
    (c_law_is_equal : PySem.W.codeIn K cd_law_is_equal "_law_is_equal" = true)
    (k_law_is_equal : PySem.W.keepIn K (.ref f_law_is_equal) = true)
    (c_law_rods : PySem.W.codeIn K cd_law_rods "_law_rods" = true)
    (k_law_rods : PySem.W.keepIn K (.ref f_law_rods) = true)
    (c_law_option : PySem.W.codeIn K cd_law_option "_law_option" = true)
    (k_law_option : PySem.W.keepIn K (.ref f_law_option) = true)
    (c_law_options : PySem.W.codeIn K cd_law_options "_law_options" = true)
    (k_law_options : PySem.W.keepIn K (.ref f_law_options) = true)
    (c_law_text : PySem.W.codeIn K cd_law_text "_law_text" = true)
    (k_law_text : PySem.W.keepIn K (.ref f_law_text) = true)
    (c_law_held : PySem.W.codeIn K cd_law_held "_law_held" = true)
    (k_law_held : PySem.W.keepIn K (.ref f_law_held) = true)
    (mk_Held : PySem.W.makesIn K CHeld = true)
    (j_Held___init : PySem.W.isFn K (.ref f_Held___init) = true)
    (kC_Held : PySem.W.keepIn K (.ref CHeld) = true)
    (c_law_aimed : PySem.W.codeIn K cd_law_aimed "_law_aimed" = true)
    (k_law_aimed : PySem.W.keepIn K (.ref f_law_aimed) = true)
    (mk_Aimed : PySem.W.makesIn K CAimed = true)
    (j_Aimed___init : PySem.W.isFn K (.ref f_Aimed___init) = true)
    (kC_Aimed : PySem.W.keepIn K (.ref CAimed) = true)
    (c_law_told : PySem.W.codeIn K cd_law_told "_law_told" = true)
    (k_law_told : PySem.W.keepIn K (.ref f_law_told) = true)
    (c_law_due : PySem.W.codeIn K cd_law_due "_law_due" = true)
    (k_law_due : PySem.W.keepIn K (.ref f_law_due) = true)
    (c_law_is_right : PySem.W.codeIn K cd_law_is_right "_law_is_right" = true)
    (k_law_is_right : PySem.W.keepIn K (.ref f_law_is_right) = true)
    (iC_Bound : PySem.W.isClsIn K CBound = true)
    (tC_Bound : PySem.W.typeIn K (.ref CBound) = some (.type "type"))
    (s_non_Bound : PySem.W.subIn K (.type "NoneType") (.ref CBound) = some false)
    (s_bl_Bound : PySem.W.subIn K (.type "bool") (.ref CBound) = some false)
    (s_int_Bound : PySem.W.subIn K (.type "int") (.ref CBound) = some false)
    (s_str_Bound : PySem.W.subIn K (.type "str") (.ref CBound) = some false)
    (s_lst_Bound : PySem.W.subIn K (.type "list") (.ref CBound) = some false)
    (s_tup_Bound : PySem.W.subIn K (.type "tuple") (.ref CBound) = some false)
    (s_dct_Bound : PySem.W.subIn K (.type "dict") (.ref CBound) = some false)
    (s_Rule_Bound : PySem.W.subIn K (.ref CRule) (.ref CBound) = some false)
    (s_Held_Bound : PySem.W.subIn K (.ref CHeld) (.ref CBound) = some false)
    (s_Aimed_Bound : PySem.W.subIn K (.ref CAimed) (.ref CBound) = some false)
    (c_law_is_refused : PySem.W.codeIn K cd_law_is_refused "_law_is_refused" = true)
    (k_law_is_refused : PySem.W.keepIn K (.ref f_law_is_refused) = true)
    (sx_RodsError_RuleError : PySem.W.subIn K (.ref XRodsError) (.ref XRuleError) = some false)
    (iC_RuleError : PySem.W.isClsIn K XRuleError = true)
    (sx_LockError_RuleError : PySem.W.subIn K (.ref XLockError) (.ref XRuleError) = some false)
    (sx_RuleError_RuleError : PySem.W.subIn K (.ref XRuleError) (.ref XRuleError) = some true)
    (c_law : PySem.W.codeIn K cd_law "law" = true)
    (k_law : PySem.W.keepIn K (.ref f_law) = true)
    (fi_Rule_plain : PySem.W.fnIn K f_Rule_plain = true)
    (bE_FoldError : PySem.W.subIn K (.ref XFoldError) (.type "BaseException") = some true)
    (sx_RodsError_FoldError : PySem.W.subIn K (.ref XRodsError) (.ref XFoldError) = some true)
    (iC_FoldError : PySem.W.isClsIn K XFoldError = true)
    (tC_FoldError : PySem.W.typeIn K (.ref XFoldError) = some (.type "type"))
    (sx_LockError_FoldError : PySem.W.subIn K (.ref XLockError) (.ref XFoldError) = some true)
    (sx_RuleError_FoldError : PySem.W.subIn K (.ref XRuleError) (.ref XFoldError) = some true)
    (d_Held_Rule : CHeld ≠ CRule)
    (d_Aimed_Rule : CAimed ≠ CRule)
    (d_Bound_Rule : CBound ≠ CRule)
    (d_Rule_Bound : CRule ≠ CBound)
    (d_Held_Bound : CHeld ≠ CBound)
    (d_Aimed_Bound : CAimed ≠ CBound)
    (hφ : ∀ ns : List Int, ns.length ≤ 63 → ∃ bk, φ_law [(false, .scr (ns.map M7.D.int))] = .ret false (.bl true) bk) :
    ∃ fd : FuncData, (∀ (s : Shared) (u : Value), BindsTo s fd ⟨[u], []⟩ [("_law_script", u)]) ∧ ∀ base : Heap, K.In base → base.Ns mainGlobals mg → R7.SysB base → R7.FnG P wl K mg base CX0 9 f_law fd ["_law_script"] (R7.spEnd K) := by
  refine ⟨PySem.W.fnOf "law" "law" (defArgs st_law) (defBody st_law) (defScope st_law) .none kV_law dc_law pm_law an_law cd_law ct_law, fun s v => .of_eq rfl, fun base hK hG hS => ?_⟩
  have m_isinstance : mg "isinstance" = none := PySem.W.mg_none_of X G z_isinstance
  have m_int : mg "int" = none := PySem.W.mg_none_of X G z_int
  have m_bool : mg "bool" = none := PySem.W.mg_none_of X G z_bool
  have D_is_integer := def_is_integer (w := (wdOf K CRule CHeld CAimed CBound XRodsError XLockError XRuleError XFoldError)) (P := P) (wl := wl) (mg := mg) (base := base) (fun_mk (st := st_is_integer) l_is_integer c_is_integer k_is_integer) m_isinstance m_int m_bool
  have m_len : mg "len" = none := PySem.W.mg_none_of X G z_len
  have D_letter_at := def_letter_at (w := (wdOf K CRule CHeld CAimed CBound XRodsError XLockError XRuleError XFoldError)) (P := P) (wl := wl) (mg := mg) (base := base) (fun_mk (st := st_letter_at) l_letter_at c_letter_at k_letter_at) m_len
  have g_FIRST_DIGITS : Gcn (wdOf K CRule CHeld CAimed CBound XRodsError XLockError XRuleError XFoldError) mg "FIRST_DIGITS" (.str "123456789") := ⟨.str "123456789", _, PySem.W.mg_of X G a_FIRST_DIGITS, ⟨tk_FIRST_DIGITS, rfl⟩, fun _ => .str _⟩
  have c_letter_at : Cal P wl mg base (wdOf K CRule CHeld CAimed CBound XRodsError XLockError XRuleError XFoldError) false false 1 "letter_at" φ_letter_at := ⟨f_letter_at, D_letter_at, PySem.W.mg_of X G a_letter_at⟩
  have g_DIGITS : Gcn (wdOf K CRule CHeld CAimed CBound XRodsError XLockError XRuleError XFoldError) mg "DIGITS" (.str "0123456789") := ⟨.str "0123456789", _, PySem.W.mg_of X G a_DIGITS, ⟨tk_DIGITS, rfl⟩, fun _ => .str _⟩
  have D_length_size := def_length_size (w := (wdOf K CRule CHeld CAimed CBound XRodsError XLockError XRuleError XFoldError)) (P := P) (wl := wl) (mg := mg) (base := base) (fun_mk (st := st_length_size) l_length_size c_length_size k_length_size) g_FIRST_DIGITS c_letter_at g_DIGITS m_int
  have m_str : mg "str" = none := PySem.W.mg_none_of X G z_str
  have c_length_size : Cal P wl mg base (wdOf K CRule CHeld CAimed CBound XRodsError XLockError XRuleError XFoldError) false false 2 "length_size" φ_length_size := ⟨f_length_size, D_length_size, PySem.W.mg_of X G a_length_size⟩
  have D_cut := def_cut (w := (wdOf K CRule CHeld CAimed CBound XRodsError XLockError XRuleError XFoldError)) (P := P) (wl := wl) (mg := mg) (base := base) (fun_mk (st := st_cut) l_cut c_cut k_cut) m_isinstance m_str c_length_size m_int c_letter_at m_len
  have c_is_integer : Cal P wl mg base (wdOf K CRule CHeld CAimed CBound XRodsError XLockError XRuleError XFoldError) false false 1 "is_integer" φ_is_integer := ⟨f_is_integer, D_is_integer, PySem.W.mg_of X G a_is_integer⟩
  have v_Rule_MOST_LENGTH : CVl (wdOf K CRule CHeld CAimed CBound XRodsError XLockError XRuleError XFoldError) mg "Rule" .rule "MOST_LENGTH" (.int 40) := ⟨.type "type", .int 40, .int 40 tk_v_Rule_MOST_LENGTH, PySem.W.mg_of X G a_Rule, ⟨rd_Rule, sp_Rule⟩, ⟨fv_Rule_MOST_LENGTH, tk_v_Rule_MOST_LENGTH, rfl⟩, fun _ => .int _⟩
  have D_Rule_is_rod := def_Rule_is_rod (w := (wdOf K CRule CHeld CAimed CBound XRodsError XLockError XRuleError XFoldError)) (P := P) (wl := wl) (mg := mg) (base := base) (fun_mk (st := st_Rule_is_rod) l_Rule_is_rod c_Rule_is_rod k_Rule_is_rod) c_is_integer v_Rule_MOST_LENGTH
  have v_Rule_MOST_RODS : CVl (wdOf K CRule CHeld CAimed CBound XRodsError XLockError XRuleError XFoldError) mg "Rule" .rule "MOST_RODS" (.int 12) := ⟨.type "type", .int 12, .int 12 tk_v_Rule_MOST_RODS, PySem.W.mg_of X G a_Rule, ⟨rd_Rule, sp_Rule⟩, ⟨fv_Rule_MOST_RODS, tk_v_Rule_MOST_RODS, rfl⟩, fun _ => .int _⟩
  have x_RodsError : ExnF (wdOf K CRule CHeld CAimed CBound XRodsError XLockError XRuleError XFoldError) mg "RodsError" .rods := ⟨xE_RodsError, PySem.W.mg_of X G a_RodsError, kE_RodsError, bE_RodsError, tC_RodsError, by simp [wdOf]⟩
  have s_Rule_is_rod : Stc P wl mg base (wdOf K CRule CHeld CAimed CBound XRodsError XLockError XRuleError XFoldError) false 2 "Rule" "is_rod" .rule φ_Rule_is_rod := ⟨.type "type", ps_is_rod, f_Rule_is_rod, PySem.W.mg_of X G a_Rule, ⟨rd_Rule, sp_Rule⟩, ⟨sm_is_rod, ⟨_, sr_is_rod⟩, k_Rule_is_rod⟩, D_Rule_is_rod⟩
  have m_all : mg "all" = none := PySem.W.mg_none_of X G z_all
  have cl_Rule : Cls K CRule := ⟨pg_Rule, hd_Rule, po_Rule, sa_Rule⟩
  have cl_Held : Cls K CHeld := ⟨pg_Held, hd_Held, po_Held, sa_Held⟩
  have cl_Aimed : Cls K CAimed := ⟨pg_Aimed, hd_Aimed, po_Aimed, sa_Aimed⟩
  have cl_Bound : Cls K CBound := ⟨pg_Bound, hd_Bound, po_Bound, sa_Bound⟩
  have a_rods : NoA (wdOf K CRule CHeld CAimed CBound XRodsError XLockError XRuleError XFoldError) isRule "_rods" := fun c hc => match c, hc with | .rule, _ => ⟨cl_Rule, n_rods_Rule⟩ | .held, _ => ⟨cl_Held, n_rods_Held⟩ | .aimed, _ => ⟨cl_Aimed, n_rods_Aimed⟩ | .bound, _ => ⟨cl_Bound, n_rods_Bound⟩ | .folding, z => by cases z | .hand, z => by cases z | .cn6, z => by cases z | .cn7, z => by cases z
  have I_Rule___init_ := init_Rule___init_ (w := (wdOf K CRule CHeld CAimed CBound XRodsError XLockError XRuleError XFoldError)) (P := P) (wl := wl) (mg := mg) (base := base) (kws := []) ⟨⟨_, _, _, _, _, _, _, _, _, _, rfl, l_Rule___init, c_Rule___init, .inl ⟨rfl, rfl⟩, .inl rfl⟩, k_Rule___init⟩ m_len v_Rule_MOST_RODS x_RodsError s_Rule_is_rod m_all v_Rule_MOST_LENGTH a_rods
  have m_list : mg "list" = none := PySem.W.mg_none_of X G z_list
  have D_Rule_rods := def_Rule_rods (w := (wdOf K CRule CHeld CAimed CBound XRodsError XLockError XRuleError XFoldError)) (P := P) (wl := wl) (mg := mg) (base := base) (fun_mk (st := st_Rule_rods) l_Rule_rods c_Rule_rods k_Rule_rods) a_rods m_list
  have D_Rule_options := def_Rule_options (w := (wdOf K CRule CHeld CAimed CBound XRodsError XLockError XRuleError XFoldError)) (P := P) (wl := wl) (mg := mg) (base := base) (fun_mk (st := st_Rule_options) l_Rule_options c_Rule_options k_Rule_options) 
  have g_NO_AIMS : Gcn (wdOf K CRule CHeld CAimed CBound XRodsError XLockError XRuleError XFoldError) mg "NO_AIMS" (.str "") := ⟨.str "", _, PySem.W.mg_of X G a_NO_AIMS, ⟨tk_NO_AIMS, rfl⟩, fun _ => .str _⟩
  have g_FREE : Gcn (wdOf K CRule CHeld CAimed CBound XRodsError XLockError XRuleError XFoldError) mg "FREE" (.str "-") := ⟨.str "-", _, PySem.W.mg_of X G a_FREE, ⟨tk_FREE, rfl⟩, fun _ => .str _⟩
  have c_cut : Cal P wl mg base (wdOf K CRule CHeld CAimed CBound XRodsError XLockError XRuleError XFoldError) false false 3 "cut" φ_cut := ⟨f_cut, D_cut, PySem.W.mg_of X G a_cut⟩
  have k_Rule_ : Mak P wl mg base (wdOf K CRule CHeld CAimed CBound XRodsError XLockError XRuleError XFoldError) true 3 .rule [] φ_Rule___init id := ⟨f_Rule___init, id, ⟨mk_Rule, if_Rule, j_Rule___init, kC_Rule⟩, I_Rule___init_, gv_id⟩
  have D_Rule_plain := def_Rule_plain (w := (wdOf K CRule CHeld CAimed CBound XRodsError XLockError XRuleError XFoldError)) (P := P) (wl := wl) (mg := mg) (base := base) (fun_mk (st := st_Rule_plain) l_Rule_plain c_Rule_plain k_Rule_plain) g_NO_AIMS g_FREE v_Rule_MOST_LENGTH v_Rule_MOST_RODS c_cut k_Rule_
  have m_tuple : mg "tuple" = none := PySem.W.mg_none_of X G z_tuple
  have x_LockError : ExnF (wdOf K CRule CHeld CAimed CBound XRodsError XLockError XRuleError XFoldError) mg "LockError" .lock := ⟨xE_LockError, PySem.W.mg_of X G a_LockError, kE_LockError, bE_LockError, tC_LockError, by simp [wdOf]⟩
  have m_set : mg "set" = none := PySem.W.mg_none_of X G z_set
  have D_check_option := def_check_option (w := (wdOf K CRule CHeld CAimed CBound XRodsError XLockError XRuleError XFoldError)) (P := P) (wl := wl) (mg := mg) (base := base) (fun_mk (st := st_check_option) l_check_option c_check_option k_check_option) m_isinstance m_tuple x_LockError c_is_integer m_all m_len m_set
  have c_check_option : Cal P wl mg base (wdOf K CRule CHeld CAimed CBound XRodsError XLockError XRuleError XFoldError) false true 2 "check_option" φ_check_option := ⟨f_check_option, D_check_option, PySem.W.mg_of X G a_check_option⟩
  have m_any : mg "any" = none := PySem.W.mg_none_of X G z_any
  have m_sorted : mg "sorted" = none := PySem.W.mg_none_of X G z_sorted
  have D_option_pair := def_option_pair (w := (wdOf K CRule CHeld CAimed CBound XRodsError XLockError XRuleError XFoldError)) (P := P) (wl := wl) (mg := mg) (base := base) (fun_mk (st := st_option_pair) l_option_pair c_option_pair k_option_pair) c_check_option m_any x_LockError m_sorted m_tuple
  have b_Rule_ : Bas P wl mg base (wdOf K CRule CHeld CAimed CBound XRodsError XLockError XRuleError XFoldError) true 3 .rule "__init__" [] φ_Rule___init id := ⟨.type "type", f_Rule___init, id, ⟨rd_Rule, sp_Rule⟩, fc_Rule, k_Rule___init, I_Rule___init_, gv_id⟩
  have gm_Rule : mg "Rule" = some (.ref CRule) := PySem.W.mg_of X G a_Rule
  have c_option_pair : Cal P wl mg base (wdOf K CRule CHeld CAimed CBound XRodsError XLockError XRuleError XFoldError) false true 3 "option_pair" φ_option_pair := ⟨f_option_pair, D_option_pair, PySem.W.mg_of X G a_option_pair⟩
  have a_folded : NoA (wdOf K CRule CHeld CAimed CBound XRodsError XLockError XRuleError XFoldError) isRule "_folded" := fun c hc => match c, hc with | .rule, _ => ⟨cl_Rule, n_folded_Rule⟩ | .held, _ => ⟨cl_Held, n_folded_Held⟩ | .aimed, _ => ⟨cl_Aimed, n_folded_Aimed⟩ | .bound, _ => ⟨cl_Bound, n_folded_Bound⟩ | .folding, z => by cases z | .hand, z => by cases z | .cn6, z => by cases z | .cn7, z => by cases z
  have a_straight : NoA (wdOf K CRule CHeld CAimed CBound XRodsError XLockError XRuleError XFoldError) isRule "_straight" := fun c hc => match c, hc with | .rule, _ => ⟨cl_Rule, n_straight_Rule⟩ | .held, _ => ⟨cl_Held, n_straight_Held⟩ | .aimed, _ => ⟨cl_Aimed, n_straight_Aimed⟩ | .bound, _ => ⟨cl_Bound, n_straight_Bound⟩ | .folding, z => by cases z | .hand, z => by cases z | .cn6, z => by cases z | .cn7, z => by cases z
  have I_Held___init_folded_straight := init_Held___init_folded_straight (w := (wdOf K CRule CHeld CAimed CBound XRodsError XLockError XRuleError XFoldError)) (P := P) (wl := wl) (mg := mg) (base := base) (kws := []) ⟨⟨_, _, _, _, _, _, _, _, _, _, rfl, l_Held___init, c_Held___init, .inl ⟨rfl, rfl⟩, .inl rfl⟩, k_Held___init⟩ b_Rule_ gm_Rule m_len c_option_pair a_folded a_straight
  have I_Held___init_straight_folded := init_Held___init_straight_folded (w := (wdOf K CRule CHeld CAimed CBound XRodsError XLockError XRuleError XFoldError)) (P := P) (wl := wl) (mg := mg) (base := base) (kws := []) ⟨⟨_, _, _, _, _, _, _, _, _, _, rfl, l_Held___init, c_Held___init, .inl ⟨rfl, rfl⟩, .inl rfl⟩, k_Held___init⟩ b_Rule_ gm_Rule m_len c_option_pair a_folded a_straight
  have D_Held_options := def_Held_options (w := (wdOf K CRule CHeld CAimed CBound XRodsError XLockError XRuleError XFoldError)) (P := P) (wl := wl) (mg := mg) (base := base) (fun_mk (st := st_Held_options) l_Held_options c_Held_options k_Held_options) a_folded a_straight
  have a_left : NoA (wdOf K CRule CHeld CAimed CBound XRodsError XLockError XRuleError XFoldError) isRule "_left" := fun c hc => match c, hc with | .rule, _ => ⟨cl_Rule, n_left_Rule⟩ | .held, _ => ⟨cl_Held, n_left_Held⟩ | .aimed, _ => ⟨cl_Aimed, n_left_Aimed⟩ | .bound, _ => ⟨cl_Bound, n_left_Bound⟩ | .folding, z => by cases z | .hand, z => by cases z | .cn6, z => by cases z | .cn7, z => by cases z
  have a_right : NoA (wdOf K CRule CHeld CAimed CBound XRodsError XLockError XRuleError XFoldError) isRule "_right" := fun c hc => match c, hc with | .rule, _ => ⟨cl_Rule, n_right_Rule⟩ | .held, _ => ⟨cl_Held, n_right_Held⟩ | .aimed, _ => ⟨cl_Aimed, n_right_Aimed⟩ | .bound, _ => ⟨cl_Bound, n_right_Bound⟩ | .folding, z => by cases z | .hand, z => by cases z | .cn6, z => by cases z | .cn7, z => by cases z
  have I_Aimed___init_left_right := init_Aimed___init_left_right (w := (wdOf K CRule CHeld CAimed CBound XRodsError XLockError XRuleError XFoldError)) (P := P) (wl := wl) (mg := mg) (base := base) (kws := []) ⟨⟨_, _, _, _, _, _, _, _, _, _, rfl, l_Aimed___init, c_Aimed___init, .inl ⟨rfl, rfl⟩, .inl rfl⟩, k_Aimed___init⟩ b_Rule_ gm_Rule m_len c_option_pair a_left a_right
  have I_Aimed___init_right_left := init_Aimed___init_right_left (w := (wdOf K CRule CHeld CAimed CBound XRodsError XLockError XRuleError XFoldError)) (P := P) (wl := wl) (mg := mg) (base := base) (kws := []) ⟨⟨_, _, _, _, _, _, _, _, _, _, rfl, l_Aimed___init, c_Aimed___init, .inl ⟨rfl, rfl⟩, .inl rfl⟩, k_Aimed___init⟩ b_Rule_ gm_Rule m_len c_option_pair a_left a_right
  have D_Aimed_options := def_Aimed_options (w := (wdOf K CRule CHeld CAimed CBound XRodsError XLockError XRuleError XFoldError)) (P := P) (wl := wl) (mg := mg) (base := base) (fun_mk (st := st_Aimed_options) l_Aimed_options c_Aimed_options k_Aimed_options) a_left a_right
  have b_Held_straight_folded : Bas P wl mg base (wdOf K CRule CHeld CAimed CBound XRodsError XLockError XRuleError XFoldError) true 4 .held "__init__" ["straight", "folded"] φ_Held___init id := ⟨.type "type", f_Held___init, id, ⟨rd_Held, sp_Held⟩, fc_Held, k_Held___init, I_Held___init_straight_folded, gv_id⟩
  have gm_Held : mg "Held" = some (.ref CHeld) := PySem.W.mg_of X G a_Held
  have b_Aimed_right_left : Bas P wl mg base (wdOf K CRule CHeld CAimed CBound XRodsError XLockError XRuleError XFoldError) true 4 .aimed "__init__" ["right", "left"] φ_Aimed___init id := ⟨.type "type", f_Aimed___init, id, ⟨rd_Aimed, sp_Aimed⟩, fc_Aimed, k_Aimed___init, I_Aimed___init_right_left, gv_id⟩
  have gm_Aimed : mg "Aimed" = some (.ref CAimed) := PySem.W.mg_of X G a_Aimed
  have I_Bound___init_straight_folded_right_left := init_Bound___init_straight_folded_right_left (w := (wdOf K CRule CHeld CAimed CBound XRodsError XLockError XRuleError XFoldError)) (P := P) (wl := wl) (mg := mg) (base := base) (kws := []) ⟨⟨_, _, _, _, _, _, _, _, _, _, rfl, l_Bound___init, c_Bound___init, .inl ⟨rfl, rfl⟩, .inl rfl⟩, k_Bound___init⟩ b_Held_straight_folded gm_Held b_Aimed_right_left gm_Aimed
  have D_Bound_options := def_Bound_options (w := (wdOf K CRule CHeld CAimed CBound XRodsError XLockError XRuleError XFoldError)) (P := P) (wl := wl) (mg := mg) (base := base) (fun_mk (st := st_Bound_options) l_Bound_options c_Bound_options k_Bound_options) a_left a_right a_folded a_straight
  have ci_Rule : ClsI K CRule := ⟨cl_Rule, hc_Rule, hcn, hct, hm_Rule⟩
  have ci_Held : ClsI K CHeld := ⟨cl_Held, hc_Held, hcn, hct, hm_Held⟩
  have ci_Aimed : ClsI K CAimed := ⟨cl_Aimed, hc_Aimed, hcn, hct, hm_Aimed⟩
  have ci_Bound : ClsI K CBound := ⟨cl_Bound, hc_Bound, hcn, hct, hm_Bound⟩
  have i_Rule : IsiF (wdOf K CRule CHeld CAimed CBound XRodsError XLockError XRuleError XFoldError) (.ref CRule) (tCls (onRules true true true true)) := by
    intro k b h
    cases k with
    | non => cases h; exact ⟨kit_tref (kit_ref iC_Rule tC_Rule s_non_Rule), fun _ z => nomatch z⟩
    | bl => cases h; exact ⟨kit_tref (kit_ref iC_Rule tC_Rule s_bl_Rule), fun _ z => nomatch z⟩
    | int => cases h; exact ⟨kit_tref (kit_ref iC_Rule tC_Rule s_int_Rule), fun _ z => nomatch z⟩
    | str => cases h; exact ⟨kit_tref (kit_ref iC_Rule tC_Rule s_str_Rule), fun _ z => nomatch z⟩
    | lst => cases h; exact ⟨kit_tref (kit_ref iC_Rule tC_Rule s_lst_Rule), fun _ z => nomatch z⟩
    | tup => cases h; exact ⟨kit_tref (kit_ref iC_Rule tC_Rule s_tup_Rule), fun _ z => nomatch z⟩
    | dct => cases h; exact ⟨kit_tref (kit_ref iC_Rule tC_Rule s_dct_Rule), fun _ z => nomatch z⟩
    | obj c => cases c with
      | rule => cases h; exact ⟨kit_same, fun _ z => by cases z; exact ci_Rule⟩
      | held => cases h; exact ⟨kit_ne d_Held_Rule (kit_ref iC_Rule tC_Rule s_Held_Rule), fun _ z => by cases z; exact ci_Held⟩
      | aimed => cases h; exact ⟨kit_ne d_Aimed_Rule (kit_ref iC_Rule tC_Rule s_Aimed_Rule), fun _ z => by cases z; exact ci_Aimed⟩
      | bound => cases h; exact ⟨kit_ne d_Bound_Rule (kit_ref iC_Rule tC_Rule s_Bound_Rule), fun _ z => by cases z; exact ci_Bound⟩
      | _ => cases h
  have x_RuleError : ExnF (wdOf K CRule CHeld CAimed CBound XRodsError XLockError XRuleError XFoldError) mg "RuleError" .rule := ⟨xE_RuleError, PySem.W.mg_of X G a_RuleError, kE_RuleError, bE_RuleError, tC_RuleError, by simp [wdOf]⟩
  have D_check_rule := def_check_rule (w := (wdOf K CRule CHeld CAimed CBound XRodsError XLockError XRuleError XFoldError)) (P := P) (wl := wl) (mg := mg) (base := base) (fun_mk (st := st_check_rule) l_check_rule c_check_rule k_check_rule) m_isinstance gm_Rule i_Rule x_RuleError
  have o_options : Mets P wl mg base (wdOf K CRule CHeld CAimed CBound XRodsError XLockError XRuleError XFoldError) false false 1 "options" tb_options := by
    refine ⟨fun c φ h => ?_⟩
    cases c with
    | rule => cases h; exact ⟨cl_Rule, f_Rule_options, ⟨mf_Rule_options, j_Rule_options, k_Rule_options⟩, D_Rule_options⟩
    | held => cases h; exact ⟨cl_Held, f_Held_options, ⟨mf_Held_options, j_Held_options, k_Held_options⟩, D_Held_options⟩
    | aimed => cases h; exact ⟨cl_Aimed, f_Aimed_options, ⟨mf_Aimed_options, j_Aimed_options, k_Aimed_options⟩, D_Aimed_options⟩
    | bound => cases h; exact ⟨cl_Bound, f_Bound_options, ⟨mf_Bound_options, j_Bound_options, k_Bound_options⟩, D_Bound_options⟩
    | _ => cases h
  have g_OPTIONS : Gcn (wdOf K CRule CHeld CAimed CBound XRodsError XLockError XRuleError XFoldError) mg "OPTIONS" (.tup [.str "straight", .str "folded", .str "right", .str "left"]) := ⟨.ref TOPTIONS, _, PySem.W.mg_of X G a_OPTIONS, rfl, fun _ => .tup (xs := [V.str "straight", V.str "folded", V.str "right", V.str "left"]) (.inr ⟨_, _, _, l_OPTIONS, rfl, rfl, (by show 4 ≤ sizeLine; decide), .cons ⟨tk_OPTIONS0, rfl⟩ (.cons ⟨tk_OPTIONS1, rfl⟩ (.cons ⟨tk_OPTIONS2, rfl⟩ (.cons ⟨tk_OPTIONS3, rfl⟩ .nil)))⟩) (.cons (.str _) (.cons (.str _) (.cons (.str _) (.cons (.str _) (.nil)))))⟩
  have D_all_options := def_all_options (w := (wdOf K CRule CHeld CAimed CBound XRodsError XLockError XRuleError XFoldError)) (P := P) (wl := wl) (mg := mg) (base := base) (fun_mk (st := st_all_options) l_all_options c_all_options k_all_options) o_options g_OPTIONS
  have D_from_other_end := def_from_other_end (w := (wdOf K CRule CHeld CAimed CBound XRodsError XLockError XRuleError XFoldError)) (P := P) (wl := wl) (mg := mg) (base := base) (fun_mk (st := st_from_other_end) l_from_other_end c_from_other_end k_from_other_end) m_tuple
  have c_check_rule : Cal P wl mg base (wdOf K CRule CHeld CAimed CBound XRodsError XLockError XRuleError XFoldError) false true 1 "check_rule" φ_check_rule := ⟨f_check_rule, D_check_rule, PySem.W.mg_of X G a_check_rule⟩
  have p_rods : Prps P wl mg base (wdOf K CRule CHeld CAimed CBound XRodsError XLockError XRuleError XFoldError) 1 "rods" tb_rods := by
    refine ⟨fun c φ h => ?_⟩
    cases c with
    | rule => cases h; exact ⟨cl_Rule, q_rods, f_Rule_rods, ⟨pf_Rule_rods, pg_rods_, pt_rods, _, pr_rods⟩, D_Rule_rods⟩
    | held => cases h; exact ⟨cl_Held, q_rods, f_Rule_rods, ⟨pf_Held_rods, pg_rods_, pt_rods, _, pr_rods⟩, D_Rule_rods⟩
    | aimed => cases h; exact ⟨cl_Aimed, q_rods, f_Rule_rods, ⟨pf_Aimed_rods, pg_rods_, pt_rods, _, pr_rods⟩, D_Rule_rods⟩
    | bound => cases h; exact ⟨cl_Bound, q_rods, f_Rule_rods, ⟨pf_Bound_rods, pg_rods_, pt_rods, _, pr_rods⟩, D_Rule_rods⟩
    | _ => cases h
  have c_all_options : Cal P wl mg base (wdOf K CRule CHeld CAimed CBound XRodsError XLockError XRuleError XFoldError) false false 2 "all_options" φ_all_options := ⟨f_all_options, D_all_options, PySem.W.mg_of X G a_all_options⟩
  have c_from_other_end : Cal P wl mg base (wdOf K CRule CHeld CAimed CBound XRodsError XLockError XRuleError XFoldError) false false 1 "from_other_end" φ_from_other_end := ⟨f_from_other_end, D_from_other_end, PySem.W.mg_of X G a_from_other_end⟩
  have gm_Bound : mg "Bound" = some (.ref CBound) := PySem.W.mg_of X G a_Bound
  have k_Bound_straight_folded_right_left : Mak P wl mg base (wdOf K CRule CHeld CAimed CBound XRodsError XLockError XRuleError XFoldError) true 5 .bound ["straight", "folded", "right", "left"] φ_Bound___init id := ⟨f_Bound___init, id, ⟨mk_Bound, if_Bound, j_Bound___init, kC_Bound⟩, I_Bound___init_straight_folded_right_left, gv_id⟩
  have D_flipped := def_flipped (w := (wdOf K CRule CHeld CAimed CBound XRodsError XLockError XRuleError XFoldError)) (P := P) (wl := wl) (mg := mg) (base := base) (fun_mk (st := st_flipped) l_flipped c_flipped k_flipped) c_check_rule p_rods c_all_options m_len c_from_other_end gm_Bound k_Bound_straight_folded_right_left
  have m_enumerate : mg "enumerate" = none := PySem.W.mg_none_of X G z_enumerate
  have D_numbers_of := def_numbers_of (w := (wdOf K CRule CHeld CAimed CBound XRodsError XLockError XRuleError XFoldError)) (P := P) (wl := wl) (mg := mg) (base := base) (fun_mk (st := st_numbers_of) l_numbers_of c_numbers_of k_numbers_of) m_enumerate m_tuple
  have g_AIMS : Gcn (wdOf K CRule CHeld CAimed CBound XRodsError XLockError XRuleError XFoldError) mg "AIMS" (.str "><") := ⟨.str "><", _, PySem.W.mg_of X G a_AIMS, ⟨tk_AIMS, rfl⟩, fun _ => .str _⟩
  have g_HINGES : Gcn (wdOf K CRule CHeld CAimed CBound XRodsError XLockError XRuleError XFoldError) mg "HINGES" (.str "-=~") := ⟨.str "-=~", _, PySem.W.mg_of X G a_HINGES, ⟨tk_HINGES, rfl⟩, fun _ => .str _⟩
  have g_STRAIGHT : Gcn (wdOf K CRule CHeld CAimed CBound XRodsError XLockError XRuleError XFoldError) mg "STRAIGHT" (.str "=") := ⟨.str "=", _, PySem.W.mg_of X G a_STRAIGHT, ⟨tk_STRAIGHT, rfl⟩, fun _ => .str _⟩
  have c_numbers_of : Cal P wl mg base (wdOf K CRule CHeld CAimed CBound XRodsError XLockError XRuleError XFoldError) false false 1 "numbers_of" φ_numbers_of := ⟨f_numbers_of, D_numbers_of, PySem.W.mg_of X G a_numbers_of⟩
  have g_FOLDED : Gcn (wdOf K CRule CHeld CAimed CBound XRodsError XLockError XRuleError XFoldError) mg "FOLDED" (.str "~") := ⟨.str "~", _, PySem.W.mg_of X G a_FOLDED, ⟨tk_FOLDED, rfl⟩, fun _ => .str _⟩
  have g_RIGHT : Gcn (wdOf K CRule CHeld CAimed CBound XRodsError XLockError XRuleError XFoldError) mg "RIGHT" (.str ">") := ⟨.str ">", _, PySem.W.mg_of X G a_RIGHT, ⟨tk_RIGHT, rfl⟩, fun _ => .str _⟩
  have g_LEFT : Gcn (wdOf K CRule CHeld CAimed CBound XRodsError XLockError XRuleError XFoldError) mg "LEFT" (.str "<") := ⟨.str "<", _, PySem.W.mg_of X G a_LEFT, ⟨tk_LEFT, rfl⟩, fun _ => .str _⟩
  have D_read := def_read (w := (wdOf K CRule CHeld CAimed CBound XRodsError XLockError XRuleError XFoldError)) (P := P) (wl := wl) (mg := mg) (base := base) (fun_mk (st := st_read) l_read c_read k_read) g_AIMS g_HINGES v_Rule_MOST_LENGTH v_Rule_MOST_RODS c_cut g_STRAIGHT c_numbers_of g_FOLDED g_RIGHT g_LEFT gm_Bound k_Bound_straight_folded_right_left
  have D_law_cell := def_law_cell (w := (wdOf K CRule CHeld CAimed CBound XRodsError XLockError XRuleError XFoldError)) (P := P) (wl := wl) (mg := mg) (base := base) (fun_mk (st := st_law_cell) l_law_cell c_law_cell k_law_cell) m_len
  have m_max : mg "max" = none := PySem.W.mg_none_of X G z_max
  have D_law_source := def_law_source (w := (wdOf K CRule CHeld CAimed CBound XRodsError XLockError XRuleError XFoldError)) (P := P) (wl := wl) (mg := mg) (base := base) (fun_mk (st := st_law_source) l_law_source c_law_source k_law_source) m_max
  have D_law_draw := def_law_draw (w := (wdOf K CRule CHeld CAimed CBound XRodsError XLockError XRuleError XFoldError)) (P := P) (wl := wl) (mg := mg) (base := base) (fun_mk (st := st_law_draw) l_law_draw c_law_draw k_law_draw) 
  have c_law_draw : Cal P wl mg base (wdOf K CRule CHeld CAimed CBound XRodsError XLockError XRuleError XFoldError) false false 1 "_law_draw" φ_law_draw := ⟨f_law_draw, D_law_draw, PySem.W.mg_of X G a_law_draw⟩
  have D_law_choose := def_law_choose (w := (wdOf K CRule CHeld CAimed CBound XRodsError XLockError XRuleError XFoldError)) (P := P) (wl := wl) (mg := mg) (base := base) (fun_mk (st := st_law_choose) l_law_choose c_law_choose k_law_choose) m_len c_law_draw
  have m_repr : mg "repr" = none := PySem.W.mg_none_of X G z_repr
  have D_law_is_equal := def_law_is_equal (w := (wdOf K CRule CHeld CAimed CBound XRodsError XLockError XRuleError XFoldError)) (P := P) (wl := wl) (mg := mg) (base := base) (fun_mk (st := st_law_is_equal) l_law_is_equal c_law_is_equal k_law_is_equal) hS m_repr
  have m_range : mg "range" = none := PySem.W.mg_none_of X G z_range
  have D_law_rods := def_law_rods (w := (wdOf K CRule CHeld CAimed CBound XRodsError XLockError XRuleError XFoldError)) (P := P) (wl := wl) (mg := mg) (base := base) (fun_mk (st := st_law_rods) l_law_rods c_law_rods k_law_rods) c_law_draw m_range m_max
  have D_law_option := def_law_option (w := (wdOf K CRule CHeld CAimed CBound XRodsError XLockError XRuleError XFoldError)) (P := P) (wl := wl) (mg := mg) (base := base) (fun_mk (st := st_law_option) l_law_option c_law_option k_law_option) m_range c_law_draw m_len m_tuple
  have c_law_option : Cal P wl mg base (wdOf K CRule CHeld CAimed CBound XRodsError XLockError XRuleError XFoldError) false false 2 "_law_option" φ_law_option := ⟨f_law_option, D_law_option, PySem.W.mg_of X G a_law_option⟩
  have D_law_options := def_law_options (w := (wdOf K CRule CHeld CAimed CBound XRodsError XLockError XRuleError XFoldError)) (P := P) (wl := wl) (mg := mg) (base := base) (fun_mk (st := st_law_options) l_law_options c_law_options k_law_options) c_law_option
  have D_law_text := def_law_text (w := (wdOf K CRule CHeld CAimed CBound XRodsError XLockError XRuleError XFoldError)) (P := P) (wl := wl) (mg := mg) (base := base) (fun_mk (st := st_law_text) l_law_text c_law_text k_law_text) m_enumerate m_str
  have k_Held_straight_folded : Mak P wl mg base (wdOf K CRule CHeld CAimed CBound XRodsError XLockError XRuleError XFoldError) true 4 .held ["straight", "folded"] φ_Held___init id := ⟨f_Held___init, id, ⟨mk_Held, if_Held, j_Held___init, kC_Held⟩, I_Held___init_straight_folded, gv_id⟩
  have k_Held_folded_straight : Mak P wl mg base (wdOf K CRule CHeld CAimed CBound XRodsError XLockError XRuleError XFoldError) true 4 .held ["folded", "straight"] φ_Held___init swap2 := ⟨f_Held___init, swap2, ⟨mk_Held, if_Held, j_Held___init, kC_Held⟩, I_Held___init_folded_straight, gv_swap2⟩
  have D_law_held := def_law_held (w := (wdOf K CRule CHeld CAimed CBound XRodsError XLockError XRuleError XFoldError)) (P := P) (wl := wl) (mg := mg) (base := base) (fun_mk (st := st_law_held) l_law_held c_law_held k_law_held) m_len gm_Held k_Held_straight_folded k_Held_folded_straight
  have k_Aimed_right_left : Mak P wl mg base (wdOf K CRule CHeld CAimed CBound XRodsError XLockError XRuleError XFoldError) true 4 .aimed ["right", "left"] φ_Aimed___init id := ⟨f_Aimed___init, id, ⟨mk_Aimed, if_Aimed, j_Aimed___init, kC_Aimed⟩, I_Aimed___init_right_left, gv_id⟩
  have k_Aimed_left_right : Mak P wl mg base (wdOf K CRule CHeld CAimed CBound XRodsError XLockError XRuleError XFoldError) true 4 .aimed ["left", "right"] φ_Aimed___init swap2 := ⟨f_Aimed___init, swap2, ⟨mk_Aimed, if_Aimed, j_Aimed___init, kC_Aimed⟩, I_Aimed___init_left_right, gv_swap2⟩
  have D_law_aimed := def_law_aimed (w := (wdOf K CRule CHeld CAimed CBound XRodsError XLockError XRuleError XFoldError)) (P := P) (wl := wl) (mg := mg) (base := base) (fun_mk (st := st_law_aimed) l_law_aimed c_law_aimed k_law_aimed) m_len gm_Aimed k_Aimed_right_left k_Aimed_left_right
  have D_law_told := def_law_told (w := (wdOf K CRule CHeld CAimed CBound XRodsError XLockError XRuleError XFoldError)) (P := P) (wl := wl) (mg := mg) (base := base) (fun_mk (st := st_law_told) l_law_told c_law_told k_law_told) o_options p_rods
  have D_law_due := def_law_due (w := (wdOf K CRule CHeld CAimed CBound XRodsError XLockError XRuleError XFoldError)) (P := P) (wl := wl) (mg := mg) (base := base) (fun_mk (st := st_law_due) l_law_due c_law_due k_law_due) m_len m_sorted m_tuple
  have c_law_told : Cal P wl mg base (wdOf K CRule CHeld CAimed CBound XRodsError XLockError XRuleError XFoldError) false false 3 "_law_told" φ_law_told := ⟨f_law_told, D_law_told, PySem.W.mg_of X G a_law_told⟩
  have c_flipped : Cal P wl mg base (wdOf K CRule CHeld CAimed CBound XRodsError XLockError XRuleError XFoldError) false true 7 "flipped" φ_flipped := ⟨f_flipped, D_flipped, PySem.W.mg_of X G a_flipped⟩
  have i_Bound : IsiF (wdOf K CRule CHeld CAimed CBound XRodsError XLockError XRuleError XFoldError) (.ref CBound) (tCls (onRules false false false true)) := by
    intro k b h
    cases k with
    | non => cases h; exact ⟨kit_tref (kit_ref iC_Bound tC_Bound s_non_Bound), fun _ z => nomatch z⟩
    | bl => cases h; exact ⟨kit_tref (kit_ref iC_Bound tC_Bound s_bl_Bound), fun _ z => nomatch z⟩
    | int => cases h; exact ⟨kit_tref (kit_ref iC_Bound tC_Bound s_int_Bound), fun _ z => nomatch z⟩
    | str => cases h; exact ⟨kit_tref (kit_ref iC_Bound tC_Bound s_str_Bound), fun _ z => nomatch z⟩
    | lst => cases h; exact ⟨kit_tref (kit_ref iC_Bound tC_Bound s_lst_Bound), fun _ z => nomatch z⟩
    | tup => cases h; exact ⟨kit_tref (kit_ref iC_Bound tC_Bound s_tup_Bound), fun _ z => nomatch z⟩
    | dct => cases h; exact ⟨kit_tref (kit_ref iC_Bound tC_Bound s_dct_Bound), fun _ z => nomatch z⟩
    | obj c => cases c with
      | rule => cases h; exact ⟨kit_ne d_Rule_Bound (kit_ref iC_Bound tC_Bound s_Rule_Bound), fun _ z => by cases z; exact ci_Rule⟩
      | held => cases h; exact ⟨kit_ne d_Held_Bound (kit_ref iC_Bound tC_Bound s_Held_Bound), fun _ z => by cases z; exact ci_Held⟩
      | aimed => cases h; exact ⟨kit_ne d_Aimed_Bound (kit_ref iC_Bound tC_Bound s_Aimed_Bound), fun _ z => by cases z; exact ci_Aimed⟩
      | bound => cases h; exact ⟨kit_same, fun _ z => by cases z; exact ci_Bound⟩
      | _ => cases h
  have c_law_due : Cal P wl mg base (wdOf K CRule CHeld CAimed CBound XRodsError XLockError XRuleError XFoldError) false false 1 "_law_due" φ_law_due := ⟨f_law_due, D_law_due, PySem.W.mg_of X G a_law_due⟩
  have c_law_is_equal : Cal P wl mg base (wdOf K CRule CHeld CAimed CBound XRodsError XLockError XRuleError XFoldError) true false 1 "_law_is_equal" φ_law_is_equal := ⟨f_law_is_equal, D_law_is_equal, PySem.W.mg_of X G a_law_is_equal⟩
  have D_law_is_right := def_law_is_right (w := (wdOf K CRule CHeld CAimed CBound XRodsError XLockError XRuleError XFoldError)) (P := P) (wl := wl) (mg := mg) (base := base) (fun_mk (st := st_law_is_right) l_law_is_right c_law_is_right k_law_is_right) c_law_told hS m_repr c_flipped m_isinstance gm_Bound i_Bound c_law_due c_law_is_equal m_sorted m_tuple
  have h_RuleError : Cth (wdOf K CRule CHeld CAimed CBound XRodsError XLockError XRuleError XFoldError) mg "RuleError" .rule mt_RuleError := by
    refine ⟨PySem.W.mg_of X G a_RuleError, fun y hy => ?_⟩
    rcases hy with rfl | rfl | rfl
    · exact exm_ref bE_RuleError (kit_ref iC_RuleError tC_RuleError sx_RodsError_RuleError)
    · exact exm_ref bE_RuleError (kit_ref iC_RuleError tC_RuleError sx_LockError_RuleError)
    · exact exm_ref bE_RuleError (kit_ref iC_RuleError tC_RuleError sx_RuleError_RuleError)
  have D_law_is_refused := def_law_is_refused (w := (wdOf K CRule CHeld CAimed CBound XRodsError XLockError XRuleError XFoldError)) (P := P) (wl := wl) (mg := mg) (base := base) (fun_mk (st := st_law_is_refused) l_law_is_refused c_law_is_refused k_law_is_refused) c_flipped h_RuleError
  have m_min : mg "min" = none := PySem.W.mg_none_of X G z_min
  have c_law_cell : Cal P wl mg base (wdOf K CRule CHeld CAimed CBound XRodsError XLockError XRuleError XFoldError) false false 1 "_law_cell" φ_law_cell := ⟨f_law_cell, D_law_cell, PySem.W.mg_of X G a_law_cell⟩
  have c_law_source : Cal P wl mg base (wdOf K CRule CHeld CAimed CBound XRodsError XLockError XRuleError XFoldError) false false 1 "_law_source" φ_law_source := ⟨f_law_source, D_law_source, PySem.W.mg_of X G a_law_source⟩
  have c_law_rods : Cal P wl mg base (wdOf K CRule CHeld CAimed CBound XRodsError XLockError XRuleError XFoldError) false false 2 "_law_rods" φ_law_rods := ⟨f_law_rods, D_law_rods, PySem.W.mg_of X G a_law_rods⟩
  have c_law_options : Cal P wl mg base (wdOf K CRule CHeld CAimed CBound XRodsError XLockError XRuleError XFoldError) false false 3 "_law_options" φ_law_options := ⟨f_law_options, D_law_options, PySem.W.mg_of X G a_law_options⟩
  have c_law_text : Cal P wl mg base (wdOf K CRule CHeld CAimed CBound XRodsError XLockError XRuleError XFoldError) false false 1 "_law_text" φ_law_text := ⟨f_law_text, D_law_text, PySem.W.mg_of X G a_law_text⟩
  have c_read : Cal P wl mg base (wdOf K CRule CHeld CAimed CBound XRodsError XLockError XRuleError XFoldError) false true 7 "read" φ_read := ⟨f_read, D_read, PySem.W.mg_of X G a_read⟩
  have c_law_is_right : Cal P wl mg base (wdOf K CRule CHeld CAimed CBound XRodsError XLockError XRuleError XFoldError) true true 8 "_law_is_right" φ_law_is_right := ⟨f_law_is_right, D_law_is_right, PySem.W.mg_of X G a_law_is_right⟩
  have c_law_held : Cal P wl mg base (wdOf K CRule CHeld CAimed CBound XRodsError XLockError XRuleError XFoldError) false true 6 "_law_held" φ_law_held := ⟨f_law_held, D_law_held, PySem.W.mg_of X G a_law_held⟩
  have c_law_aimed : Cal P wl mg base (wdOf K CRule CHeld CAimed CBound XRodsError XLockError XRuleError XFoldError) false true 6 "_law_aimed" φ_law_aimed := ⟨f_law_aimed, D_law_aimed, PySem.W.mg_of X G a_law_aimed⟩
  have t_Rule_plain : Cmt P wl mg base (wdOf K CRule CHeld CAimed CBound XRodsError XLockError XRuleError XFoldError) true 5 .rule "plain" φ_Rule_plain := ⟨.type "type", ps_plain, f_Rule_plain, ⟨rd_Rule, sp_Rule⟩, ⟨sm_plain, ⟨_, sr_plain⟩, fi_Rule_plain⟩, D_Rule_plain⟩
  have c_law_choose : Cal P wl mg base (wdOf K CRule CHeld CAimed CBound XRodsError XLockError XRuleError XFoldError) false false 2 "_law_choose" φ_law_choose := ⟨f_law_choose, D_law_choose, PySem.W.mg_of X G a_law_choose⟩
  have c_law_is_refused : Cal P wl mg base (wdOf K CRule CHeld CAimed CBound XRodsError XLockError XRuleError XFoldError) false false 8 "_law_is_refused" φ_law_is_refused := ⟨f_law_is_refused, D_law_is_refused, PySem.W.mg_of X G a_law_is_refused⟩
  have h_FoldError : Cth (wdOf K CRule CHeld CAimed CBound XRodsError XLockError XRuleError XFoldError) mg "FoldError" .fold mt_FoldError := by
    refine ⟨PySem.W.mg_of X G a_FoldError, fun y hy => ?_⟩
    rcases hy with rfl | rfl | rfl
    · exact exm_ref bE_FoldError (kit_ref iC_FoldError tC_FoldError sx_RodsError_FoldError)
    · exact exm_ref bE_FoldError (kit_ref iC_FoldError tC_FoldError sx_LockError_FoldError)
    · exact exm_ref bE_FoldError (kit_ref iC_FoldError tC_FoldError sx_RuleError_FoldError)
  have D_law := fnx_law (w := (wdOf K CRule CHeld CAimed CBound XRodsError XLockError XRuleError XFoldError)) (P := P) (wl := wl) (mg := mg) (base := base) (fun_mk (st := st_law) l_law c_law k_law) m_len m_min m_max m_range c_law_cell c_law_source c_law_rods c_law_options c_law_text c_read c_law_is_right c_law_held c_law_aimed m_str t_Rule_plain gm_Rule c_law_choose c_law_is_refused h_FoldError
  exact R7.FnG.imp D_law.g fun vs H Q E z => R7.end_D hφ z
end M7
namespace R7
open PySem PySem.Spec PyProof.Rows L2
theorem fin_D {P : Program} {w : World} {K : PySem.W.Frag} {h : Heap} {mg : Str → Option Value} {fa : Addr} {n : Str} {f : Addr} {k : Nat} (X : K.In h) (G : h.Ns mainGlobals mg) (hmg : mg n = some (.ref fa)) (hn : n = "law") (a : PySem.W.nsIn K mainGlobals "law" = some (some (.ref f)))
    (hk : ∃ fd : FuncData, (∀ (s : Shared) (u : Value), BindsTo s fd ⟨[u], []⟩ [("_law_script", u)]) ∧ ∀ base : Heap, K.In base → base.Ns mainGlobals mg → SysB base → FnG P w K mg base CX0 k f fd ["_law_script"] (spEnd K)) :
    ∃ fd : FuncData, (∀ (s : Shared) (u : Value), BindsTo s fd ⟨[u], []⟩ [("_law_script", u)]) ∧ ∀ base : Heap, K.In base → base.Ns mainGlobals mg → SysB base → FnG P w K mg base CX0 k fa fd ["_law_script"] (spEnd K) := by
  subst hn
  have e := hmg.symm.trans (PySem.W.mg_of X G a)
  cases e
  exact hk
end R7
open PySem PySem.W PyProof.Rows
set_option maxRecDepth 100000 in
set_option maxHeartbeats 0 in
theorem PySem.Challenge.cw_rodturns_k04_rules_read_from_the_other_e_holds : PySem.Challenge.rw_rodturns_k04_rules_read_from_the_other_e.Holds := by
  w_on; o_law; k_head; (case hw => w_witness2)
  k_fill
  refine R7.walk_endD (l := PySem.Challenge.rw_rodturns_k04_rules_read_from_the_other_e) (k := 9) (x := "_law_script") rfl rfl (by first | rfl | kernel_rfl | decide +kernel) ⟨rfl, by decide, by decide⟩ (fun w h Y => PySem.W.kIn_of Y) ?F
  case F =>
    intro w mg fa h Y KX G hmg
    refine' R7.fin_D KX G hmg rfl ?aLa0 (M7.all_04 KX G ?z_isinstance ?z_int ?z_bool ?z_len ?a_FIRST_DIGITS ?a_letter_at ?a_DIGITS ?z_str ?a_length_size ?a_is_integer ?a_Rule ?a_RodsError ?z_all ?z_list ?a_NO_AIMS ?a_FREE ?a_cut ?z_tuple ?a_LockError ?z_set ?a_check_option ?z_any ?z_sorted ?a_option_pair ?a_Held ?a_Aimed ?a_RuleError ?a_OPTIONS ?a_check_rule ?a_all_options ?a_from_other_end ?a_Bound ?z_enumerate ?a_AIMS ?a_HINGES ?a_STRAIGHT ?a_numbers_of ?a_FOLDED ?a_RIGHT ?a_LEFT ?z_max ?a_law_draw ?z_repr ?z_range ?a_law_option ?a_law_told ?a_flipped ?a_law_due ?a_law_is_equal ?z_min ?a_law_cell ?a_law_source ?a_law_rods ?a_law_options ?a_law_text ?a_read ?a_law_is_right ?a_law_held ?a_law_aimed ?a_law_choose ?a_law_is_refused ?a_FoldError ?a_law ?fv_Rule_MOST_LENGTH ?fv_Rule_MOST_RODS ?sm_is_rod ?sa_Rule ?n_rods_Rule ?sa_Held ?n_rods_Held ?sa_Aimed ?n_rods_Aimed ?sa_Bound ?n_rods_Bound ?if_Rule ?fc_Rule ?n_folded_Rule ?n_folded_Held ?n_folded_Aimed ?n_folded_Bound ?n_straight_Rule ?n_straight_Held ?n_straight_Aimed ?n_straight_Bound ?n_left_Rule ?n_left_Held ?n_left_Aimed ?n_left_Bound ?n_right_Rule ?n_right_Held ?n_right_Aimed ?n_right_Bound ?fc_Held ?fc_Aimed ?hc_Rule ?hc_Held ?hc_Aimed ?hc_Bound ?mf_Rule_options ?mf_Held_options ?mf_Aimed_options ?mf_Bound_options ?pf_Rule_rods ?pf_Held_rods ?pf_Aimed_rods ?pf_Bound_rods ?if_Bound ?if_Held ?if_Aimed ?sm_plain ?sr_is_rod ?pr_rods ?sr_plain ?l_is_integer ?l_letter_at ?l_length_size ?l_cut ?l_Rule_is_rod ?l_Rule___init ?l_Rule_rods ?l_Rule_options ?l_Rule_plain ?l_check_option ?l_option_pair ?l_Held___init ?l_Held_options ?l_Aimed___init ?l_Aimed_options ?l_Bound___init ?l_Bound_options ?l_check_rule ?l_all_options ?l_OPTIONS ?l_from_other_end ?l_flipped ?l_numbers_of ?l_read ?l_law_cell ?l_law_source ?l_law_draw ?l_law_choose ?l_law_is_equal ?l_law_rods ?l_law_option ?l_law_options ?l_law_text ?l_law_held ?l_law_aimed ?l_law_told ?l_law_due ?l_law_is_right ?l_law_is_refused ?l_law ?c_is_integer ?k_is_integer ?c_letter_at ?k_letter_at ?c_length_size ?k_length_size ?c_cut ?k_cut ?c_Rule_is_rod ?k_Rule_is_rod ?rd_Rule ?sp_Rule ?c_Rule___init ?k_Rule___init ?xE_RodsError ?kE_RodsError ?bE_RodsError ?tC_RodsError ?pg_Rule ?hd_Rule ?po_Rule ?pg_Held ?hd_Held ?po_Held ?pg_Aimed ?hd_Aimed ?po_Aimed ?pg_Bound ?hd_Bound ?po_Bound ?c_Rule_rods ?k_Rule_rods ?c_Rule_options ?k_Rule_options ?c_Rule_plain ?k_Rule_plain ?mk_Rule ?j_Rule___init ?kC_Rule ?c_check_option ?k_check_option ?xE_LockError ?kE_LockError ?bE_LockError ?tC_LockError ?c_option_pair ?k_option_pair ?c_Held___init ?k_Held___init ?c_Held_options ?k_Held_options ?c_Aimed___init ?k_Aimed___init ?c_Aimed_options ?k_Aimed_options ?c_Bound___init ?k_Bound___init ?rd_Held ?sp_Held ?rd_Aimed ?sp_Aimed ?c_Bound_options ?k_Bound_options ?c_check_rule ?k_check_rule ?iC_Rule ?tC_Rule ?s_non_Rule ?s_bl_Rule ?s_int_Rule ?s_str_Rule ?s_lst_Rule ?s_tup_Rule ?s_dct_Rule ?hcn ?hct ?hm_Rule ?s_Held_Rule ?hm_Held ?s_Aimed_Rule ?hm_Aimed ?s_Bound_Rule ?hm_Bound ?xE_RuleError ?kE_RuleError ?bE_RuleError ?tC_RuleError ?c_all_options ?k_all_options ?j_Rule_options ?j_Held_options ?j_Aimed_options ?j_Bound_options ?c_from_other_end ?k_from_other_end ?c_flipped ?k_flipped ?pg_rods_ ?pt_rods ?mk_Bound ?j_Bound___init ?kC_Bound ?c_numbers_of ?k_numbers_of ?c_read ?k_read ?c_law_cell ?k_law_cell ?c_law_source ?k_law_source ?c_law_draw ?k_law_draw ?c_law_choose ?k_law_choose ?c_law_is_equal ?k_law_is_equal ?c_law_rods ?k_law_rods ?c_law_option ?k_law_option ?c_law_options ?k_law_options ?c_law_text ?k_law_text ?c_law_held ?k_law_held ?mk_Held ?j_Held___init ?kC_Held ?c_law_aimed ?k_law_aimed ?mk_Aimed ?j_Aimed___init ?kC_Aimed ?c_law_told ?k_law_told ?c_law_due ?k_law_due ?c_law_is_right ?k_law_is_right ?iC_Bound ?tC_Bound ?s_non_Bound ?s_bl_Bound ?s_int_Bound ?s_str_Bound ?s_lst_Bound ?s_tup_Bound ?s_dct_Bound ?s_Rule_Bound ?s_Held_Bound ?s_Aimed_Bound ?c_law_is_refused ?k_law_is_refused ?sx_RodsError_RuleError ?iC_RuleError ?sx_LockError_RuleError ?sx_RuleError_RuleError ?c_law ?k_law ?fi_Rule_plain ?bE_FoldError ?sx_RodsError_FoldError ?iC_FoldError ?tC_FoldError ?sx_LockError_FoldError ?sx_RuleError_FoldError ?d_Held_Rule ?d_Aimed_Rule ?d_Bound_Rule ?d_Rule_Bound ?d_Held_Bound ?d_Aimed_Bound M7.pure_04)
    (case z_isinstance => first | k_is | rfl | kernel_rfl | decide +kernel)
    (case z_int => first | k_is | rfl | kernel_rfl | decide +kernel)
    (case z_bool => first | k_is | rfl | kernel_rfl | decide +kernel)
    (case z_len => first | k_is | rfl | kernel_rfl | decide +kernel)
    (case a_FIRST_DIGITS => first | k_is | rfl | kernel_rfl | decide +kernel)
    (case a_letter_at => first | k_is | rfl | kernel_rfl | decide +kernel)
    (case a_DIGITS => first | k_is | rfl | kernel_rfl | decide +kernel)
    (case z_str => first | k_is | rfl | kernel_rfl | decide +kernel)
    (case a_length_size => first | k_is | rfl | kernel_rfl | decide +kernel)
    (case a_is_integer => first | k_is | rfl | kernel_rfl | decide +kernel)
    (case a_Rule => first | k_is | rfl | kernel_rfl | decide +kernel)
    (case a_RodsError => first | k_is | rfl | kernel_rfl | decide +kernel)
    (case z_all => first | k_is | rfl | kernel_rfl | decide +kernel)
    (case z_list => first | k_is | rfl | kernel_rfl | decide +kernel)
    (case a_NO_AIMS => first | k_is | rfl | kernel_rfl | decide +kernel)
    (case a_FREE => first | k_is | rfl | kernel_rfl | decide +kernel)
    (case a_cut => first | k_is | rfl | kernel_rfl | decide +kernel)
    (case z_tuple => first | k_is | rfl | kernel_rfl | decide +kernel)
    (case a_LockError => first | k_is | rfl | kernel_rfl | decide +kernel)
    (case z_set => first | k_is | rfl | kernel_rfl | decide +kernel)
    (case a_check_option => first | k_is | rfl | kernel_rfl | decide +kernel)
    (case z_any => first | k_is | rfl | kernel_rfl | decide +kernel)
    (case z_sorted => first | k_is | rfl | kernel_rfl | decide +kernel)
    (case a_option_pair => first | k_is | rfl | kernel_rfl | decide +kernel)
    (case a_Held => first | k_is | rfl | kernel_rfl | decide +kernel)
    (case a_Aimed => first | k_is | rfl | kernel_rfl | decide +kernel)
    (case a_RuleError => first | k_is | rfl | kernel_rfl | decide +kernel)
    (case a_OPTIONS => first | k_is | rfl | kernel_rfl | decide +kernel)
    (case a_check_rule => first | k_is | rfl | kernel_rfl | decide +kernel)
    (case a_all_options => first | k_is | rfl | kernel_rfl | decide +kernel)
    (case a_from_other_end => first | k_is | rfl | kernel_rfl | decide +kernel)
    (case a_Bound => first | k_is | rfl | kernel_rfl | decide +kernel)
    (case z_enumerate => first | k_is | rfl | kernel_rfl | decide +kernel)
    (case a_AIMS => first | k_is | rfl | kernel_rfl | decide +kernel)
    (case a_HINGES => first | k_is | rfl | kernel_rfl | decide +kernel)
    (case a_STRAIGHT => first | k_is | rfl | kernel_rfl | decide +kernel)
    (case a_numbers_of => first | k_is | rfl | kernel_rfl | decide +kernel)
    (case a_FOLDED => first | k_is | rfl | kernel_rfl | decide +kernel)
    (case a_RIGHT => first | k_is | rfl | kernel_rfl | decide +kernel)
    (case a_LEFT => first | k_is | rfl | kernel_rfl | decide +kernel)
    (case z_max => first | k_is | rfl | kernel_rfl | decide +kernel)
    (case a_law_draw => first | k_is | rfl | kernel_rfl | decide +kernel)
    (case z_repr => first | k_is | rfl | kernel_rfl | decide +kernel)
    (case z_range => first | k_is | rfl | kernel_rfl | decide +kernel)
    (case a_law_option => first | k_is | rfl | kernel_rfl | decide +kernel)
    (case a_law_told => first | k_is | rfl | kernel_rfl | decide +kernel)
    (case a_flipped => first | k_is | rfl | kernel_rfl | decide +kernel)
    (case a_law_due => first | k_is | rfl | kernel_rfl | decide +kernel)
    (case a_law_is_equal => first | k_is | rfl | kernel_rfl | decide +kernel)
    (case z_min => first | k_is | rfl | kernel_rfl | decide +kernel)
    (case a_law_cell => first | k_is | rfl | kernel_rfl | decide +kernel)
    (case a_law_source => first | k_is | rfl | kernel_rfl | decide +kernel)
    (case a_law_rods => first | k_is | rfl | kernel_rfl | decide +kernel)
    (case a_law_options => first | k_is | rfl | kernel_rfl | decide +kernel)
    (case a_law_text => first | k_is | rfl | kernel_rfl | decide +kernel)
    (case a_read => first | k_is | rfl | kernel_rfl | decide +kernel)
    (case a_law_is_right => first | k_is | rfl | kernel_rfl | decide +kernel)
    (case a_law_held => first | k_is | rfl | kernel_rfl | decide +kernel)
    (case a_law_aimed => first | k_is | rfl | kernel_rfl | decide +kernel)
    (case a_law_choose => first | k_is | rfl | kernel_rfl | decide +kernel)
    (case a_law_is_refused => first | k_is | rfl | kernel_rfl | decide +kernel)
    (case a_FoldError => first | k_is | rfl | kernel_rfl | decide +kernel)
    (case a_law => first | k_is | rfl | kernel_rfl | decide +kernel)
    (case fv_Rule_MOST_LENGTH => first | k_is | rfl | kernel_rfl | decide +kernel)
    (case fv_Rule_MOST_RODS => first | k_is | rfl | kernel_rfl | decide +kernel)
    (case sm_is_rod => first | k_is | rfl | kernel_rfl | decide +kernel)
    (case sa_Rule => first | k_is | rfl | kernel_rfl | decide +kernel)
    (case n_rods_Rule => first | k_is | rfl | kernel_rfl | decide +kernel)
    (case sa_Held => first | k_is | rfl | kernel_rfl | decide +kernel)
    (case n_rods_Held => first | k_is | rfl | kernel_rfl | decide +kernel)
    (case sa_Aimed => first | k_is | rfl | kernel_rfl | decide +kernel)
    (case n_rods_Aimed => first | k_is | rfl | kernel_rfl | decide +kernel)
    (case sa_Bound => first | k_is | rfl | kernel_rfl | decide +kernel)
    (case n_rods_Bound => first | k_is | rfl | kernel_rfl | decide +kernel)
    (case if_Rule => first | k_is | rfl | kernel_rfl | decide +kernel)
    (case fc_Rule => first | k_is | rfl | kernel_rfl | decide +kernel)
    (case n_folded_Rule => first | k_is | rfl | kernel_rfl | decide +kernel)
    (case n_folded_Held => first | k_is | rfl | kernel_rfl | decide +kernel)
    (case n_folded_Aimed => first | k_is | rfl | kernel_rfl | decide +kernel)
    (case n_folded_Bound => first | k_is | rfl | kernel_rfl | decide +kernel)
    (case n_straight_Rule => first | k_is | rfl | kernel_rfl | decide +kernel)
    (case n_straight_Held => first | k_is | rfl | kernel_rfl | decide +kernel)
    (case n_straight_Aimed => first | k_is | rfl | kernel_rfl | decide +kernel)
    (case n_straight_Bound => first | k_is | rfl | kernel_rfl | decide +kernel)
    (case n_left_Rule => first | k_is | rfl | kernel_rfl | decide +kernel)
    (case n_left_Held => first | k_is | rfl | kernel_rfl | decide +kernel)
    (case n_left_Aimed => first | k_is | rfl | kernel_rfl | decide +kernel)
    (case n_left_Bound => first | k_is | rfl | kernel_rfl | decide +kernel)
    (case n_right_Rule => first | k_is | rfl | kernel_rfl | decide +kernel)
    (case n_right_Held => first | k_is | rfl | kernel_rfl | decide +kernel)
    (case n_right_Aimed => first | k_is | rfl | kernel_rfl | decide +kernel)
    (case n_right_Bound => first | k_is | rfl | kernel_rfl | decide +kernel)
    (case fc_Held => first | k_is | rfl | kernel_rfl | decide +kernel)
    (case fc_Aimed => first | k_is | rfl | kernel_rfl | decide +kernel)
    (case hc_Rule => first | k_is | rfl | kernel_rfl | decide +kernel)
    (case hc_Held => first | k_is | rfl | kernel_rfl | decide +kernel)
    (case hc_Aimed => first | k_is | rfl | kernel_rfl | decide +kernel)
    (case hc_Bound => first | k_is | rfl | kernel_rfl | decide +kernel)
    (case mf_Rule_options => first | k_is | rfl | kernel_rfl | decide +kernel)
    (case mf_Held_options => first | k_is | rfl | kernel_rfl | decide +kernel)
    (case mf_Aimed_options => first | k_is | rfl | kernel_rfl | decide +kernel)
    (case mf_Bound_options => first | k_is | rfl | kernel_rfl | decide +kernel)
    (case pf_Rule_rods => first | k_is | rfl | kernel_rfl | decide +kernel)
    (case pf_Held_rods => first | k_is | rfl | kernel_rfl | decide +kernel)
    (case pf_Aimed_rods => first | k_is | rfl | kernel_rfl | decide +kernel)
    (case pf_Bound_rods => first | k_is | rfl | kernel_rfl | decide +kernel)
    (case if_Bound => first | k_is | rfl | kernel_rfl | decide +kernel)
    (case if_Held => first | k_is | rfl | kernel_rfl | decide +kernel)
    (case if_Aimed => first | k_is | rfl | kernel_rfl | decide +kernel)
    (case sm_plain => first | k_is | rfl | kernel_rfl | decide +kernel)
    (case sr_is_rod => first | k_is | rfl | kernel_rfl | decide +kernel)
    (case pr_rods => first | k_is | rfl | kernel_rfl | decide +kernel)
    (case sr_plain => first | k_is | rfl | kernel_rfl | decide +kernel)
    (case l_is_integer => first | k_is | rfl | kernel_rfl | decide +kernel)
    (case l_letter_at => first | k_is | rfl | kernel_rfl | decide +kernel)
    (case l_length_size => first | k_is | rfl | kernel_rfl | decide +kernel)
    (case l_cut => first | k_is | rfl | kernel_rfl | decide +kernel)
    (case l_Rule_is_rod => first | k_is | rfl | kernel_rfl | decide +kernel)
    (case l_Rule___init => first | k_is | rfl | kernel_rfl | decide +kernel)
    (case l_Rule_rods => first | k_is | rfl | kernel_rfl | decide +kernel)
    (case l_Rule_options => first | k_is | rfl | kernel_rfl | decide +kernel)
    (case l_Rule_plain => first | k_is | rfl | kernel_rfl | decide +kernel)
    (case l_check_option => first | k_is | rfl | kernel_rfl | decide +kernel)
    (case l_option_pair => first | k_is | rfl | kernel_rfl | decide +kernel)
    (case l_Held___init => first | k_is | rfl | kernel_rfl | decide +kernel)
    (case l_Held_options => first | k_is | rfl | kernel_rfl | decide +kernel)
    (case l_Aimed___init => first | k_is | rfl | kernel_rfl | decide +kernel)
    (case l_Aimed_options => first | k_is | rfl | kernel_rfl | decide +kernel)
    (case l_Bound___init => first | k_is | rfl | kernel_rfl | decide +kernel)
    (case l_Bound_options => first | k_is | rfl | kernel_rfl | decide +kernel)
    (case l_check_rule => first | k_is | rfl | kernel_rfl | decide +kernel)
    (case l_all_options => first | k_is | rfl | kernel_rfl | decide +kernel)
    (case l_OPTIONS => first | k_is | rfl | kernel_rfl | decide +kernel)
    (case l_from_other_end => first | k_is | rfl | kernel_rfl | decide +kernel)
    (case l_flipped => first | k_is | rfl | kernel_rfl | decide +kernel)
    (case l_numbers_of => first | k_is | rfl | kernel_rfl | decide +kernel)
    (case l_read => first | k_is | rfl | kernel_rfl | decide +kernel)
    (case l_law_cell => first | k_is | rfl | kernel_rfl | decide +kernel)
    (case l_law_source => first | k_is | rfl | kernel_rfl | decide +kernel)
    (case l_law_draw => first | k_is | rfl | kernel_rfl | decide +kernel)
    (case l_law_choose => first | k_is | rfl | kernel_rfl | decide +kernel)
    (case l_law_is_equal => first | k_is | rfl | kernel_rfl | decide +kernel)
    (case l_law_rods => first | k_is | rfl | kernel_rfl | decide +kernel)
    (case l_law_option => first | k_is | rfl | kernel_rfl | decide +kernel)
    (case l_law_options => first | k_is | rfl | kernel_rfl | decide +kernel)
    (case l_law_text => first | k_is | rfl | kernel_rfl | decide +kernel)
    (case l_law_held => first | k_is | rfl | kernel_rfl | decide +kernel)
    (case l_law_aimed => first | k_is | rfl | kernel_rfl | decide +kernel)
    (case l_law_told => first | k_is | rfl | kernel_rfl | decide +kernel)
    (case l_law_due => first | k_is | rfl | kernel_rfl | decide +kernel)
    (case l_law_is_right => first | k_is | rfl | kernel_rfl | decide +kernel)
    (case l_law_is_refused => first | k_is | rfl | kernel_rfl | decide +kernel)
    (case l_law => first | k_is | rfl | kernel_rfl | decide +kernel)
    (case c_is_integer => first | k_is | rfl | kernel_rfl | decide +kernel)
    (case k_is_integer => first | k_is | rfl | kernel_rfl | decide +kernel)
    (case c_letter_at => first | k_is | rfl | kernel_rfl | decide +kernel)
    (case k_letter_at => first | k_is | rfl | kernel_rfl | decide +kernel)
    (case c_length_size => first | k_is | rfl | kernel_rfl | decide +kernel)
    (case k_length_size => first | k_is | rfl | kernel_rfl | decide +kernel)
    (case c_cut => first | k_is | rfl | kernel_rfl | decide +kernel)
    (case k_cut => first | k_is | rfl | kernel_rfl | decide +kernel)
    (case c_Rule_is_rod => first | k_is | rfl | kernel_rfl | decide +kernel)
    (case k_Rule_is_rod => first | k_is | rfl | kernel_rfl | decide +kernel)
    (case rd_Rule => first | k_is | rfl | kernel_rfl | decide +kernel)
    (case sp_Rule => first | k_is | rfl | kernel_rfl | decide +kernel)
    (case c_Rule___init => first | k_is | rfl | kernel_rfl | decide +kernel)
    (case k_Rule___init => first | k_is | rfl | kernel_rfl | decide +kernel)
    (case xE_RodsError => k_exc)
    (case kE_RodsError => first | k_is | rfl | kernel_rfl | decide +kernel)
    (case bE_RodsError => first | k_is | rfl | kernel_rfl | decide +kernel)
    (case tC_RodsError => first | k_is | rfl | kernel_rfl | decide +kernel)
    (case pg_Rule => first | k_is | rfl | kernel_rfl | decide +kernel)
    (case hd_Rule => first | k_is | rfl | kernel_rfl | decide +kernel)
    (case po_Rule => first | k_is | rfl | kernel_rfl | decide +kernel)
    (case pg_Held => first | k_is | rfl | kernel_rfl | decide +kernel)
    (case hd_Held => first | k_is | rfl | kernel_rfl | decide +kernel)
    (case po_Held => first | k_is | rfl | kernel_rfl | decide +kernel)
    (case pg_Aimed => first | k_is | rfl | kernel_rfl | decide +kernel)
    (case hd_Aimed => first | k_is | rfl | kernel_rfl | decide +kernel)
    (case po_Aimed => first | k_is | rfl | kernel_rfl | decide +kernel)
    (case pg_Bound => first | k_is | rfl | kernel_rfl | decide +kernel)
    (case hd_Bound => first | k_is | rfl | kernel_rfl | decide +kernel)
    (case po_Bound => first | k_is | rfl | kernel_rfl | decide +kernel)
    (case c_Rule_rods => first | k_is | rfl | kernel_rfl | decide +kernel)
    (case k_Rule_rods => first | k_is | rfl | kernel_rfl | decide +kernel)
    (case c_Rule_options => first | k_is | rfl | kernel_rfl | decide +kernel)
    (case k_Rule_options => first | k_is | rfl | kernel_rfl | decide +kernel)
    (case c_Rule_plain => first | k_is | rfl | kernel_rfl | decide +kernel)
    (case k_Rule_plain => first | k_is | rfl | kernel_rfl | decide +kernel)
    (case mk_Rule => first | k_is | rfl | kernel_rfl | decide +kernel)
    (case j_Rule___init => first | k_is | rfl | kernel_rfl | decide +kernel)
    (case kC_Rule => first | k_is | rfl | kernel_rfl | decide +kernel)
    (case c_check_option => first | k_is | rfl | kernel_rfl | decide +kernel)
    (case k_check_option => first | k_is | rfl | kernel_rfl | decide +kernel)
    (case xE_LockError => k_exc)
    (case kE_LockError => first | k_is | rfl | kernel_rfl | decide +kernel)
    (case bE_LockError => first | k_is | rfl | kernel_rfl | decide +kernel)
    (case tC_LockError => first | k_is | rfl | kernel_rfl | decide +kernel)
    (case c_option_pair => first | k_is | rfl | kernel_rfl | decide +kernel)
    (case k_option_pair => first | k_is | rfl | kernel_rfl | decide +kernel)
    (case c_Held___init => first | k_is | rfl | kernel_rfl | decide +kernel)
    (case k_Held___init => first | k_is | rfl | kernel_rfl | decide +kernel)
    (case c_Held_options => first | k_is | rfl | kernel_rfl | decide +kernel)
    (case k_Held_options => first | k_is | rfl | kernel_rfl | decide +kernel)
    (case c_Aimed___init => first | k_is | rfl | kernel_rfl | decide +kernel)
    (case k_Aimed___init => first | k_is | rfl | kernel_rfl | decide +kernel)
    (case c_Aimed_options => first | k_is | rfl | kernel_rfl | decide +kernel)
    (case k_Aimed_options => first | k_is | rfl | kernel_rfl | decide +kernel)
    (case c_Bound___init => first | k_is | rfl | kernel_rfl | decide +kernel)
    (case k_Bound___init => first | k_is | rfl | kernel_rfl | decide +kernel)
    (case rd_Held => first | k_is | rfl | kernel_rfl | decide +kernel)
    (case sp_Held => first | k_is | rfl | kernel_rfl | decide +kernel)
    (case rd_Aimed => first | k_is | rfl | kernel_rfl | decide +kernel)
    (case sp_Aimed => first | k_is | rfl | kernel_rfl | decide +kernel)
    (case c_Bound_options => first | k_is | rfl | kernel_rfl | decide +kernel)
    (case k_Bound_options => first | k_is | rfl | kernel_rfl | decide +kernel)
    (case c_check_rule => first | k_is | rfl | kernel_rfl | decide +kernel)
    (case k_check_rule => first | k_is | rfl | kernel_rfl | decide +kernel)
    (case iC_Rule => first | k_is | rfl | kernel_rfl | decide +kernel)
    (case tC_Rule => first | k_is | rfl | kernel_rfl | decide +kernel)
    (case s_non_Rule => first | k_is | rfl | kernel_rfl | decide +kernel)
    (case s_bl_Rule => first | k_is | rfl | kernel_rfl | decide +kernel)
    (case s_int_Rule => first | k_is | rfl | kernel_rfl | decide +kernel)
    (case s_str_Rule => first | k_is | rfl | kernel_rfl | decide +kernel)
    (case s_lst_Rule => first | k_is | rfl | kernel_rfl | decide +kernel)
    (case s_tup_Rule => first | k_is | rfl | kernel_rfl | decide +kernel)
    (case s_dct_Rule => first | k_is | rfl | kernel_rfl | decide +kernel)
    (case hcn => first | k_is | rfl | kernel_rfl | decide +kernel)
    (case hct => first | k_is | rfl | kernel_rfl | decide +kernel)
    (case hm_Rule => first | k_is | rfl | kernel_rfl | decide +kernel)
    (case s_Held_Rule => first | k_is | rfl | kernel_rfl | decide +kernel)
    (case hm_Held => first | k_is | rfl | kernel_rfl | decide +kernel)
    (case s_Aimed_Rule => first | k_is | rfl | kernel_rfl | decide +kernel)
    (case hm_Aimed => first | k_is | rfl | kernel_rfl | decide +kernel)
    (case s_Bound_Rule => first | k_is | rfl | kernel_rfl | decide +kernel)
    (case hm_Bound => first | k_is | rfl | kernel_rfl | decide +kernel)
    (case xE_RuleError => k_exc)
    (case kE_RuleError => first | k_is | rfl | kernel_rfl | decide +kernel)
    (case bE_RuleError => first | k_is | rfl | kernel_rfl | decide +kernel)
    (case tC_RuleError => first | k_is | rfl | kernel_rfl | decide +kernel)
    (case c_all_options => first | k_is | rfl | kernel_rfl | decide +kernel)
    (case k_all_options => first | k_is | rfl | kernel_rfl | decide +kernel)
    (case j_Rule_options => first | k_is | rfl | kernel_rfl | decide +kernel)
    (case j_Held_options => first | k_is | rfl | kernel_rfl | decide +kernel)
    (case j_Aimed_options => first | k_is | rfl | kernel_rfl | decide +kernel)
    (case j_Bound_options => first | k_is | rfl | kernel_rfl | decide +kernel)
    (case c_from_other_end => first | k_is | rfl | kernel_rfl | decide +kernel)
    (case k_from_other_end => first | k_is | rfl | kernel_rfl | decide +kernel)
    (case c_flipped => first | k_is | rfl | kernel_rfl | decide +kernel)
    (case k_flipped => first | k_is | rfl | kernel_rfl | decide +kernel)
    (case pg_rods_ => first | k_is | rfl | kernel_rfl | decide +kernel)
    (case pt_rods => first | k_is | rfl | kernel_rfl | decide +kernel)
    (case mk_Bound => first | k_is | rfl | kernel_rfl | decide +kernel)
    (case j_Bound___init => first | k_is | rfl | kernel_rfl | decide +kernel)
    (case kC_Bound => first | k_is | rfl | kernel_rfl | decide +kernel)
    (case c_numbers_of => first | k_is | rfl | kernel_rfl | decide +kernel)
    (case k_numbers_of => first | k_is | rfl | kernel_rfl | decide +kernel)
    (case c_read => first | k_is | rfl | kernel_rfl | decide +kernel)
    (case k_read => first | k_is | rfl | kernel_rfl | decide +kernel)
    (case c_law_cell => first | k_is | rfl | kernel_rfl | decide +kernel)
    (case k_law_cell => first | k_is | rfl | kernel_rfl | decide +kernel)
    (case c_law_source => first | k_is | rfl | kernel_rfl | decide +kernel)
    (case k_law_source => first | k_is | rfl | kernel_rfl | decide +kernel)
    (case c_law_draw => first | k_is | rfl | kernel_rfl | decide +kernel)
    (case k_law_draw => first | k_is | rfl | kernel_rfl | decide +kernel)
    (case c_law_choose => first | k_is | rfl | kernel_rfl | decide +kernel)
    (case k_law_choose => first | k_is | rfl | kernel_rfl | decide +kernel)
    (case c_law_is_equal => first | k_is | rfl | kernel_rfl | decide +kernel)
    (case k_law_is_equal => first | k_is | rfl | kernel_rfl | decide +kernel)
    (case c_law_rods => first | k_is | rfl | kernel_rfl | decide +kernel)
    (case k_law_rods => first | k_is | rfl | kernel_rfl | decide +kernel)
    (case c_law_option => first | k_is | rfl | kernel_rfl | decide +kernel)
    (case k_law_option => first | k_is | rfl | kernel_rfl | decide +kernel)
    (case c_law_options => first | k_is | rfl | kernel_rfl | decide +kernel)
    (case k_law_options => first | k_is | rfl | kernel_rfl | decide +kernel)
    (case c_law_text => first | k_is | rfl | kernel_rfl | decide +kernel)
    (case k_law_text => first | k_is | rfl | kernel_rfl | decide +kernel)
    (case c_law_held => first | k_is | rfl | kernel_rfl | decide +kernel)
    (case k_law_held => first | k_is | rfl | kernel_rfl | decide +kernel)
    (case mk_Held => first | k_is | rfl | kernel_rfl | decide +kernel)
    (case j_Held___init => first | k_is | rfl | kernel_rfl | decide +kernel)
    (case kC_Held => first | k_is | rfl | kernel_rfl | decide +kernel)
    (case c_law_aimed => first | k_is | rfl | kernel_rfl | decide +kernel)
    (case k_law_aimed => first | k_is | rfl | kernel_rfl | decide +kernel)
    (case mk_Aimed => first | k_is | rfl | kernel_rfl | decide +kernel)
    (case j_Aimed___init => first | k_is | rfl | kernel_rfl | decide +kernel)
    (case kC_Aimed => first | k_is | rfl | kernel_rfl | decide +kernel)
    (case c_law_told => first | k_is | rfl | kernel_rfl | decide +kernel)
    (case k_law_told => first | k_is | rfl | kernel_rfl | decide +kernel)
    (case c_law_due => first | k_is | rfl | kernel_rfl | decide +kernel)
    (case k_law_due => first | k_is | rfl | kernel_rfl | decide +kernel)
    (case c_law_is_right => first | k_is | rfl | kernel_rfl | decide +kernel)
    (case k_law_is_right => first | k_is | rfl | kernel_rfl | decide +kernel)
    (case iC_Bound => first | k_is | rfl | kernel_rfl | decide +kernel)
    (case tC_Bound => first | k_is | rfl | kernel_rfl | decide +kernel)
    (case s_non_Bound => first | k_is | rfl | kernel_rfl | decide +kernel)
    (case s_bl_Bound => first | k_is | rfl | kernel_rfl | decide +kernel)
    (case s_int_Bound => first | k_is | rfl | kernel_rfl | decide +kernel)
    (case s_str_Bound => first | k_is | rfl | kernel_rfl | decide +kernel)
    (case s_lst_Bound => first | k_is | rfl | kernel_rfl | decide +kernel)
    (case s_tup_Bound => first | k_is | rfl | kernel_rfl | decide +kernel)
    (case s_dct_Bound => first | k_is | rfl | kernel_rfl | decide +kernel)
    (case s_Rule_Bound => first | k_is | rfl | kernel_rfl | decide +kernel)
    (case s_Held_Bound => first | k_is | rfl | kernel_rfl | decide +kernel)
    (case s_Aimed_Bound => first | k_is | rfl | kernel_rfl | decide +kernel)
    (case c_law_is_refused => first | k_is | rfl | kernel_rfl | decide +kernel)
    (case k_law_is_refused => first | k_is | rfl | kernel_rfl | decide +kernel)
    (case sx_RodsError_RuleError => first | k_is | rfl | kernel_rfl | decide +kernel)
    (case iC_RuleError => first | k_is | rfl | kernel_rfl | decide +kernel)
    (case sx_LockError_RuleError => first | k_is | rfl | kernel_rfl | decide +kernel)
    (case sx_RuleError_RuleError => first | k_is | rfl | kernel_rfl | decide +kernel)
    (case c_law => first | k_is | rfl | kernel_rfl | decide +kernel)
    (case k_law => first | k_is | rfl | kernel_rfl | decide +kernel)
    (case fi_Rule_plain => first | k_is | rfl | kernel_rfl | decide +kernel)
    (case bE_FoldError => first | k_is | rfl | kernel_rfl | decide +kernel)
    (case sx_RodsError_FoldError => first | k_is | rfl | kernel_rfl | decide +kernel)
    (case iC_FoldError => first | k_is | rfl | kernel_rfl | decide +kernel)
    (case tC_FoldError => first | k_is | rfl | kernel_rfl | decide +kernel)
    (case sx_LockError_FoldError => first | k_is | rfl | kernel_rfl | decide +kernel)
    (case sx_RuleError_FoldError => first | k_is | rfl | kernel_rfl | decide +kernel)
    (case d_Held_Rule => decide)
    (case d_Aimed_Rule => decide)
    (case d_Bound_Rule => decide)
    (case d_Rule_Bound => decide)
    (case d_Held_Bound => decide)
    (case d_Aimed_Bound => decide)
    (case aLa0 => k_is)
