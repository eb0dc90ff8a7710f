import PyProof.Rows.All
import Wide.All
import OpenK.AllK
import Wide.FinOn
import HandS.ForMost
import HandS.ForExc
import HandS.Star
import HandS.Lambda
import HandS.IsInst
import HandS.ClsMeth
import HandS.Property
import HandS.TryMany
import HandS.RaiseMore
import HandS.Small
import HandS.FStr
import HandS.EndTab
import HandS.OwnEq
import HandS.Wide
import PyProof.ReprRoads
import HandS.TupAny
import HandS.DictComp
import HandS.Conv
import HandS.Zip
import HandS.SortInts
import HandS.Style
import HandS.StrMore
import HandS.StrSplit
import HandS.TupMul
import HandS.Walk
import HandS.ListItems
import HandS.SortKw
import HandS.Strs
import HandS.Translate
import HandS.Replace
import HandS.Codes
import HandS.TryOnly
import HandS.MakeKw
import HandS.Defaults
import HandS.MethStar
import KE.GoesEnum
import HandS.SetFor
import HandS.List
import KE.GoesEnumKw
import KE.KSuper
import KE.GoesMore
import KE.GoesZip
import PyProof.ListNew
import PyProof.Rows.CountFlat
import PyProof.StrBlock2
import HandS.SortRule
import KE.KExcSuper
import HandS.ExcInit
import HandS.ExcField
import PySem.Challenge.RW_rodturns_k06_plain_texts
set_option Elab.async false
set_option linter.all false
set_option maxRecDepth 100000
/-! Data with dicts: what repr makes of it; promises of defs that are entered while no repr runs. -/
namespace R7
open PySem PySem.Spec PyProof.Rows L2
def keyD : Key → PyData
  | .inl i => .int i
  | .inr x => .str x
mutual
/-- x is the datum d in the heap H -/
inductive Dat (H : Hp) : V → PyData → Prop
  | non : Dat H .non .none
  | bl (b : Bool) : Dat H (.bl b) (.bool b)
  | int (i : Int) : Dat H (.int i) (.int i)
  | str (x : Str) : Dat H (.str x) (.str x)
  | lst {a : Addr} {xs : List V} {ds : List PyData} : H a = some (.lst xs) → Dats H xs ds → Dat H (.ref a) (.list ds)
  | tup {a : Addr} {xs : List V} {ds : List PyData} : H a = some (.tup xs) → Dats H xs ds → Dat H (.ref a) (.tuple ds)
  | dct {a : Addr} {kvs : List (Key × V)} {ds : List PyData} : H a = some (.dK kvs) → Dats H (kvs.map (·.2)) ds → Dat H (.ref a) (.dict ((kvs.map fun p => keyD p.1).zip ds))
inductive Dats (H : Hp) : List V → List PyData → Prop
  | nil : Dats H [] []
  | cons {v : V} {vs : List V} {d : PyData} {ds : List PyData} : Dat H v d → Dats H vs ds → Dats H (v :: vs) (d :: ds)
end
theorem Dats.len {H : Hp} : ∀ {vs : List V} {ds : List PyData}, Dats H vs ds → vs.length = ds.length
  | _, _, .nil => rfl
  | _, _, .cons _ t => by rw [List.length_cons, List.length_cons, t.len]
/-- the table of loaded modules stands ahead of the call -/
def SysB (base : Heap) : Prop := ∃ o, base.get? sysModules = some o
theorem keys_read {h : Heap} {P : Program} {w : World} : ∀ {es : List DictEntry} {kvs : List (Key × V)} {vs : List (Key × Value)}, Pairs (mixKind P w) es vs → KV kvs vs →
    ReadsAll h (es.map (·.key)) (kvs.map fun p => keyD p.1) [] ∧ es.map (·.val) = vs.map (·.2)
  | _, _, _, .nil, .nil => ⟨.nil, rfl⟩
  | e :: es, p :: kvs, q :: vs, .cons hk hv t, .cons pq t' => by
    obtain ⟨e1, _⟩ := pq
    obtain ⟨r, e⟩ := keys_read (h := h) t t'
    refine ⟨?_, by rw [List.map_cons, List.map_cons, hv, e]⟩
    rcases keyIs_shape hk with ⟨i, tk, e2, e3⟩ | ⟨x, tk, e2, e3⟩
    · have : keyD p.1 = .int i := by rw [e1, e2]; rfl
      rw [List.map_cons, List.map_cons, e3, this]
      exact ReadsAll.cons (as := []) (.int i tk) r
    · have : keyD p.1 = .str x := by rw [e1, e2]; rfl
      rw [List.map_cons, List.map_cons, e3, this]
      exact ReadsAll.cons (as := []) (.str x tk) r
theorem kv_vals : ∀ {kvs : List (Key × V)} {vs : List (Key × Value)}, KV kvs vs → Vals (kvs.map (·.2)) (vs.map (·.2))
  | _, _, .nil => .nil
  | _, _, .cons ⟨_, r⟩ t => .cons r (kv_vals t)
section
variable {X : Cx} {pins : List (Addr × Obj)} {σ : L2.St} {H : Hp} {s : Shared}
mutual
theorem Dat.reads (I : Inv X pins σ H s) (Z : SysB X.base) : ∀ {d : PyData} {v : V} {u : Value}, Dat H v d → RelV v u → ∃ as, Reads s.heap u d as ∧ sysModules ∉ as
  | _, _, _, .non, r => by
    cases r
    exact ⟨_, .none, by simp⟩
  | _, _, _, .bl b, r => by
    cases r
    exact ⟨_, .bool b, by simp⟩
  | _, _, _, .int i, r => by
    obtain ⟨t, rfl⟩ := r
    exact ⟨_, .int i t, by simp⟩
  | _, _, _, .str x, r => by
    obtain ⟨t, rfl⟩ := r
    exact ⟨_, .str x t, by simp⟩
  | _, _, _, .lst (a := a) e hs, r => by
    cases r
    obtain ⟨z, its, n, rv, ho⟩ := I.hok a _ e
    obtain ⟨as, hr, na⟩ := Dats.reads I Z hs rv
    refine ⟨_, .list ho rfl rfl hr, fun m => ?_⟩
    rcases List.mem_cons.mp m with q | q
    · obtain ⟨o, ho⟩ := Z
      have := (I.bs _ _ ho).2
      rw [q, e] at this
      cases this
    · exact na q
  | _, _, _, .tup (a := a) e hs, r => by
    cases r
    obtain ⟨z, its, rv, o, ho, hc, n, hd⟩ := I.hok a _ e
    obtain ⟨as, hr, na⟩ := Dats.reads I Z hs rv
    exact ⟨_, .tuple ho hc hd hr, na⟩
  | _, _, _, .dct (a := a) (kvs := kvs) (ds := ds) e hs, r => by
    cases r
    obtain ⟨z, ns, vs, kv, o, es, ep, ho, ex, hd, _, hp, _⟩ := I.hok a _ e
    obtain ⟨r1, e1⟩ := keys_read (h := s.heap) hp kv
    obtain ⟨bs, r2, na⟩ := Dats.reads I Z hs (kv_vals kv)
    have hl : (kvs.map fun p => keyD p.1).length = ds.length := by
      rw [List.length_map, ← hs.len, List.length_map]
    refine ⟨_, .dict (as := []) (bs := bs) ho ex.1 hd (by rw [List.map_fst_zip (Nat.le_of_eq hl)]; exact r1) (by rw [List.map_snd_zip (Nat.le_of_eq hl.symm), e1]; exact r2), fun m => ?_⟩
    rcases List.mem_cons.mp m with q | q
    · exact beq_eq_false_iff_ne.mp ns q.symm
    · exact na (by simpa using q)
theorem Dats.reads (I : Inv X pins σ H s) (Z : SysB X.base) : ∀ {ds : List PyData} {vs : List V} {us : List Value}, Dats H vs ds → Vals vs us → ∃ as, ReadsAll s.heap us ds as ∧ sysModules ∉ as
  | _, _, _, .nil, .nil => ⟨_, .nil, by simp⟩
  | _, _, _, .cons h1 h2, .cons r1 r2 => by
    obtain ⟨as, q1, n1⟩ := Dat.reads I Z h1 r1
    obtain ⟨bs, q2, n2⟩ := Dats.reads I Z h2 r2
    exact ⟨_, .cons q1 q2, fun m => (List.mem_append.mp m).elim n1 n2⟩
end
/-- repr(x) of data, while no repr runs -/
def rRep : List V → Hp → VK → Prop := fun xs H Q => ∃ x d, xs = [x] ∧ Dat H x d ∧ d.showable = true ∧ d.shown.length ≤ sizeLine ∧ d.depth ≤ 20 ∧ Q (.str d.shown) H
theorem call_rep (Z : SysB X.base) (hg : X.A.guards = some []) (hu : X.A.units + 64 < cLine) : CallR X (.builtin "repr") rRep := by
  intro pins s σ H xs us Q I r h
  obtain ⟨x, d, rfl, hd, hs, hz, hdp, q⟩ := h
  obtain ⟨u, rfl, rx⟩ := vals1 r
  have fin : ∀ (h' : Heap) (t : Tok) (tk : Nat), (∀ b o, s.heap.get? b = some o → h'.get? b = some o) → EP X pins σ Q (.str d.shown t) { s with heap := h', toks := tk } := fun h' t tk hk => ⟨.str d.shown, H, I.kept hk, ⟨t, rfl⟩, q⟩
  have rd := hd.reads I Z rx
  have big : ∀ a, u = .ref a → wpAny (model X.prog X.w) X.A (call (.builtin "repr") [u]) (EP X pins σ Q) X.xe s := fun a e => by
    subst e
    obtain ⟨as, rd, na⟩ := rd
    exact repr_of_reads' rd hs (fun _ => na) hg (by omega) (fun _ _ e => e) (fun h' t tk hk => fin h' t tk hk) hz
  cases hd with
  | non =>
    cases rx
    simp only [PyData.shown] at fin ⊢
    exact PySem.P.repr_of_none (fin s.heap _ _ fun _ _ e => e)
  | bl b =>
    cases rx
    simp only [PyData.shown] at fin ⊢
    exact PySem.P.repr_of_bool (fin s.heap _ _ fun _ _ e => e)
  | int i =>
    obtain ⟨t, rfl⟩ := rx
    simp only [PyData.shown] at fin ⊢
    exact PySem.P.repr_of_int (by simpa [PyData.showable] using hs) (fin s.heap _ _ fun _ _ e => e)
  | str x =>
    obtain ⟨t, rfl⟩ := rx
    simp only [PyData.shown] at fin hz ⊢
    exact PySem.P.repr_of_str (fin s.heap _ _ fun _ _ e => e) hz
  | lst _ _ => exact big _ rx
  | tup _ _ => exact big _ rx
  | dct _ _ => exact big _ rx
end
/-! ### defs that are entered while no repr runs -/
structure FnG (P : Program) (w : World) (K : PySem.W.Frag) (mg : Str → Option Value) (base : Heap) (CX : CXT) (k : Nat) (f : Addr) (fd : FuncData) (ps : List Str) (sp : Sp) : Prop where
  len : ∀ vs H Q E, sp vs H Q E → vs.length = ps.length
  go : ∀ (A : Around) (outer : List Env) (s : Shared) (H : Hp) (args : Args) (us : List Value) (vs : List V) (Q : VK) (E : XK), A.guards = some [] → Room k A → Env0 P w K mg base A outer s H →
    BindsTo s fd args (ps.zip us) → Vals vs us → sp vs H Q E → codeAny (model P w) A (.call (.ref f) args) (CR CX outer P w H s Q E) s
section
variable {P : Program} {w : World} {K : PySem.W.Frag} {mg : Str → Option Value} {base : Heap}
theorem fun_okG {CX : CXT} {x qual : Str} {st : Stmt} {f : Addr} {fd : FuncData} {N ps : List Str} {k : Nat} {sp : Sp} (F : Fun K x qual st f fd) (S : FnScope N ps (defScope st)) (len : ∀ vs H Q E, sp vs H Q E → vs.length = ps.length)
    (hb : ∀ (cdv : Value) (A : Around) (outer : List Env) (s : Shared) (H : Hp) (vs : List V) (Q : VK) (E : XK), A.guards = some [] → PySem.W.codeIn K cdv qual = true → Room k (A.deeper (envOfC qual (defScope st) s.heap.objs.size f cdv)) → sp vs H Q E →
      ∃ t, PSs (cxOf CX P w K mg base N qual (defScope st) f cdv A outer s H E) (defBody st) t ∧ t { nx := fun _ H' => Q .non H', rt := Q } (start N vs) H) : FnG P w K mg base CX (k + 1) f fd ps sp := by
  obtain ⟨oc, od, kV, doc, pm, an, cdv, ct, osl, rfl, lk, hcd⟩ := F.ex
  refine ⟨len, fun A outer s H args us vs Q E hg hr e0 hbd r h => ?_⟩
  exact LamX.run_ofS lk hcd S hr e0 hbd r (len _ _ _ _ h) fun hr' => hb cdv A outer s H vs Q E hg hcd hr' h
end
/-- f(e, ..) -/
def tCallG (sp : Sp) (E : XK) (t : TA) : TE := fun σ H Q => t σ H fun vs H1 => sp vs H1 Q E
section
variable {X : Cx} {CX : CXT} {k : Nat} {f : Addr} {fd : FuncData} {ps : List Str} {sp : Sp} {dvs : List V} {ds : List Value} {E : XK} {x : Str} {p pos : Pos} {e : Expr} {es : List Expr} {t : TA}
/-- f(e, ..), f a def of that kind -/
theorem pe_callG (F : FnG X.prog X.w X.K X.mg X.base CX k f fd ps sp) (hgd : X.A.guards = some []) (hr : Room k X.A) (hg : Gl X x) (hm : X.mg x = some (.ref f)) (hk : PySem.W.keepIn X.K (.ref f) = true) (hb : Binds X.K fd ps [])
    (hx : Passes CX X E) (ha : PA X (e :: es) t) (hdb : (x == ("__debug__" : Str)) = false := by decide) (he : starEach (e :: es) X.env = (false, eval e X.env) :: starEach es X.env := by rfl)
    (hpl : (backTo pos (starEach es X.env)).any (·.1) = false := by rfl) : PE X (.Call (.Name x p) (e :: es) [] pos) (tCallG sp E t) := by
  constructor
  intro pins s σ H Q I h
  apply wpAny_Call_Name_kw
  refine ld_glob I hg hm ?_ hdb
  refine PySem.W.callWith_K (h₀ := X.base) I.ok.mod.kin hk ?_ he hpl
  refine thn (ha.run pos pins s σ H _ I h) fun us s1 z => ?_
  obtain ⟨vs, H1, J, r, q⟩ := z
  have hl : (us ++ []).length = ps.length := by rw [List.append_nil, ← r.length]; exact F.len _ _ _ _ q
  refine ⟨J.kIn, wpAny_call (codeAny_mono (F.go X.A X.stack s1 H1 ⟨us, []⟩ us vs Q E hgd hr J.env0 ?_ r q) fun res s2 hq => ?_)⟩
  · have := hb s1 us J.kIn hl
    rwa [List.append_nil] at this
  · cases res with
    | error e => exact hx pins σ H1 s1 e s2 J hq
    | ok fl =>
      cases fl with
      | ret u => exact J.after hq
      | next => exact hq.elim
      | brk => exact hq.elim
      | cont => exact hq.elim
end
end R7
/-! Data, what a value denotes in a background, and what a def's body does to data. -/
namespace M7
open PySem PySem.Spec PyProof.Rows L2
/-- the program's classes, its exceptions -/
inductive CN where
  | rule | held | aimed | bound | folding | hand | cn6 | cn7
  deriving DecidableEq
inductive XN where
  | fold | rule | rods | lock | hinge | ways | refused | case | width | nothing | text | apart
  deriving DecidableEq
structure WD where
  K : PySem.W.Frag
  cls : CN → Addr
  exc : XN → Addr
  /-- what an exception of a present class is beside another -/
  has : XN → Prop
  /-- the tables of code objects: the name of the code objects that the table tells -/
  tn : Addr → Option Str
/-- data -/
inductive D where
  | non | bl (b : Bool) | int (i : Int) | str (x : Str)
  | lst (ds : List D) | scr (ds : List D) | tup (ds : List D) | dct (kvs : List (Key × D)) | obj (c : CN) (fs : List (Str × D)) | cls (c : CN)
def Ext (B B' : Hp) : Prop := ∀ a o, B a = some o → B' a = some o
/-- no table, no code object -/
def plain : HO → Bool
  | .tbl _ => false
  | .ext _ => false
  | _ => true
/-- what must stay: the tables stay tables -/
def Keep (w : WD) (Z H : Hp) : Prop := ∀ a o, Z a = some o → (w.tn a = none ∧ plain o = true ∧ H a = some o) ∨ ∃ q, w.tn a = some q ∧ LamX.TabS H a q
def lockable : HO → Bool
  | .dK _ => true
  | _ => false
/-- the background stands in the heap, up to locks -/
def Sub (B H : Hp) : Prop := ∀ a o, B a = some o → plain o = true ∧ (H a = some o ∨ (lockable o = true ∧ ∃ ob, H a = some (.frz ob o)))
mutual
/-- v is the datum d in the background B -/
inductive Den (w : WD) (B : Hp) : V → D → Prop
  | non : Den w B .non .non
  | bl (b : Bool) : Den w B (.bl b) (.bl b)
  | int (i : Int) : Den w B (.int i) (.int i)
  | str (x : Str) : Den w B (.str x) (.str x)
  | lst {a : Addr} {xs : List V} {ds : List D} : B a = some (.lst xs) → Dens w B xs ds → Den w B (.ref a) (.lst ds)
  | scr {a : Addr} {xs : List V} {ds : List D} : SqL w.K B a xs → Dens w B xs ds → Den w B (.ref a) (.scr ds)
  | tup {a : Addr} {xs : List V} {ds : List D} : SqT w.K B a xs → Dens w B xs ds → Den w B (.ref a) (.tup ds)
  | dct {a : Addr} {ks : List Key} {vs : List V} {ds : List D} : B a = some (.dK (ks.zip vs)) → ks.length = vs.length → Dens w B vs ds → Den w B (.ref a) (.dct (ks.zip ds))
  | obj {a dx : Addr} {c : CN} {ns : List Str} {vs : List V} {ds : List D} : B a = some (.ins (w.cls c) dx (ns.zip vs)) → ns.length = vs.length → Dens w B vs ds → Den w B (.ref a) (.obj c (ns.zip ds))
  | cls (c : CN) : Den w B (.ref (w.cls c)) (.cls c)
inductive Dens (w : WD) (B : Hp) : List V → List D → Prop
  | nil : Dens w B [] []
  | cons {v : V} {vs : List V} {d : D} {ds : List D} : Den w B v d → Dens w B vs ds → Dens w B (v :: vs) (d :: ds)
end
section
variable {w : WD} {B B' B2 H H' : Hp}
theorem Ext.refl (B : Hp) : Ext B B := fun _ _ h => h
theorem Ext.trans (h : Ext B B') (h' : Ext B' B2) : Ext B B2 := fun a o e => h' a o (h a o e)
theorem Ext.new {p : Addr} {o : HO} (h : B p = none) : Ext B (upd B p o) := fun a u e => by
  rw [upd_ne (ne_of_none e h)]
  exact e
theorem Ext.sub (h : Ext B B') (s : Sub B' H) : Sub B H := fun a o e => s a o (h a o e)
theorem Sub.rd {a : Addr} {u : HO} (h : Sub B H) (r : Rd B a u) : Rd H a u := by
  rcases r with r | ⟨o, r⟩
  · rcases (h a u r).2 with e | ⟨_, ob, e⟩
    · exact .inl e
    · exact .inr ⟨ob, e⟩
  · rcases (h a _ r).2 with e | ⟨l, _⟩
    · exact .inr ⟨o, e⟩
    · cases l
theorem Sub.sqL {a : Addr} {xs : List V} (h : Sub B H) (r : SqL w.K B a xs) : SqL w.K H a xs := r.elim (fun z => .inl (h.rd z)) .inr
theorem Sub.sqT {a : Addr} {xs : List V} (h : Sub B H) (r : SqT w.K B a xs) : SqT w.K H a xs := r.elim (fun z => .inl (h.rd z)) .inr
theorem Ext.rd {a : Addr} {u : HO} (h : Ext B B') (r : Rd B a u) : Rd B' a u := r.elim (fun z => .inl (h a u z)) fun ⟨o, z⟩ => .inr ⟨o, h a _ z⟩
theorem Ext.sqL {a : Addr} {xs : List V} (h : Ext B B') (r : SqL w.K B a xs) : SqL w.K B' a xs := r.elim (fun z => .inl (h.rd z)) .inr
theorem Ext.sqT {a : Addr} {xs : List V} (h : Ext B B') (r : SqT w.K B a xs) : SqT w.K B' a xs := r.elim (fun z => .inl (h.rd z)) .inr
mutual
theorem Den.mono (h : Ext B B') : ∀ {v : V} {d : D}, Den w B v d → Den w B' v d
  | _, _, .non => .non
  | _, _, .bl b => .bl b
  | _, _, .int i => .int i
  | _, _, .str x => .str x
  | _, _, .lst s r => .lst (h _ _ s) (Dens.mono h r)
  | _, _, .scr s r => .scr (h.sqL s) (Dens.mono h r)
  | _, _, .tup s r => .tup (h.sqT s) (Dens.mono h r)
  | _, _, .dct s l r => .dct (h _ _ s) l (Dens.mono h r)
  | _, _, .obj s l r => .obj (h _ _ s) l (Dens.mono h r)
  | _, _, .cls c => .cls c
theorem Dens.mono (h : Ext B B') : ∀ {vs : List V} {ds : List D}, Dens w B vs ds → Dens w B' vs ds
  | _, _, .nil => .nil
  | _, _, .cons r t => .cons (Den.mono h r) (Dens.mono h t)
end
theorem Dens.len : ∀ {vs : List V} {ds : List D}, Dens w B vs ds → vs.length = ds.length
  | _, _, .nil => rfl
  | _, _, .cons _ t => by rw [List.length_cons, List.length_cons, t.len]
theorem Dens.get : ∀ {vs : List V} {ds : List D} {i : Nat} {d : D}, Dens w B vs ds → ds[i]? = some d → ∃ v, vs[i]? = some v ∧ Den w B v d
  | _, _, _, _, .nil, e => by simp at e
  | _, _, 0, _, .cons r _, e => by
    simp at e
    subst e
    exact ⟨_, rfl, r⟩
  | _, _, i + 1, _, .cons _ t, e => by
    obtain ⟨v, h1, h2⟩ := t.get (i := i) (by simpa using e)
    exact ⟨v, by simpa using h1, h2⟩
theorem Dens.get' : ∀ {vs : List V} {ds : List D} {i : Nat} {v : V}, Dens w B vs ds → vs[i]? = some v → ∃ d, ds[i]? = some d ∧ Den w B v d
  | _, _, _, _, .nil, e => by simp at e
  | _, _, 0, _, .cons r _, e => by
    simp at e
    subst e
    exact ⟨_, rfl, r⟩
  | _, _, i + 1, _, .cons _ t, e => by
    obtain ⟨v, h1, h2⟩ := t.get' (i := i) (by simpa using e)
    exact ⟨v, by simpa using h1, h2⟩
theorem Dens.app : ∀ {vs us : List V} {ds es : List D}, Dens w B vs ds → Dens w B us es → Dens w B (vs ++ us) (ds ++ es)
  | _, _, _, _, .nil, t => t
  | _, _, _, _, .cons r t, t' => .cons r (t.app t')
theorem Dens.take : ∀ {vs : List V} {ds : List D} (n : Nat), Dens w B vs ds → Dens w B (vs.take n) (ds.take n)
  | _, _, 0, _ => .nil
  | _, _, _ + 1, .nil => .nil
  | _, _, n + 1, .cons r t => .cons r (t.take n)
theorem Dens.drop : ∀ {vs : List V} {ds : List D} (n : Nat), Dens w B vs ds → Dens w B (vs.drop n) (ds.drop n)
  | _, _, 0, t => t
  | _, _, _ + 1, .nil => .nil
  | _, _, n + 1, .cons _ t => t.drop n
theorem Dens.set : ∀ {vs : List V} {ds : List D} {v : V} {d : D} (n : Nat), Dens w B vs ds → Den w B v d → Dens w B (vs.set n v) (ds.set n d)
  | _, _, _, _, _, .nil, _ => .nil
  | _, _, _, _, 0, .cons _ t, r => .cons r t
  | _, _, _, _, n + 1, .cons q t, r => .cons q (t.set n r)
theorem Dens.rev {vs : List V} {ds : List D} (h : Dens w B vs ds) : Dens w B vs.reverse ds.reverse := by
  induction h using Dens.rec (motive_1 := fun _ _ _ => True) with
  | nil => exact .nil
  | cons r t _ ih => rw [List.reverse_cons, List.reverse_cons]; exact ih.app (.cons r .nil)
  | _ => trivial
end

/-! ### slots -/
/-- what a slot holds: frozen data; an object of the def's own; one that the caller has lent; one that was lent and is frozen since -/
inductive Fl where
  | f | o | p | q
  deriving DecidableEq
def Fl.own : Fl → Bool
  | .o => true
  | .p => true
  | _ => false
def Fl.pin : Fl → Bool
  | .p => true
  | .q => true
  | _ => false
/-- frozen from now on -/
def Fl.fz : Fl → Fl
  | .f => .f
  | .o => .f
  | .p => .q
  | .q => .q
abbrev G := List (Option (Fl × D))
/-- the object at a, which may still change, holds d -/
inductive Own (w : WD) (B H : Hp) : Addr → D → Prop
  | lst {a : Addr} {xs : List V} {ds : List D} : H a = some (.lst xs) → Dens w B xs ds → Own w B H a (.lst ds)
  | dct {a : Addr} {ks : List Key} {vs : List V} {ds : List D} : H a = some (.dK (ks.zip vs)) → ks.length = vs.length → Dens w B vs ds → Own w B H a (.dct (ks.zip ds))
  | obj {a dx : Addr} {c : CN} {ns : List Str} {vs : List V} {ds : List D} : H a = some (.ins (w.cls c) dx (ns.zip vs)) → ns.length = vs.length → Dens w B vs ds → Own w B H a (.obj c (ns.zip ds))
/-- B: what is known and stays; Z: what else must stay; π: the arguments as they were handed in -/
structure Sat (w : WD) (π : Nat → V) (B Z : Hp) (g : G) (σ : L2.St) (H : Hp) : Prop where
  sub : Sub B H
  keep : Keep w Z H
  dis : ∀ a o, Z a = some o → B a = none
  len : g.length = σ.length
  fz : ∀ (i : Nat) (c : Fl) (d : D), g[i]? = some (some (c, d)) → c.own = false → ∃ v, σ[i]? = some (some v) ∧ Den w B v d
  ow : ∀ (i : Nat) (c : Fl) (d : D), g[i]? = some (some (c, d)) → c.own = true → ∃ a : Addr, σ[i]? = some (some (V.ref a)) ∧ B a = none ∧ Z a = none ∧ Own w B H a d
  dj : ∀ (i j : Nat) (c c' : Fl) (d e : D) (a : Addr), g[i]? = some (some (c, d)) → g[j]? = some (some (c', e)) → c.own = true → c'.own = true → σ[i]? = some (some (V.ref a)) → σ[j]? = some (some (V.ref a)) → i = j
  pin : ∀ (i : Nat) (c : Fl) (d : D), g[i]? = some (some (c, d)) → c.pin = true → σ[i]? = some (some (π i))
  tz : ∀ a q, w.tn a = some q → ∃ o, Z a = some o
/-- what an expression gives: o: a new object of one's own -/
def Res (w : WD) (B Z : Hp) (g : G) (σ : L2.St) (H : Hp) (v : V) (o : Bool) (d : D) : Prop :=
  if o = true then ∃ a : Addr, v = .ref a ∧ B a = none ∧ Z a = none ∧ Own w B H a d ∧ ∀ (i : Nat) (c : Fl) (e : D), g[i]? = some (some (c, e)) → c.own = true → σ[i]? ≠ some (some (V.ref a)) else Den w B v d
/-- what comes of an expression -/
inductive O (α : Type) where
  | ok (a : α) (g : G) | ex (x : XN) (f : Option D) (g : G) | fail
def O.bind {α β : Type} : O α → (α → G → O β) → O β
  | .ok a g, k => k a g
  | .ex x f g, _ => .ex x f g
  | .fail, _ => .fail
/-- an exception's own dict: a field and its datum -/
def XOk (w : WD) (B H : Hp) (f : Option D) (dd : Option Addr) : Prop :=
  match f with
  | none => dd = none
  | some (.dct [(.inr n, d)]) => ∃ a v, dd = some a ∧ H a = some (.xd [(n, v)]) ∧ Den w B v d
  | some _ => False
/-- what comes of a statement -/
inductive F where
  | nx (g : G) | rt (o : Bool) (d : D) (g : G) | bk (g : G) | ct (g : G) | ex (x : XN) (f : Option D) (g : G) | fail
section
variable (w : WD) (W : WX) (π : Nat → V) (B Z : Hp)
def PostX (x : XN) (f : Option D) (g : G) : Prop := w.has x → ∀ dd B' H' σ', Ext B B' → Sat w π B' Z g σ' H' → XOk w B' H' f dd → W (.ref (w.exc x)) dd σ' H'
def PostE (σ : L2.St) (Q : VK) : O (Bool × D) → Prop
  | .ok (o, d) g => ∀ v B' H', Ext B B' → Sat w π B' Z g σ H' → Res w B' Z g σ H' v o d → Q v H'
  | .ex x f g => PostX w W π B Z x f g
  | .fail => False
end
end M7
namespace M7
open PySem PySem.Spec PyProof.Rows L2
section
variable {w : WD} {W : WX} {π : Nat → V} {B B' B1 Z : Hp} {g : G} {σ : L2.St} {H H' : Hp}
/-! ### what Sat gives and how it is carried on -/
theorem Own.mono {a : Addr} {d : D} (h : Ext B B') : Own w B H a d → Own w B' H a d
  | .lst e r => .lst e (r.mono h)
  | .dct e l r => .dct e l (r.mono h)
  | .obj e l r => .obj e l (r.mono h)
theorem Own.at {a : Addr} {d : D} (o : Own w B H a d) (e : H' a = H a) : Own w B H' a d := by
  cases o with
  | lst z r => exact .lst (e.trans z) r
  | dct z l r => exact .dct (e.trans z) l r
  | obj z l r => exact .obj (e.trans z) l r
theorem Own.there {a : Addr} {d : D} (o : Own w B H a d) : ∃ u, H a = some u := by
  cases o with
  | lst z r => exact ⟨_, z⟩
  | dct z l r => exact ⟨_, z⟩
  | obj z l r => exact ⟨_, z⟩
theorem Own.pl {a : Addr} {d : D} (o : Own w B H a d) : ∃ u, H a = some u ∧ plain u = true := by
  cases o with
  | lst z r => exact ⟨_, z, rfl⟩
  | dct z l r => exact ⟨_, z, rfl⟩
  | obj z l r => exact ⟨_, z, rfl⟩
theorem Keep.ext {Z : Hp} (k : Keep w Z H) (e : Ext H H') : Keep w Z H' := fun a o q => by
  rcases k a o q with ⟨h1, h2, h3⟩ | ⟨n, h1, h2⟩
  · exact .inl ⟨h1, h2, e _ _ h3⟩
  · exact .inr ⟨n, h1, h2.ext e⟩
theorem Keep.no {Z : Hp} (k : Keep w Z H) {p : Addr} (e : H p = none) : Z p = none := by
  cases q : Z p with
  | none => rfl
  | some o =>
    rcases k p o q with ⟨_, _, h⟩ | ⟨n, _, ps, h, _⟩ <;> (rw [e] at h; cases h)
theorem Keep.there {Z : Hp} (k : Keep w Z H) {p : Addr} {o : HO} (e : Z p = some o) : ∃ u, H p = some u := by
  rcases k p o e with ⟨_, _, h⟩ | ⟨n, _, ps, h, _⟩
  · exact ⟨_, h⟩
  · exact ⟨_, h⟩
theorem Keep.at {Z : Hp} (k : Keep w Z H) {p : Addr} {o : HO} (t : w.tn p = none) (q : Z p = some o) : H p = some o := by
  rcases k p o q with ⟨_, _, h⟩ | ⟨n, h, _⟩
  · exact h
  · rw [t] at h; cases h
/-- an object that is no table and no code object is written, beside what must stay -/
theorem Keep.upd {Z : Hp} (k : Keep w Z H) {a : Addr} {u o : HO} (hu : H a = some u) (pu : plain u = true) (hz : Z a = none) : Keep w Z (upd H a o) := fun b x q => by
  have hb : b ≠ a := fun z => by rw [z, hz] at q; cases q
  rcases k b x q with ⟨h1, h2, h3⟩ | ⟨n, h1, ps, h2, h3, h4⟩
  · exact .inl ⟨h1, h2, by rw [upd_ne hb]; exact h3⟩
  · refine .inr ⟨n, h1, ps, by rw [upd_ne hb]; exact h2, h3, fun pos cv hc => ?_⟩
    obtain ⟨c, e1, e2⟩ := h4 pos cv hc
    refine ⟨c, e1, ?_⟩
    rw [upd_ne (fun z => ?_)]
    · exact e2
    · rw [z, hu] at e2
      cases e2
      cases pu
theorem Keep.sub {Z Z0 : Hp} (k : Keep w Z H) (e : Ext Z0 Z) : Keep w Z0 H := fun a o q => k a o (e a o q)
theorem Sat.tn0 (s : Sat w π B Z g σ H) {a : Addr} (h : Z a = none) : w.tn a = none := by
  cases q : w.tn a with
  | none => rfl
  | some n =>
    obtain ⟨o, z⟩ := s.tz a n q
    rw [h] at z
    cases z
theorem Fl.own_fz (c : Fl) : c.fz.own = false := by cases c <;> rfl
theorem Fl.pin_fz (c : Fl) : c.fz.pin = c.pin := by cases c <;> rfl
/-- the heap has grown, or changed where nobody looks -/
theorem Sat.heap (s : Sat w π B Z g σ H) (h1 : Sub B H') (h2 : Keep w Z H') (h3 : ∀ a d, B a = none → Z a = none → Own w B H a d → Own w B H' a d) : Sat w π B Z g σ H' :=
  ⟨h1, h2, s.dis, s.len, s.fz, fun i c d e o => by
    obtain ⟨a, q1, q2, q3, q4⟩ := s.ow i c d e o
    exact ⟨a, q1, q2, q3, h3 a d q2 q3 q4⟩, s.dj, s.pin, s.tz⟩
theorem Sub.same (h : Sub B H) (k : Ext H H') : Sub B H' := fun a o e => by
  rcases h a o e with ⟨p, z | ⟨l, ob, z⟩⟩
  · exact ⟨p, .inl (k _ _ z)⟩
  · exact ⟨p, .inr ⟨l, ob, k _ _ z⟩⟩
theorem Sat.grow (s : Sat w π B Z g σ H) (k : Ext H H') : Sat w π B Z g σ H' :=
  s.heap (s.sub.same k) (s.keep.ext k) fun a d _ _ o => by
    obtain ⟨u, e⟩ := o.there
    exact o.at ((k _ _ e).trans e.symm)
theorem Sub.none (h : Sub B H) {p : Addr} (e : H p = none) : B p = none := by
  cases q : B p with
  | none => rfl
  | some o =>
    rcases (h p o q).2 with z | ⟨_, _, z⟩ <;> (rw [e] at z; cases z)
theorem Ext.none (h : Ext B H) {p : Addr} (e : H p = none) : B p = none := by
  cases q : B p with
  | none => rfl
  | some o =>
    have z := h p o q
    rw [e] at z
    cases z
/-- the background has grown by what stands in the heap -/
theorem Sat.more (s : Sat w π B Z g σ H) (e : Ext B B') (h : Sub B' H) (hz : ∀ a o, Z a = some o → B' a = none) (ho : ∀ (i : Nat) (c : Fl) (d : D) (a : Addr), g[i]? = some (some (c, d)) → c.own = true → σ[i]? = some (some (V.ref a)) → B' a = none) : Sat w π B' Z g σ H :=
  ⟨h, s.keep, hz, s.len, fun i c d q z => by
    obtain ⟨v, q1, q2⟩ := s.fz i c d q z
    exact ⟨v, q1, q2.mono e⟩, fun i c d q z => by
    obtain ⟨a, q1, q2, q3, q4⟩ := s.ow i c d q z
    exact ⟨a, q1, ho i c d a q z q1, q3, q4.mono e⟩, s.dj, s.pin, s.tz⟩
theorem Sub.upd {a : Addr} {o : HO} (h : Sub B H) (e : H a = some o) (p : plain o = true := by rfl) : Sub (upd B a o) H := fun b u q => by
  by_cases hb : b = a
  · subst hb
    rw [upd_same] at q
    cases q
    exact ⟨p, .inl e⟩
  · rw [upd_ne hb] at q
    exact h b u q
/-- an object of one's own becomes part of the background -/
theorem Own.den {a : Addr} {d : D} (o : Own w B H a d) (e : B a = none) : ∃ u, H a = some u ∧ Den w (upd B a u) (.ref a) d ∧ plain u = true := by
  cases o with
  | lst z r => exact ⟨_, z, .lst upd_same (r.mono (Ext.new e)), rfl⟩
  | dct z l r => exact ⟨_, z, .dct upd_same l (r.mono (Ext.new e)), rfl⟩
  | obj z l r => exact ⟨_, z, .obj upd_same l (r.mono (Ext.new e)), rfl⟩
theorem Res.freeze {v : V} {o : Bool} {d : D} (s : Sat w π B Z g σ H) (r : Res w B Z g σ H v o d) : ∃ B1, Ext B B1 ∧ Sat w π B1 Z g σ H ∧ Den w B1 v d := by
  cases o with
  | false => exact ⟨B, Ext.refl B, s, r⟩
  | true =>
    obtain ⟨a, rfl, hb, hz, ho, hn⟩ := r
    obtain ⟨u, hu, hd, pu⟩ := ho.den hb
    refine ⟨upd B a u, Ext.new hb, s.more (Ext.new hb) (s.sub.upd hu pu) (fun b q e => ?_) (fun i c e b q1 q2 q3 => ?_), hd⟩
    · rw [upd_ne (ne_of_none e hz)]
      exact s.dis b q e
    · have : b ≠ a := fun z => hn i c e q1 q2 (by rw [q3, z])
      rw [upd_ne this]
      obtain ⟨b', q4, q5, _⟩ := s.ow i c e q1 q2
      rw [q3] at q4
      cases q4
      exact q5
theorem get_set {g : G} {i j : Nat} {x : Option (Fl × D)} {y} (h : (g.set i x)[j]? = some y) : (j = i ∧ y = x) ∨ (j ≠ i ∧ g[j]? = some y) := by
  rw [List.getElem?_set] at h
  split at h
  · rename_i e
    split at h
    · exact .inl ⟨e.symm, by cases h; rfl⟩
    · cases h
  · rename_i e
    exact .inr ⟨fun z => e z.symm, h⟩
/-- a slot's own object becomes part of the background -/
theorem Sat.freeze {i : Nat} {c : Fl} {d : D} (s : Sat w π B Z g σ H) (e : g[i]? = some (some (c, d))) : ∃ B1 v, Ext B B1 ∧ Sat w π B1 Z (g.set i (some (c.fz, d))) σ H ∧ σ[i]? = some (some v) ∧ Den w B1 v d := by
  have sl : ∀ (B1 : Hp) (v : V), Ext B B1 → Sub B1 H → (∀ a o, Z a = some o → B1 a = none) → σ[i]? = some (some v) → Den w B1 v d → (∀ (j : Nat) (c' : Fl) (d' : D) (a : Addr), j ≠ i → g[j]? = some (some (c', d')) → c'.own = true → σ[j]? = some (some (V.ref a)) → B1 a = none) → Sat w π B1 Z (g.set i (some (c.fz, d))) σ H := fun B1 v h1 h2 h3 h4 h5 h6 => by
    refine ⟨h2, s.keep, h3, by rw [List.length_set]; exact s.len, fun j c' d' q z => ?_, fun j c' d' q z => ?_, fun j k c1 c2 d1 d2 a q1 q2 z1 z2 t1 t2 => ?_, fun j c' d' q z => ?_, s.tz⟩
    · rcases get_set q with ⟨rfl, qe⟩ | ⟨n, q⟩
      · cases qe
        exact ⟨v, h4, h5⟩
      · obtain ⟨u, q1, q2⟩ := s.fz j c' d' q z
        exact ⟨u, q1, q2.mono h1⟩
    · rcases get_set q with ⟨rfl, qe⟩ | ⟨n, q⟩
      · cases qe
        rw [Fl.own_fz] at z
        cases z
      · obtain ⟨a, q1, q2, q3, q4⟩ := s.ow j c' d' q z
        exact ⟨a, q1, h6 j c' d' a n q z q1, q3, q4.mono h1⟩
    · rcases get_set q1 with ⟨rfl, qe⟩ | ⟨n1, q1⟩
      · cases qe
        rw [Fl.own_fz] at z1
        cases z1
      rcases get_set q2 with ⟨rfl, qe⟩ | ⟨n2, q2⟩
      · cases qe
        rw [Fl.own_fz] at z2
        cases z2
      exact s.dj j k c1 c2 d1 d2 a q1 q2 z1 z2 t1 t2
    · rcases get_set q with ⟨rfl, qe⟩ | ⟨n, q⟩
      · cases qe
        rw [Fl.pin_fz] at z
        exact s.pin j c d e z
      · exact s.pin j c' d' q z
  cases ho : c.own with
  | false =>
    obtain ⟨v, h1, h2⟩ := s.fz i c d e ho
    exact ⟨B, v, Ext.refl B, sl B v (Ext.refl B) s.sub s.dis h1 h2 fun j c' d' a _ q z t => by
      obtain ⟨a', q1, q2, _⟩ := s.ow j c' d' q z
      rw [t] at q1
      cases q1
      exact q2, h1, h2⟩
  | true =>
    obtain ⟨a, h1, h2, h3, h4⟩ := s.ow i c d e ho
    obtain ⟨u, hu, hd, pu⟩ := h4.den h2
    refine ⟨upd B a u, .ref a, Ext.new h2, sl _ _ (Ext.new h2) (s.sub.upd hu pu) (fun b o z => ?_) h1 hd (fun j c' d' b n q z t => ?_), h1, hd⟩
    · rw [upd_ne (ne_of_none z h3)]
      exact s.dis b o z
    · obtain ⟨b', q1, q2, _⟩ := s.ow j c' d' q z
      rw [t] at q1
      cases q1
      rw [upd_ne fun y => n (s.dj j i c' c d' d b q e z ho t (by rw [y]; exact h1))]
      exact q2

/-! ### operands -/
/-- an operand: a name, or data -/
inductive Ref where
  | sl (i : Nat) | dt (d : D)
def Ref.get (g : G) : Ref → Option D
  | .sl i => match g[i]? with
    | some (some (_, d)) => some d
    | _ => none
  | .dt d => some d
def RefOk (w : WD) (B : Hp) (σ : L2.St) (v : V) : Ref → Prop
  | .sl i => σ[i]? = some (some v)
  | .dt d => Den w B v d
theorem RefOk.mono {v : V} (h : Ext B B') : ∀ {r : Ref}, RefOk w B σ v r → RefOk w B' σ v r
  | .sl _, e => e
  | .dt _, e => Den.mono h e
/-- v holds d as it stands now -/
inductive Lk (w : WD) (B H : Hp) : V → D → Prop where
  | den {v : V} {d : D} : Den w B v d → Lk w B H v d
  | own {a : Addr} {d : D} : B a = none → Own w B H a d → Lk w B H (.ref a) d
theorem Sat.lk {v : V} {r : Ref} {d : D} (s : Sat w π B Z g σ H) (h : RefOk w B σ v r) (e : r.get g = some d) : Lk w B H v d := by
  cases r with
  | dt d' =>
    have e : some d' = some d := e
    cases e
    exact .den h
  | sl i =>
    have h : σ[i]? = some (some v) := h
    have e : (match g[i]? with
    | some (some (_, d)) => some d
    | _ => none) = some d := e
    split at e
    · rename_i c d' q
      cases e
      cases ho : c.own with
      | false =>
        obtain ⟨u, q1, q2⟩ := s.fz i c d q ho
        rw [h] at q1
        cases q1
        exact .den q2
      | true =>
        obtain ⟨a, q1, q2, q3, q4⟩ := s.ow i c d q ho
        rw [h] at q1
        cases q1
        exact .own q2 q4
    · cases e

/-! ### what a reading does to data -/
abbrev SE := G → O (Bool × D)
abbrev SB := G → O Ref
abbrev SA := G → O (List Ref)
abbrev ST := G → O Bool
abbrev SO := G → O (Option Int)
abbrev SS := G → F
end
inductive RefsOk (w : WD) (B : Hp) (σ : L2.St) : List V → List Ref → Prop where
  | nil : RefsOk w B σ [] []
  | cons {v : V} {vs : List V} {r : Ref} {rs : List Ref} : RefOk w B σ v r → RefsOk w B σ vs rs → RefsOk w B σ (v :: vs) (r :: rs)
theorem RefsOk.mono {w : WD} {B B' : Hp} {σ : L2.St} (h : Ext B B') : ∀ {vs : List V} {rs : List Ref}, RefsOk w B σ vs rs → RefsOk w B' σ vs rs
  | _, _, .nil => .nil
  | _, _, .cons r t => .cons (r.mono h) (t.mono h)
section
variable (w : WD) (W : WX) (π : Nat → V) (B Z : Hp)
def PostB (σ : L2.St) (Q : VK) : O Ref → Prop
  | .ok r g => ∀ v B' H', Ext B B' → Sat w π B' Z g σ H' → RefOk w B' σ v r → Q v H'
  | .ex x f g => PostX w W π B Z x f g
  | .fail => False
def PostA (σ : L2.St) (Q : List V → Hp → Prop) : O (List Ref) → Prop
  | .ok r g => ∀ v B' H', Ext B B' → Sat w π B' Z g σ H' → RefsOk w B' σ v r → Q v H'
  | .ex x f g => PostX w W π B Z x f g
  | .fail => False
/-- a plain Lean value comes -/
def PostL {α : Type} (σ : L2.St) (Q : α → Hp → Prop) : O α → Prop
  | .ok r g => ∀ B' H', Ext B B' → Sat w π B' Z g σ H' → Q r H'
  | .ex x f g => PostX w W π B Z x f g
  | .fail => False
def PostS (D : Ends) : F → Prop
  | .nx g => ∀ B' H' σ', Ext B B' → Sat w π B' Z g σ' H' → D.nx σ' H'
  | .bk g => ∀ B' H' σ', Ext B B' → Sat w π B' Z g σ' H' → D.bk σ' H'
  | .ct g => ∀ B' H' σ', Ext B B' → Sat w π B' Z g σ' H' → D.ct σ' H'
  | .rt o d g => ∀ v B' H' σ', Ext B B' → Sat w π B' Z g σ' H' → Res w B' Z g σ' H' v o d → D.rt v H'
  | .ex x f g => PostX w W π B Z x f g
  | .fail => False
end
section
variable (w : WD) (W : WX)
def RE (te : TE) (se : SE) : Prop := ∀ π B Z g σ H Q, Sat w π B Z g σ H → PostE w W π B Z σ Q (se g) → te σ H Q
def RB (te : TE) (sb : SB) : Prop := ∀ π B Z g σ H Q, Sat w π B Z g σ H → PostB w W π B Z σ Q (sb g) → te σ H Q
def RA (ta : TA) (sa : SA) : Prop := ∀ π B Z g σ H Q, Sat w π B Z g σ H → PostA w W π B Z σ Q (sa g) → ta σ H Q
def RT (tt : TT) (st : ST) : Prop := ∀ π B Z g σ H Q, Sat w π B Z g σ H → PostL w W π B Z σ Q (st g) → tt σ H Q
def RO (to : TO) (so : SO) : Prop := ∀ π B Z g σ H Q, Sat w π B Z g σ H → PostL w W π B Z σ Q (so g) → to σ H Q
def RS (ts : TS) (ss : SS) : Prop := ∀ π B Z g σ H D, Sat w π B Z g σ H → PostS w W π B Z D (ss g) → ts D σ H
end
section
variable {w : WD} {W : WX} {π : Nat → V} {B B' B1 Z : Hp} {g : G} {σ : L2.St} {H H' : Hp}
theorem PostX.mono {x : XN} {f : Option D} (e : Ext B B') (h : PostX w W π B Z x f g) : PostX w W π B' Z x f g := fun hx dd B2 H2 σ2 e2 => h hx dd B2 H2 σ2 (e.trans e2)
theorem PostE.mono {Q : VK} (e : Ext B B') : ∀ {x : O (Bool × D)}, PostE w W π B Z σ Q x → PostE w W π B' Z σ Q x
  | .ok (_, _) _, h => fun v B2 H2 e2 => h v B2 H2 (e.trans e2)
  | .ex _ _ _, h => PostX.mono e h
  | .fail, h => h
theorem PostB.mono {Q : VK} (e : Ext B B') : ∀ {x : O Ref}, PostB w W π B Z σ Q x → PostB w W π B' Z σ Q x
  | .ok _ _, h => fun v B2 H2 e2 => h v B2 H2 (e.trans e2)
  | .ex _ _ _, h => PostX.mono e h
  | .fail, h => h
theorem PostA.mono {Q : List V → Hp → Prop} (e : Ext B B') : ∀ {x : O (List Ref)}, PostA w W π B Z σ Q x → PostA w W π B' Z σ Q x
  | .ok _ _, h => fun v B2 H2 e2 => h v B2 H2 (e.trans e2)
  | .ex _ _ _, h => PostX.mono e h
  | .fail, h => h
theorem PostL.mono {α : Type} {Q : α → Hp → Prop} (e : Ext B B') : ∀ {x : O α}, PostL w W π B Z σ Q x → PostL w W π B' Z σ Q x
  | .ok _ _, h => fun B2 H2 e2 => h B2 H2 (e.trans e2)
  | .ex _ _ _, h => PostX.mono e h
  | .fail, h => h
theorem PostS.mono {D : Ends} (e : Ext B B') : ∀ {x : F}, PostS w W π B Z D x → PostS w W π B' Z D x
  | .nx _, h => fun B2 H2 σ2 e2 => h B2 H2 σ2 (e.trans e2)
  | .bk _, h => fun B2 H2 σ2 e2 => h B2 H2 σ2 (e.trans e2)
  | .ct _, h => fun B2 H2 σ2 e2 => h B2 H2 σ2 (e.trans e2)
  | .rt _ _ _, h => fun v B2 H2 σ2 e2 => h v B2 H2 σ2 (e.trans e2)
  | .ex _ _ _, h => PostX.mono e h
  | .fail, h => h
/-! what follows a part: any kind of end that passes exceptions on -/
/-- an end of what is left: its kind's Post, which grows with the background and passes exceptions -/
structure Tail (w : WD) (W : WX) (π : Nat → V) (Z : Hp) {α : Type} (P : Hp → O α → Prop) : Prop where
  mono : ∀ {B B'} {x : O α}, Ext B B' → P B x → P B' x
  ex : ∀ {B x f g}, P B (.ex x f g) → PostX w W π B Z x f g
  no : ∀ {B}, ¬ P B .fail
theorem tailE {Q : VK} : Tail w W π Z (fun B => PostE w W π B Z σ Q) := ⟨fun e h => h.mono e, fun h => h, fun h => h⟩
theorem tailB {Q : VK} : Tail w W π Z (fun B => PostB w W π B Z σ Q) := ⟨fun e h => h.mono e, fun h => h, fun h => h⟩
theorem tailA {Q : List V → Hp → Prop} : Tail w W π Z (fun B => PostA w W π B Z σ Q) := ⟨fun e h => h.mono e, fun h => h, fun h => h⟩
theorem tailL {α : Type} {Q : α → Hp → Prop} : Tail w W π Z (fun B => PostL w W π B Z σ Q) := ⟨fun e h => h.mono e, fun h => h, fun h => h⟩
theorem Tail.bE {α : Type} {P : Hp → O α → Prop} (T : Tail w W π Z P) {x : O (Bool × D)} {k : Bool × D → G → O α} {Q1 : VK} (h : P B (x.bind k))
    (K : ∀ o d g1 v B1 H1, Ext B B1 → Sat w π B1 Z g1 σ H1 → Res w B1 Z g1 σ H1 v o d → P B1 (k (o, d) g1) → Q1 v H1) : PostE w W π B Z σ Q1 x := by
  cases x with
  | ok a g1 => exact fun v B1 H1 e s r => K a.1 a.2 g1 v B1 H1 e s r (T.mono e h)
  | ex x f g => exact T.ex h
  | fail => exact T.no h
theorem Tail.bB {α : Type} {P : Hp → O α → Prop} (T : Tail w W π Z P) {x : O Ref} {k : Ref → G → O α} {Q1 : VK} (h : P B (x.bind k))
    (K : ∀ r g1 v B1 H1, Ext B B1 → Sat w π B1 Z g1 σ H1 → RefOk w B1 σ v r → P B1 (k r g1) → Q1 v H1) : PostB w W π B Z σ Q1 x := by
  cases x with
  | ok a g1 => exact fun v B1 H1 e s r => K a g1 v B1 H1 e s r (T.mono e h)
  | ex x f g => exact T.ex h
  | fail => exact T.no h
theorem Tail.bA {α : Type} {P : Hp → O α → Prop} (T : Tail w W π Z P) {x : O (List Ref)} {k : List Ref → G → O α} {Q1 : List V → Hp → Prop} (h : P B (x.bind k))
    (K : ∀ r g1 v B1 H1, Ext B B1 → Sat w π B1 Z g1 σ H1 → RefsOk w B1 σ v r → P B1 (k r g1) → Q1 v H1) : PostA w W π B Z σ Q1 x := by
  cases x with
  | ok a g1 => exact fun v B1 H1 e s r => K a g1 v B1 H1 e s r (T.mono e h)
  | ex x f g => exact T.ex h
  | fail => exact T.no h
theorem Tail.bL {α β : Type} {P : Hp → O α → Prop} (T : Tail w W π Z P) {x : O β} {k : β → G → O α} {Q1 : β → Hp → Prop} (h : P B (x.bind k))
    (K : ∀ r g1 B1 H1, Ext B B1 → Sat w π B1 Z g1 σ H1 → P B1 (k r g1) → Q1 r H1) : PostL w W π B Z σ Q1 x := by
  cases x with
  | ok a g1 => exact fun B1 H1 e s => K a g1 B1 H1 e s (T.mono e h)
  | ex x f g => exact T.ex h
  | fail => exact T.no h
/-! ### names and constants -/
def sbVar (i : Nat) : SB := fun g => match g[i]? with
  | some (some _) => .ok (.sl i) g
  | _ => .fail
/-- the value of a name: frozen from now on -/
def seVar (i : Nat) : SE := fun g => match g[i]? with
  | some (some (c, d)) => .ok (false, d) (g.set i (some (c.fz, d)))
  | _ => .fail
theorem rb_var {i : Nat} : RB w W (tVar i) (sbVar i) := fun π B Z g σ H Q s h => by
  unfold sbVar at h
  split at h
  · rename_i p e
    obtain ⟨c, d⟩ := p
    obtain ⟨v, hv⟩ : ∃ v, σ[i]? = some (some v) := by
      cases ho : c.own with
      | false => obtain ⟨v, q, _⟩ := s.fz i c d e ho; exact ⟨v, q⟩
      | true => obtain ⟨a, q, _⟩ := s.ow i c d e ho; exact ⟨_, q⟩
    exact ⟨v, hv, h v B H (Ext.refl B) s hv⟩
  · exact h.elim
theorem re_var {i : Nat} : RE w W (tVar i) (seVar i) := fun π B Z g σ H Q s h => by
  unfold seVar at h
  split at h
  · rename_i c d e
    obtain ⟨B1, v, e1, s1, hv, hd⟩ := s.freeze e
    exact ⟨v, hv, h v B1 H e1 s1 hd⟩
  · exact h.elim
def seC (d : D) : SE := fun g => .ok (false, d) g
theorem re_c {v : V} {d : D} (h : ∀ B, Den w B v d) : RE w W (tC v) (seC d) := fun π B Z g σ H Q s q => q v B H (Ext.refl B) s (h B)
theorem re_int {i : Int} : RE w W (tC (.int i)) (seC (.int i)) := re_c fun _ => .int i
theorem re_bl {b : Bool} : RE w W (tC (.bl b)) (seC (.bl b)) := re_c fun _ => .bl b
theorem re_non : RE w W (tC .non) (seC .non) := re_c fun _ => .non
theorem re_str {x : Str} : RE w W (tC (.str x)) (seC (.str x)) := re_c fun _ => .str x
/-- any expression as an operand -/
def sbOf (se : SE) : SB := fun g => (se g).bind fun r g1 => .ok (.dt r.2) g1
theorem rb_of {te : TE} {se : SE} (h : RE w W te se) : RB w W te (sbOf se) := fun π B Z g σ H Q s q =>
  h π B Z g σ H Q s (tailB.bE q fun o d g1 v B1 H1 e s1 r q1 => by
    obtain ⟨B2, e2, s2, hd⟩ := r.freeze s1
    exact q1 v B2 H1 e2 s2 hd)
/-! ### argument lists -/
def saNil : SA := fun g => .ok [] g
def saCons (sb : SB) (sa : SA) : SA := fun g => (sb g).bind fun r g1 => (sa g1).bind fun rs g2 => .ok (r :: rs) g2
theorem ra_nil : RA w W tNil saNil := fun π B Z g σ H Q s q => q [] B H (Ext.refl B) s .nil
theorem ra_cons {te : TE} {ta : TA} {sb : SB} {sa : SA} (h : RB w W te sb) (t : RA w W ta sa) : RA w W (tCons te ta) (saCons sb sa) := fun π B Z g σ H Q s q =>
  h π B Z g σ H _ s (tailA.bB q fun r g1 v B1 H1 e s1 r1 q1 => t π B1 Z g1 σ H1 _ s1 (tailA.bA q1 fun rs g2 vs B2 H2 e2 s2 r2 q2 => q2 _ B2 H2 (Ext.refl _) s2 (.cons (r1.mono e2) r2)))
/-! ### operations by values -/
def PostF (w : WD) (π : Nat → V) (B Z : Hp) (g : G) (σ : L2.St) (Q : VK) : Option (Bool × D) → Prop
  | some (o, d) => ∀ v B' H', Ext B B' → Sat w π B' Z g σ H' → Res w B' Z g σ H' v o d → Q v H'
  | none => False
def ofOpt (g : G) : Option (Bool × D) → O (Bool × D)
  | some r => .ok r g
  | none => .fail
inductive Lks (w : WD) (B H : Hp) : List V → List D → Prop where
  | nil : Lks w B H [] []
  | cons {v : V} {vs : List V} {d : D} {ds : List D} : Lk w B H v d → Lks w B H vs ds → Lks w B H (v :: vs) (d :: ds)
def OpD (w : WD) (r : R2) (f : D → D → Option (Bool × D)) : Prop := ∀ π B Z g σ H Q v u d e, Sat w π B Z g σ H → Lk w B H v d → Lk w B H u e → PostF w π B Z g σ Q (f d e) → r v u H Q
def CallD (w : WD) (r : List V → Hp → VK → Prop) (f : List D → Option (Bool × D)) : Prop := ∀ π B Z g σ H Q vs ds, Sat w π B Z g σ H → Lks w B H vs ds → PostF w π B Z g σ Q (f ds) → r vs H Q
def seOp (f : D → D → Option (Bool × D)) (sa sb : SB) : SE := fun g => (sa g).bind fun a g1 => (sb g1).bind fun b g2 => match a.get g2, b.get g2 with
  | some d, some e => ofOpt g2 (f d e)
  | _, _ => .fail
theorem postE_opt {Q : VK} {o : Option (Bool × D)} (h : PostE w W π B Z σ Q (ofOpt g o)) : PostF w π B Z g σ Q o := by
  cases o with
  | none => exact h
  | some r => exact h
theorem re_op {r : R2} {f : D → D → Option (Bool × D)} {ta tb : TE} {sa sb : SB} (hf : OpD w r f) (ha : RB w W ta sa) (hb : RB w W tb sb) : RE w W (tOp r ta tb) (seOp f sa sb) := fun π B Z g σ H Q s q =>
  ha π B Z g σ H _ s (tailE.bB q fun a g1 v B1 H1 e1 s1 r1 q1 => hb π B1 Z g1 σ H1 _ s1 (tailE.bB q1 fun b g2 u B2 H2 e2 s2 r2 q2 => by
    split at q2
    · rename_i d e h1 h2
      exact hf π B2 Z g2 σ H2 Q v u d e s2 (s2.lk (r1.mono e2) h1) (s2.lk r2 h2) (postE_opt q2)
    · exact q2.elim))
def refsGet (g : G) : List Ref → Option (List D)
  | [] => some []
  | r :: rs => match r.get g, refsGet g rs with
    | some d, some ds => some (d :: ds)
    | _, _ => none
theorem Sat.lks (s : Sat w π B Z g σ H) {vs : List V} {rs : List Ref} {ds : List D} (r : RefsOk w B σ vs rs) (e : refsGet g rs = some ds) : Lks w B H vs ds := by
  induction r generalizing ds with
  | nil =>
    cases e
    exact .nil
  | cons r t ih =>
    unfold refsGet at e
    split at e
    · rename_i d ds h1 h2
      cases e
      exact .cons (s.lk r h1) (ih h2)
    · cases e
def seCB (f : List D → Option (Bool × D)) (sa : SA) : SE := fun g => (sa g).bind fun rs g1 => match refsGet g1 rs with
  | some ds => ofOpt g1 (f ds)
  | none => .fail
theorem re_cb {r : List V → Hp → VK → Prop} {f : List D → Option (Bool × D)} {ta : TA} {sa : SA} (hf : CallD w r f) (ha : RA w W ta sa) : RE w W (tCB r ta) (seCB f sa) := fun π B Z g σ H Q s q =>
  ha π B Z g σ H _ s (tailE.bA q fun rs g1 vs B1 H1 e1 s1 r1 q1 => by
    split at q1
    · rename_i ds h1
      exact hf π B1 Z g1 σ H1 Q vs ds s1 (s1.lks r1 h1) (postE_opt q1)
    · exact q1.elim)
/-! ### tests -/
def stB (se : SE) : ST := fun g => (se g).bind fun r g1 => match r.2 with
  | .bl b => .ok b g1
  | _ => .fail
theorem res_bl {v : V} {o b : Bool} (r : Res w B Z g σ H v o (.bl b)) : v = .bl b := by
  cases o with
  | false =>
    have r : Den w B v (.bl b) := r
    cases r
    rfl
  | true =>
    obtain ⟨a, _, _, _, ho, _⟩ := r
    cases ho
theorem rt_b {te : TE} {se : SE} (h : RE w W te se) : RT w W (tB te) (stB se) := fun π B Z g σ H Q s q =>
  h π B Z g σ H _ s (tailL.bE q fun o d g1 v B1 H1 e s1 r q1 => by
    cases d with
    | bl b => exact ⟨b, res_bl r, q1 B1 H1 (Ext.refl _) s1⟩
    | _ => exact q1.elim)
def stAnd (a b : ST) : ST := fun g => (a g).bind fun x g1 => if x = true then b g1 else .ok false g1
def stOr (a b : ST) : ST := fun g => (a g).bind fun x g1 => if x = true then .ok true g1 else b g1
def stNot (a : ST) : ST := fun g => (a g).bind fun x g1 => .ok (!x) g1
theorem rt_and {t u : TT} {a b : ST} (h : RT w W t a) (k : RT w W u b) : RT w W (tAnd t u) (stAnd a b) := fun π B Z g σ H Q s q =>
  h π B Z g σ H _ s (tailL.bL q fun x g1 B1 H1 e s1 q1 => by
    cases x with
    | true => exact k π B1 Z g1 σ H1 Q s1 q1
    | false => exact q1 B1 H1 (Ext.refl _) s1)
theorem rt_or {t u : TT} {a b : ST} (h : RT w W t a) (k : RT w W u b) : RT w W (tOr t u) (stOr a b) := fun π B Z g σ H Q s q =>
  h π B Z g σ H _ s (tailL.bL q fun x g1 B1 H1 e s1 q1 => by
    cases x with
    | false => exact k π B1 Z g1 σ H1 Q s1 q1
    | true => exact q1 B1 H1 (Ext.refl _) s1)
theorem rt_not {t : TT} {a : ST} (h : RT w W t a) : RT w W (tNot t) (stNot a) := fun π B Z g σ H Q s q =>
  h π B Z g σ H _ s (tailL.bL q fun x g1 B1 H1 e s1 q1 => q1 B1 H1 (Ext.refl _) s1)
/-- .. as values -/
def seAnd (a b : SE) : SE := fun g => (a g).bind fun r g1 => match r.2 with
  | .bl true => b g1
  | .bl false => .ok (false, .bl false) g1
  | _ => .fail
def seOr (a b : SE) : SE := fun g => (a g).bind fun r g1 => match r.2 with
  | .bl false => b g1
  | .bl true => .ok (false, .bl true) g1
  | _ => .fail
def seNot (a : SE) : SE := fun g => (a g).bind fun r g1 => match r.2 with
  | .bl b => .ok (false, .bl (!b)) g1
  | _ => .fail
theorem re_and {t u : TE} {a b : SE} (h : RE w W t a) (k : RE w W u b) : RE w W (tAndV t u) (seAnd a b) := fun π B Z g σ H Q s q =>
  h π B Z g σ H _ s (tailE.bE q fun o d g1 v B1 H1 e s1 r q1 => by
    cases d with
    | bl x =>
      cases x with
      | true => exact ⟨true, res_bl r, k π B1 Z g1 σ H1 Q s1 q1⟩
      | false => exact ⟨false, res_bl r, q1 _ B1 H1 (Ext.refl _) s1 (.bl false)⟩
    | _ => exact q1.elim)
theorem re_or {t u : TE} {a b : SE} (h : RE w W t a) (k : RE w W u b) : RE w W (tOrV t u) (seOr a b) := fun π B Z g σ H Q s q =>
  h π B Z g σ H _ s (tailE.bE q fun o d g1 v B1 H1 e s1 r q1 => by
    cases d with
    | bl x =>
      cases x with
      | false => exact ⟨false, res_bl r, k π B1 Z g1 σ H1 Q s1 q1⟩
      | true => exact ⟨true, res_bl r, q1 _ B1 H1 (Ext.refl _) s1 (.bl true)⟩
    | _ => exact q1.elim)
theorem re_not {t : TE} {a : SE} (h : RE w W t a) : RE w W (tNotV t) (seNot a) := fun π B Z g σ H Q s q =>
  h π B Z g σ H _ s (tailE.bE q fun o d g1 v B1 H1 e s1 r q1 => by
    cases d with
    | bl x => exact ⟨x, res_bl r, q1 _ B1 H1 (Ext.refl _) s1 (.bl (!x))⟩
    | _ => exact q1.elim)
def seIf (c : ST) (a b : SE) : SE := fun g => (c g).bind fun x g1 => if x = true then a g1 else b g1
theorem re_if {tc : TT} {ta tb : TE} {c : ST} {a b : SE} (hc : RT w W tc c) (ha : RE w W ta a) (hb : RE w W tb b) : RE w W (tIf tc ta tb) (seIf c a b) := fun π B Z g σ H Q s q =>
  hc π B Z g σ H _ s (tailE.bL q fun x g1 B1 H1 e s1 q1 => by
    cases x with
    | true => exact ha π B1 Z g1 σ H1 Q s1 q1
    | false => exact hb π B1 Z g1 σ H1 Q s1 q1)
/-- either reading -/
def tAlt (t u : TE) : TE := fun σ H Q => t σ H Q ∨ u σ H Q
end
theorem pe_alt {X : Cx} {e : Expr} {t u : TE} (h : PE X e t) (k : PE X e u) : PE X e (tAlt t u) := ⟨fun pins s σ H Q I q => q.elim (h.run pins s σ H Q I) (k.run pins s σ H Q I)⟩
end M7
namespace M7
open PySem PySem.Spec PyProof.Rows L2
section
variable {w : WD} {W : WX} {π : Nat → V} {B B' B1 Z : Hp} {g : G} {σ : L2.St} {H H' : Hp}
/-- the object of slot i is written anew -/
theorem Sat.write {i : Nat} {c : Fl} {d d' : D} {a : Addr} {o : HO} (s : Sat w π B Z g σ H) (e : g[i]? = some (some (c, d))) (ho : c.own = true) (ha : σ[i]? = some (some (.ref a))) (n : Own w B (upd H a o) a d') :
    Sat w π B Z (g.set i (some (c, d'))) σ (upd H a o) := by
  obtain ⟨a', q1, hB, hZ, how⟩ := s.ow i c d e ho
  rw [ha] at q1
  cases q1
  obtain ⟨u0, hu0, pu0⟩ := how.pl
  refine ⟨fun b u q => ?_, s.keep.upd hu0 pu0 hZ, s.dis, by rw [List.length_set]; exact s.len, fun j c' x q z => ?_, fun j c' x q z => ?_, fun j k c1 c2 d1 d2 b q1 q2 z1 z2 t1 t2 => ?_, fun j c' x q z => ?_, s.tz⟩
  · rw [upd_ne (ne_of_none q hB)]
    exact s.sub b u q
  · rcases get_set q with ⟨rfl, qe⟩ | ⟨nj, q⟩
    · cases qe
      rw [ho] at z
      cases z
    · exact s.fz j c' x q z
  · rcases get_set q with ⟨rfl, qe⟩ | ⟨nj, q⟩
    · cases qe
      exact ⟨a, ha, hB, hZ, n⟩
    · obtain ⟨b, r1, r2, r3, r4⟩ := s.ow j c' x q z
      have nb : b ≠ a := fun y => nj (s.dj j i c' c x d b q e z ho r1 (by rw [y]; exact ha))
      exact ⟨b, r1, r2, r3, r4.at (upd_ne nb)⟩
  · have back : ∀ {j c1 d1}, (g.set i (some (c, d')))[j]? = some (some (c1, d1)) → ∃ d0, g[j]? = some (some (c1, d0)) := fun {j c1 d1} q => by
      rcases get_set q with ⟨rfl, qe⟩ | ⟨_, q⟩
      · cases qe
        exact ⟨d, e⟩
      · exact ⟨d1, q⟩
    obtain ⟨e1, q1⟩ := back q1
    obtain ⟨e2, q2⟩ := back q2
    exact s.dj j k c1 c2 e1 e2 b q1 q2 z1 z2 t1 t2
  · rcases get_set q with ⟨rfl, qe⟩ | ⟨_, q⟩
    · cases qe
      exact s.pin j c d e z
    · exact s.pin j c' x q z
/-- a value is stored in slot i -/
def setS (g : G) (i : Nat) (r : Bool × D) : Option G := match g[i]? with
  | some (some (c, _)) => if c.pin = true then none else some (g.set i (some (if r.1 = true then .o else .f, r.2)))
  | some none => some (g.set i (some (if r.1 = true then .o else .f, r.2)))
  | none => none
theorem getσ_set {σ : L2.St} {i j : Nat} {v : V} {y} (h : (σ.set i (some v))[j]? = some y) : (j = i ∧ y = some v) ∨ (j ≠ i ∧ σ[j]? = some y) := by
  rw [List.getElem?_set] at h
  split at h
  · rename_i e
    split at h
    · exact .inl ⟨e.symm, by cases h; rfl⟩
    · cases h
  · rename_i e
    exact .inr ⟨fun z => e z.symm, h⟩
theorem Sat.set {i : Nat} {v : V} {o : Bool} {d : D} {g' : G} (s : Sat w π B Z g σ H) (r : Res w B Z g σ H v o d) (e : setS g i (o, d) = some g') : Sat w π B Z g' (σ.set i (some v)) H := by
  have key : i < g.length ∧ g' = g.set i (some (if o = true then Fl.o else Fl.f, d)) ∧ ∀ c e', g[i]? = some (some (c, e')) → c.pin = false := by
    unfold setS at e
    split at e
    · rename_i c d0 q
      split at e
      · cases e
      · rename_i np
        cases e
        refine ⟨(List.getElem?_eq_some_iff.mp q).1, rfl, fun c' e' q' => ?_⟩
        rw [q] at q'
        cases q'
        cases h : c.pin
        · rfl
        · exact absurd h np
    · rename_i q
      cases e
      refine ⟨(List.getElem?_eq_some_iff.mp q).1, rfl, fun c' e' q' => ?_⟩
      rw [q] at q'
      cases q'
    · cases e
  obtain ⟨hi, rfl, np⟩ := key
  have hiσ : i < σ.length := by rw [← s.len]; exact hi
  have same : (σ.set i (some v))[i]? = some (some v) := by rw [List.getElem?_set_self hiσ]
  have other : ∀ j, j ≠ i → (σ.set i (some v))[j]? = σ[j]? := fun j n => List.getElem?_set_ne (fun z => n z.symm)
  refine ⟨s.sub, s.keep, s.dis, by rw [List.length_set, List.length_set]; exact s.len, fun j c x q z => ?_, fun j c x q z => ?_, fun j k c1 c2 d1 d2 a q1 q2 z1 z2 t1 t2 => ?_, fun j c x q z => ?_, s.tz⟩
  · rcases get_set q with ⟨rfl, qe⟩ | ⟨n, q⟩
    · cases qe
      cases o with
      | true => cases z
      | false => exact ⟨v, same, r⟩
    · rw [other j n]
      exact s.fz j c x q z
  · rcases get_set q with ⟨rfl, qe⟩ | ⟨n, q⟩
    · cases qe
      cases o with
      | false => cases z
      | true =>
        obtain ⟨a, rfl, h1, h2, h3, _⟩ := r
        exact ⟨a, same, h1, h2, h3⟩
    · rw [other j n]
      exact s.ow j c x q z
  · rcases get_set q1 with ⟨rfl, qe⟩ | ⟨n1, q1'⟩
    · rcases get_set q2 with ⟨rfl, qe2⟩ | ⟨n2, q2'⟩
      · rfl
      · cases qe
        cases o with
        | false => cases z1
        | true =>
          obtain ⟨a', rfl, _, _, _, hn⟩ := r
          rw [same] at t1
          cases t1
          rw [other k n2] at t2
          exact absurd t2 (hn k c2 d2 q2' z2)
    · rcases get_set q2 with ⟨rfl, qe2⟩ | ⟨n2, q2'⟩
      · cases qe2
        cases o with
        | false => cases z2
        | true =>
          obtain ⟨a', rfl, _, _, _, hn⟩ := r
          rw [same] at t2
          cases t2
          rw [other j n1] at t1
          exact absurd t1 (hn j c1 d1 q1' z1)
      · rw [other j n1] at t1
        rw [other k n2] at t2
        exact s.dj j k c1 c2 d1 d2 a q1' q2' z1 z2 t1 t2
  · rcases get_set q with ⟨rfl, qe⟩ | ⟨n, q⟩
    · cases qe
      cases o <;> cases z
    · rw [other j n]
      exact s.pin j c x q z
/-! ### statements -/
def ssNext : SS := fun g => .nx g
def ssSeq (a b : SS) : SS := fun g => match a g with
  | .nx g1 => b g1
  | r => r
def ssBreak : SS := fun g => .bk g
def ssCont : SS := fun g => .ct g
def ofO {α : Type} (x : O α) (k : α → G → F) : F := match x with
  | .ok a g => k a g
  | .ex x f g => .ex x f g
  | .fail => .fail
theorem rs_next : RS w W tNext ssNext := fun π B Z g σ H D s q => q B H σ (Ext.refl B) s
theorem rs_break : RS w W tBreak ssBreak := fun π B Z g σ H D s q => q B H σ (Ext.refl B) s
theorem rs_cont : RS w W tCont ssCont := fun π B Z g σ H D s q => q B H σ (Ext.refl B) s
theorem rs_seq {t u : TS} {a b : SS} (h : RS w W t a) (k : RS w W u b) : RS w W (tSeq t u) (ssSeq a b) := fun π B Z g σ H D s q => by
  refine h π B Z g σ H _ s ?_
  unfold ssSeq at q
  split at q
  · rename_i g1 e
    rw [e]
    exact fun B1 H1 σ1 e1 s1 => k π B1 Z g1 σ1 H1 D s1 (q.mono e1)
  · rename_i r
    revert q r
    cases a g with
    | nx g1 => exact fun h _ => absurd rfl (h g1)
    | rt o d g1 => exact fun _ q => q
    | bk g1 => exact fun _ q => q
    | ct g1 => exact fun _ q => q
    | ex x f g1 => exact fun _ q => q
    | fail => exact fun _ q => q
/-- a part whose exception passes on, ahead of a statement's end -/
theorem postS_E {Ds : Ends} {x : O (Bool × D)} {k : Bool × D → G → F} {Q1 : VK} (h : PostS w W π B Z Ds (ofO x k))
    (K : ∀ o d g1 v B1 H1, Ext B B1 → Sat w π B1 Z g1 σ H1 → Res w B1 Z g1 σ H1 v o d → PostS w W π B1 Z Ds (k (o, d) g1) → Q1 v H1) : PostE w W π B Z σ Q1 x := by
  cases x with
  | ok a g1 => exact fun v B1 H1 e s r => K a.1 a.2 g1 v B1 H1 e s r (PostS.mono e h)
  | ex x f g => exact h
  | fail => exact h
theorem postS_B {Ds : Ends} {x : O Ref} {k : Ref → G → F} {Q1 : VK} (h : PostS w W π B Z Ds (ofO x k))
    (K : ∀ r g1 v B1 H1, Ext B B1 → Sat w π B1 Z g1 σ H1 → RefOk w B1 σ v r → PostS w W π B1 Z Ds (k r g1) → Q1 v H1) : PostB w W π B Z σ Q1 x := by
  cases x with
  | ok a g1 => exact fun v B1 H1 e s r => K a g1 v B1 H1 e s r (PostS.mono e h)
  | ex x f g => exact h
  | fail => exact h
theorem postS_A {Ds : Ends} {x : O (List Ref)} {k : List Ref → G → F} {Q1 : List V → Hp → Prop} (h : PostS w W π B Z Ds (ofO x k))
    (K : ∀ r g1 v B1 H1, Ext B B1 → Sat w π B1 Z g1 σ H1 → RefsOk w B1 σ v r → PostS w W π B1 Z Ds (k r g1) → Q1 v H1) : PostA w W π B Z σ Q1 x := by
  cases x with
  | ok a g1 => exact fun v B1 H1 e s r => K a g1 v B1 H1 e s r (PostS.mono e h)
  | ex x f g => exact h
  | fail => exact h
theorem postS_L {Ds : Ends} {α : Type} {x : O α} {k : α → G → F} {Q1 : α → Hp → Prop} (h : PostS w W π B Z Ds (ofO x k))
    (K : ∀ r g1 B1 H1, Ext B B1 → Sat w π B1 Z g1 σ H1 → PostS w W π B1 Z Ds (k r g1) → Q1 r H1) : PostL w W π B Z σ Q1 x := by
  cases x with
  | ok a g1 => exact fun B1 H1 e s => K a g1 B1 H1 e s (PostS.mono e h)
  | ex x f g => exact h
  | fail => exact h
def ssDrop (se : SE) : SS := fun g => ofO (se g) fun _ g1 => .nx g1
theorem rs_drop {te : TE} {se : SE} (h : RE w W te se) : RS w W (tDrop te) (ssDrop se) := fun π B Z g σ H D s q =>
  h π B Z g σ H _ s (postS_E q fun o d g1 v B1 H1 e s1 r q1 => q1 B1 H1 σ (Ext.refl _) s1)
def ssRet (se : SE) : SS := fun g => ofO (se g) fun r g1 => .rt r.1 r.2 g1
theorem rs_ret {te : TE} {se : SE} (h : RE w W te se) : RS w W (tRet te) (ssRet se) := fun π B Z g σ H D s q =>
  h π B Z g σ H _ s (postS_E q fun o d g1 v B1 H1 e s1 r q1 => q1 v B1 H1 σ (Ext.refl _) s1 r)
/-- a name is given back: an object of one's own goes with it -/
def seMove (i : Nat) : SE := fun g => match g[i]? with
  | some (some (.o, d)) => .ok (true, d) (g.set i none)
  | some (some (c, d)) => .ok (false, d) (g.set i (some (c.fz, d)))
  | _ => .fail
theorem re_move {i : Nat} : RE w W (tVar i) (seMove i) := fun π B Z g σ H Q s h => by
  unfold seMove at h
  split at h
  · rename_i d e
    obtain ⟨a, h1, h2, h3, h4⟩ := s.ow i .o d e rfl
    have old : ∀ {j : Nat} {x : Fl × D}, (g.set i none)[j]? = some (some x) → j ≠ i ∧ g[j]? = some (some x) := fun {j x} q => by
      rcases get_set q with ⟨rfl, qe⟩ | z
      · cases qe
      · exact z
    refine ⟨.ref a, h1, h _ B H (Ext.refl B) ⟨s.sub, s.keep, s.dis, by rw [List.length_set]; exact s.len, fun j c x q z => s.fz j c x (old q).2 z, fun j c x q z => s.ow j c x (old q).2 z, fun j k c1 c2 d1 d2 b q1 q2 => s.dj j k c1 c2 d1 d2 b (old q1).2 (old q2).2, fun j c x q z => s.pin j c x (old q).2 z, s.tz⟩ ⟨a, rfl, h2, h3, h4, fun j c x q z t => ?_⟩⟩
    exact (old q).1 (s.dj j i c .o x d a (old q).2 e z rfl t h1)
  · rename_i c d _ e
    obtain ⟨B1, v, e1, s1, hv, hd⟩ := s.freeze e
    exact ⟨v, hv, h v B1 H e1 s1 hd⟩
  · exact h.elim
def ssRetN : SS := fun g => .rt false .non g
theorem rs_retN : RS w W tRetN ssRetN := fun π B Z g σ H D s q => q .non B H σ (Ext.refl _) s Den.non
def ssIf (c : ST) (a b : SS) : SS := fun g => ofO (c g) fun x g1 => if x = true then a g1 else b g1
theorem rs_if {tc : TT} {t u : TS} {c : ST} {a b : SS} (hc : RT w W tc c) (ha : RS w W t a) (hb : RS w W u b) : RS w W (tIfS tc t u) (ssIf c a b) := fun π B Z g σ H D s q =>
  hc π B Z g σ H _ s (postS_L q fun x g1 B1 H1 e s1 q1 => by
    cases x with
    | true => exact ha π B1 Z g1 σ H1 D s1 q1
    | false => exact hb π B1 Z g1 σ H1 D s1 q1)
/-! ### targets -/
abbrev SG := Bool × D → G → Option G
def PostG (w : WD) (π : Nat → V) (B Z : Hp) (Q : L2.St → Hp → Prop) : Option G → Prop
  | some g => ∀ B' H' σ', Ext B B' → Sat w π B' Z g σ' H' → Q σ' H'
  | none => False
def RG (w : WD) (tg : TG) (sg : SG) : Prop := ∀ π B Z g σ H v o d Q, Sat w π B Z g σ H → Res w B Z g σ H v o d → PostG w π B Z Q (sg (o, d) g) → tg v σ H Q
abbrev SGs := List D → G → Option G
def RGs (w : WD) (tg : TGs) (sg : SGs) : Prop := ∀ π B Z g σ H vs ds Q, Sat w π B Z g σ H → Dens w B vs ds → PostG w π B Z Q (sg ds g) → tg vs σ H Q
def sgName (i : Nat) : SG := fun r g => setS g i r
theorem rg_name {i : Nat} : RG w (gName i) (sgName i) := fun π B Z g σ H v o d Q s r q => by
  unfold sgName at q
  cases e : setS g i (o, d) with
  | none => rw [e] at q; exact q.elim
  | some g' =>
    rw [e] at q
    exact q B H _ (Ext.refl _) (s.set r e)
def sgNil : SGs := fun ds g => match ds with
  | [] => some g
  | _ => none
def sgCons (a : SG) (b : SGs) : SGs := fun ds g => match ds with
  | [] => none
  | d :: r => match a (false, d) g with
    | some g1 => b r g1
    | none => none
theorem rg_nil : RGs w gNil sgNil := fun π B Z g σ H vs ds Q s r q => by
  cases r with
  | nil => exact ⟨rfl, q B H σ (Ext.refl _) s⟩
  | cons => exact q.elim
theorem PostG.mono {Q : L2.St → Hp → Prop} (e : Ext B B') : ∀ {x : Option G}, PostG w π B Z Q x → PostG w π B' Z Q x
  | some _, h => fun B2 H2 σ2 e2 => h B2 H2 σ2 (e.trans e2)
  | none, h => h
theorem rg_cons {a : TG} {b : TGs} {sa : SG} {sb : SGs} (h : RG w a sa) (k : RGs w b sb) : RGs w (gCons a b) (sgCons sa sb) := fun π B Z g σ H vs ds Q s r q => by
  cases r with
  | nil => exact q.elim
  | cons r t =>
    unfold sgCons at q
    refine ⟨_, _, rfl, h π B Z g σ H _ false _ _ s r ?_⟩
    simp only at q
    split at q
    · rename_i g1 e
      rw [e]
      exact fun B1 H1 σ1 e1 s1 => k π B1 Z g1 σ1 H1 _ _ Q s1 (t.mono e1) (q.mono e1)
    · exact q.elim
/-- a tuple or a list, unpacked -/
def gSeq (K : PySem.W.Frag) (n : Nat) (t : TGs) : TG := fun v σ H Q => ∃ a xs, v = .ref a ∧ (SqT K H a xs ∨ SqL K H a xs) ∧ xs.length = n ∧ t xs σ H Q
theorem pg_seq {X : Cx} {es : List Expr} {k : Nat} {pos : Pos} {t : TGs} {n : Nat} (hc : X.calm = true) (h : PGs X es t) (hn : (assignEach es X.env).length = n) (hst : (assignEach es X.env).findIdx? (·.1) = none) : PG X (.Tuple es k pos) (gSeq X.K n t) := by
  refine ⟨fun pins s σ H v u Q I r hw => ?_⟩
  obtain ⟨a, xs, e1, hq, hl, hw⟩ := hw
  rcases hq with hq | hq
  · exact (pg_tup hc h hn hst).run pins s σ H v u Q I r ⟨a, xs, e1, hq, hl, hw⟩
  · exact (pg_lst hc h hn hst).run pins s σ H v u Q I r ⟨a, xs, e1, hq, hl, hw⟩
def sgTup (n : Nat) (a : SGs) : SG := fun r g => match r.2 with
  | .tup ds => if ds.length = n then a ds g else none
  | .lst ds => if ds.length = n then a ds g else none
  | _ => none
theorem rg_tup {n : Nat} {t : TGs} {a : SGs} (h : RGs w t a) : RG w (gSeq w.K n t) (sgTup n a) := fun π B Z g σ H v o d Q s r q => by
  obtain ⟨B1, e1, s1, hd⟩ := r.freeze s
  cases d with
  | tup ds =>
    unfold sgTup at q
    simp only at q
    split at q
    · rename_i hl
      cases hd with
      | tup sq dn => exact ⟨_, _, rfl, .inl (s1.sub.sqT sq), dn.len.trans hl, h π B1 Z g σ H _ ds Q s1 dn (q.mono e1)⟩
    · exact q.elim
  | lst ds =>
    unfold sgTup at q
    simp only at q
    split at q
    · rename_i hl
      cases hd with
      | lst sq dn => exact ⟨_, _, rfl, .inr (.inl (s1.sub.rd (.inl sq))), dn.len.trans hl, h π B1 Z g σ H _ ds Q s1 dn (q.mono e1)⟩
    · exact q.elim
  | _ => exact q.elim
/-- target = e -/
def ssAsg (se : SE) (sg : SG) : SS := fun g => ofO (se g) fun r g1 => match sg r g1 with
  | some g2 => .nx g2
  | none => .fail
theorem rs_asg {te : TE} {tg : TG} {se : SE} {sg : SG} (h : RE w W te se) (k : RG w tg sg) : RS w W (tAsg te tg) (ssAsg se sg) := fun π B Z g σ H D s q =>
  h π B Z g σ H _ s (postS_E q fun o d g1 v B1 H1 e s1 r q1 => k π B1 Z g1 σ H1 v o d _ s1 r (by
    split at q1
    · rename_i g2 e2
      rw [e2]
      exact fun B2 H2 σ2 e2 s2 => q1 B2 H2 σ2 e2 s2
    · exact q1.elim))
/-- a new object that waits while other parts are evaluated -/
theorem Res.guard {v : V} {o : Bool} {d : D} (s : Sat w π B Z g σ H) (r : Res w B Z g σ H v o d) : ∃ Z', Ext Z Z' ∧ Sat w π B Z' g σ H ∧ ∀ B2 g2 σ2 H2, Ext B B2 → Sat w π B2 Z' g2 σ2 H2 →
    Sat w π B2 Z g2 σ2 H2 ∧ Res w B2 Z g2 σ2 H2 v o d ∧ (o = true → ∃ a : Addr, v = .ref a ∧ ∀ b, Z' b = none → b ≠ a) := by
  cases o with
  | false => exact ⟨Z, Ext.refl Z, s, fun B2 g2 σ2 H2 e s2 => ⟨s2, Den.mono e r, fun z => nomatch z⟩⟩
  | true =>
    obtain ⟨a, rfl, h1, h2, h3, h4⟩ := r
    obtain ⟨u, hu, pu⟩ := h3.pl
    refine ⟨upd Z a u, Ext.new h2, ⟨s.sub, fun b o q => ?_, fun b o q => ?_, s.len, s.fz, fun i c x q z => ?_, s.dj, s.pin, fun b n q => (s.tz b n q).elim fun o z => ⟨o, Ext.new h2 b o z⟩⟩, fun B2 g2 σ2 H2 e s2 => ?_⟩
    · by_cases hb : b = a
      · subst hb
        rw [upd_same] at q
        cases q
        exact .inl ⟨s.tn0 h2, pu, hu⟩
      · rw [upd_ne hb] at q
        exact s.keep b o q
    · by_cases hb : b = a
      · subst hb
        exact h1
      · rw [upd_ne hb] at q
        exact s.dis b o q
    · obtain ⟨b, q1, q2, q3, q4⟩ := s.ow i c x q z
      exact ⟨b, q1, q2, by rw [upd_ne fun y => h4 i c x q z (by rw [← y]; exact q1)]; exact q3, q4⟩
    · have za : ∀ b, upd Z a u b = none → Z b = none ∧ b ≠ a := fun b q => by
        by_cases hb : b = a
        · subst hb
          rw [upd_same] at q
          cases q
        · rw [upd_ne hb] at q
          exact ⟨q, hb⟩
      refine ⟨⟨s2.sub, s2.keep.sub (Ext.new h2), fun b o q => s2.dis b o (Ext.new h2 b o q), s2.len, s2.fz, fun i c x q z => ?_, s2.dj, s2.pin, s.tz⟩, ⟨a, rfl, s2.dis a u upd_same, h2, (h3.mono e).at ((s2.keep.at (s.tn0 h2) upd_same).trans hu.symm), fun i c x q z t => ?_⟩, fun _ => ⟨a, rfl, fun b q => (za b q).2⟩⟩
      · obtain ⟨b, q1, q2, q3, q4⟩ := s2.ow i c x q z
        exact ⟨b, q1, q2, (za b q3).1, q4⟩
      · obtain ⟨b, q1, q2, q3, q4⟩ := s2.ow i c x q z
        rw [t] at q1
        cases q1
        exact (za a q3).2 rfl
/-- a, b = x, y -/
def ssPar (i j : Nat) (sa sb : SE) : SS := fun g => ofO (sa g) fun r g1 => ofO (sb g1) fun u g2 => match setS g2 i r with
  | some g3 => match setS g3 j u with
    | some g4 => .nx g4
    | none => .fail
  | none => .fail
theorem rs_par {i j : Nat} {ta tb : TE} {sa sb : SE} (ha : RE w W ta sa) (hb : RE w W tb sb) : RS w W (tPar i j (tCons ta (tCons tb tNil))) (ssPar i j sa sb) := fun π B Z g σ H D s q =>
  ha π B Z g σ H _ s (postS_E q fun o d g1 v B1 H1 e1 s1 r1 q1 => by
    obtain ⟨Z', ez, s1', back⟩ := r1.guard s1
    have q1' : PostS w W π B1 Z D (ofO (sb g1) fun u g2 => match setS g2 i (o, d) with
      | some g3 => match setS g3 j u with
        | some g4 => .nx g4
        | none => .fail
      | none => .fail) := q1
    refine hb π B1 Z' g1 σ H1 _ s1' ?_
    cases e : sb g1 with
    | fail => rw [e] at q1'; exact q1'
    | ex x f g2 =>
      rw [e] at q1'
      exact fun hx dd B2 H2 σ2 e2 s2 => q1' hx dd B2 H2 σ2 e2 (back B2 g2 σ2 H2 e2 s2).1
    | ok u g2 =>
      obtain ⟨o', d'⟩ := u
      rw [e] at q1'
      have q2 : PostS w W π B1 Z D (match setS g2 i (o, d) with
      | some g3 => match setS g3 j (o', d') with
        | some g4 => .nx g4
        | none => .fail
      | none => .fail) := q1'
      intro v' B2 H2 e2 s2 r2
      obtain ⟨t2, rv, hv⟩ := back B2 g2 σ H2 e2 s2
      refine ⟨v, v', rfl, ?_⟩
      split at q2
      · rename_i g3 h3
        split at q2
        · rename_i g4 h4
          have s3 := t2.set rv h3
          refine q2 B2 H2 _ e2 (s3.set ?_ h4)
          cases o' with
          | false => exact r2
          | true =>
            obtain ⟨b, rfl, k1, k2, k3, k4⟩ := r2
            have hZ : Z b = none := ez.none k2
            refine ⟨b, rfl, k1, hZ, k3, fun k c x z y t => ?_⟩
            have z' : g3[k]? = some (some (c, x)) := z
            rcases getσ_set t with ⟨rfl, te⟩ | ⟨nk, t⟩
            · cases te
              cases o with
              | true =>
                obtain ⟨a, ha', hna⟩ := hv rfl
                cases ha'
                exact hna b k2 rfl
              | false =>
                unfold setS at h3
                split at h3
                · split at h3
                  · cases h3
                  · cases h3
                    rcases get_set z' with ⟨_, ze⟩ | ⟨n, _⟩
                    · cases ze
                      cases y
                    · exact n rfl
                · cases h3
                  rcases get_set z' with ⟨_, ze⟩ | ⟨n, _⟩
                  · cases ze
                    cases y
                  · exact n rfl
                · cases h3
            · have zz : g2[k]? = some (some (c, x)) := by
                unfold setS at h3
                split at h3
                · split at h3
                  · cases h3
                  · cases h3
                    rcases get_set z' with ⟨n, _⟩ | ⟨_, z⟩
                    · exact absurd n nk
                    · exact z
                · cases h3
                  rcases get_set z' with ⟨n, _⟩ | ⟨_, z⟩
                  · exact absurd n nk
                  · exact z
                · cases h3
              exact k4 k c x zz y t
        · exact q2.elim
      · exact q2.elim)
end
end M7
namespace M7
open PySem PySem.Spec PyProof.Rows L2
/-- J yields the data ds, one after another -/
structure Walks (w : WD) (B : Hp) (J : It) (ds : List D) : Prop where
  stop : ∀ B1 H, Ext B B1 → Sub B1 H → J.stop ds.length H
  go : ∀ B1 H i d, Ext B B1 → Sub B1 H → ds[i]? = some d → J.go i H
  yld : ∀ B1 H i d x H', Ext B B1 → Sub B1 H → ds[i]? = some d → J.yld i H x H' → Ext H H' ∧ ∃ B2, Ext B1 B2 ∧ Sub B2 H' ∧ (∀ a o, H a = some o → B1 a = none → B2 a = none) ∧ Den w B2 x d
theorem Walks.mono {w : WD} {B B' : Hp} {J : It} {ds : List D} (h : Walks w B J ds) (e : Ext B B') : Walks w B' J ds :=
  ⟨fun B1 H e1 => h.stop B1 H (e.trans e1), fun B1 H i d e1 => h.go B1 H i d (e.trans e1), fun B1 H i d x H' e1 => h.yld B1 H i d x H' (e.trans e1)⟩
abbrev SI := G → O (List D)
section
variable (w : WD) (W : WX) (π : Nat → V) (B Z : Hp)
def PostI (σ : L2.St) (R : It → Hp → Prop) : O (List D) → Prop
  | .ok ds g => ∀ J B' H', Ext B B' → Sat w π B' Z g σ H' → Walks w B' J ds → R J H'
  | .ex x f g => PostX w W π B Z x f g
  | .fail => False
end
def RI (w : WD) (W : WX) (wi : TI) (si : SI) : Prop := ∀ π B Z g σ H R, Sat w π B Z g σ H → PostI w W π B Z σ R (si g) → wi σ H R
section
variable {w : WD} {W : WX} {π : Nat → V} {B B' B1 Z : Hp} {g : G} {σ : L2.St} {H H' : Hp}
/-- behind an item that was yielded -/
theorem Sat.yielded {B2 : Hp} (s : Sat w π B Z g σ H) (e : Ext B B2) (k : Ext H H') (h : Sub B2 H') (n : ∀ a o, H a = some o → B a = none → B2 a = none) : Sat w π B2 Z g σ H' :=
  (s.grow k).more e h (fun a o q => (s.keep.there q).elim fun u hu => n a u hu (s.dis a o q)) fun i c d a q z t => by
    obtain ⟨b, q1, q2, q3, q4⟩ := s.ow i c d q z
    rw [t] at q1
    cases q1
    obtain ⟨u, hu⟩ := q4.there
    exact n a u hu q2
/-! ### for -/
def loopL (sg : SG) (body : SS) : List D → G → F
  | [], g => .nx g
  | d :: ds, g => match sg (false, d) g with
    | none => .fail
    | some g1 => match body g1 with
      | .nx g2 => loopL sg body ds g2
      | .ct g2 => loopL sg body ds g2
      | .bk g2 => .nx g2
      | .rt o d g2 => .rt o d g2
      | .ex x f g2 => .ex x f g2
      | .fail => .fail
def ssFor (si : SI) (sg : SG) (body : SS) : SS := fun g => ofO (si g) fun ds g1 => loopL sg body ds g1
theorem rs_for {wi : TI} {tg : TG} {tb : TS} {si : SI} {sg : SG} {body : SS} (hi : RI w W wi si) (hg : RG w tg sg) (hb : RS w W tb body) : RS w W (tFor wi tg tb) (ssFor si sg body) := fun π B Z g σ H D s q => by
  refine hi π B Z g σ H _ s ?_
  unfold ssFor at q
  cases e : si g with
  | fail => rw [e] at q; exact q
  | ex x f g1 => rw [e] at q; exact q
  | ok ds g1 =>
    rw [e] at q
    have q : PostS w W π B Z D (loopL sg body ds g1) := q
    intro J B1 H1 e1 s1 wk
    refine ⟨fun i m σ H => m = ds.length - i ∧ i ≤ ds.length ∧ ∃ B' g', Ext B1 B' ∧ Sat w π B' Z g' σ H ∧ PostS w W π B' Z D (loopL sg body (ds.drop i) g'), ⟨ds.length, by simp, Nat.zero_le _, B1, g1, Ext.refl _, s1, q.mono e1⟩, ?_⟩
    rintro i m σ2 H2 ⟨rfl, hi, B2, g2, e2, s2, q2⟩
    by_cases hl : i < ds.length
    · have hd : ds[i]? = some ds[i] := List.getElem?_eq_getElem hl
      have hdr : ds.drop i = ds[i] :: ds.drop (i + 1) := List.drop_eq_getElem_cons hl
      refine .inr ⟨wk.go B2 H2 i _ e2 s2.sub hd, fun σ H => ∃ B' g', Ext B1 B' ∧ Sat w π B' Z g' σ H ∧ PostS w W π B' Z D (loopL sg body (ds.drop (i + 1)) g'), fun σ' H' p => ⟨ds.length - (i + 1), by omega, rfl, hl, p⟩, fun x H3 y => ?_⟩
      obtain ⟨k3, B3, e3, h3, n3, d3⟩ := wk.yld B2 H2 i _ x H3 e2 s2.sub hd y
      have s3 := s2.yielded e3 k3 h3 n3
      have q3 := q2.mono e3
      rw [hdr] at q3
      unfold loopL at q3
      refine hg π B3 Z g2 σ2 H3 x false _ _ s3 d3 ?_
      split at q3
      · exact q3.elim
      · rename_i g3 e4
        rw [e4]
        intro B4 H4 σ4 e5 s4
        refine hb π B4 Z g3 σ4 H4 _ s4 ?_
        have q4 := q3.mono e5
        have tot : Ext B1 B4 := e2.trans (e3.trans e5)
        split at q4
        · rename_i g5 e6
          rw [e6]
          exact fun B5 H5 σ5 e7 s5 => ⟨B5, g5, tot.trans e7, s5, q4.mono e7⟩
        · rename_i g5 e6
          rw [e6]
          exact fun B5 H5 σ5 e7 s5 => ⟨B5, g5, tot.trans e7, s5, q4.mono e7⟩
        · rename_i g5 e6
          rw [e6]
          exact fun B5 H5 σ5 e7 s5 => q4 B5 H5 σ5 e7 s5
        · rename_i e6
          rw [e6]
          exact q4
        · rename_i e6
          rw [e6]
          exact q4
        · exact q4.elim
    · have : i = ds.length := by omega
      subst this
      refine .inl ⟨wk.stop B2 H2 e2 s2.sub, ?_⟩
      rw [List.drop_length] at q2
      exact q2 B2 H2 σ2 (Ext.refl _) s2
/-! ### while -/
def loopW (c : ST) (body : SS) : Nat → G → F
  | 0, _ => .fail
  | n + 1, g => match c g with
    | .ok true g1 => match body g1 with
      | .nx g2 => loopW c body n g2
      | .ct g2 => loopW c body n g2
      | .bk g2 => .nx g2
      | .rt o d g2 => .rt o d g2
      | .ex x f g2 => .ex x f g2
      | .fail => .fail
    | .ok false g1 => .nx g1
    | .ex x f g1 => .ex x f g1
    | .fail => .fail
theorem rs_while {tc : TT} {tb : TS} {c : ST} {body : SS} (n : Nat) (hc : RT w W tc c) (hb : RS w W tb body) : RS w W (tWhile tc tb) (loopW c body n) := fun π B Z g σ H D s q => by
  refine ⟨fun m σ H => ∃ B' g', Ext B B' ∧ Sat w π B' Z g' σ H ∧ PostS w W π B' Z D (loopW c body m g'), ⟨n, B, g, Ext.refl _, s, q⟩, ?_⟩
  rintro m σ2 H2 ⟨B2, g2, e2, s2, q2⟩
  cases m with
  | zero => exact q2.elim
  | succ m =>
    unfold loopW at q2
    refine hc π B2 Z g2 σ2 H2 _ s2 ?_
    split at q2
    · rename_i g3 e3
      rw [e3]
      intro B3 H3 e4 s3
      refine ⟨fun σ H => ∃ B' g', Ext B B' ∧ Sat w π B' Z g' σ H ∧ PostS w W π B' Z D (loopW c body m g'), fun σ' H' p => ⟨m, Nat.lt_succ_self m, p⟩, ?_⟩
      refine hb π B3 Z g3 σ2 H3 _ s3 ?_
      have q4 := q2.mono e4
      have tot : Ext B B3 := e2.trans e4
      split at q4
      · rename_i g5 e6
        rw [e6]
        exact fun B5 H5 σ5 e7 s5 => ⟨B5, g5, tot.trans e7, s5, q4.mono e7⟩
      · rename_i g5 e6
        rw [e6]
        exact fun B5 H5 σ5 e7 s5 => ⟨B5, g5, tot.trans e7, s5, q4.mono e7⟩
      · rename_i g5 e6
        rw [e6]
        exact fun B5 H5 σ5 e7 s5 => q4 B5 H5 σ5 e7 s5
      · rename_i e6
        rw [e6]
        exact q4
      · rename_i e6
        rw [e6]
        exact q4
      · exact q4.elim
    · rename_i g3 e3
      rw [e3]
      intro B3 H3 e4 s3
      exact q2 B3 H3 σ2 e4 s3
    · rename_i e3
      rw [e3]
      exact q2
    · exact q2.elim
/-! ### comprehensions -/
def wipeG (g : G) : List Nat → G
  | [] => g
  | v :: vs => (wipeG g vs).set v none
/-- the slots vs as they were in g0 -/
def backG (g0 g : G) : List Nat → G
  | [] => g
  | v :: vs => (backG g0 g vs).set v (g0[v]?.join)
/-- none of these slots holds an object of one's own, or a lent one -/
def calmG (g : G) (vs : List Nat) : Bool := vs.all fun v => match g[v]? with
  | some (some (.f, _)) => true
  | some none => true
  | _ => false
theorem wipeG_len (g : G) : ∀ vs, (wipeG g vs).length = g.length
  | [] => rfl
  | v :: vs => by unfold wipeG; rw [List.length_set, wipeG_len g vs]
theorem wipeG_some {g : G} {i : Nat} {x : Fl × D} : ∀ {vs : List Nat}, (wipeG g vs)[i]? = some (some x) → g[i]? = some (some x) ∧ i ∉ vs
  | [], h => ⟨h, by simp⟩
  | v :: vs, h => by
    unfold wipeG at h
    rcases get_set h with ⟨_, z⟩ | ⟨n, h⟩
    · cases z
    · obtain ⟨h1, h2⟩ := wipeG_some h
      exact ⟨h1, fun m => (List.mem_cons.mp m).elim n h2⟩
theorem wipe_get {σ : L2.St} {i : Nat} : ∀ {vs : List Nat}, i ∉ vs → (wipe σ vs)[i]? = σ[i]?
  | [], _ => rfl
  | v :: vs, h => by
    unfold wipe
    rw [List.getElem?_set_ne (fun z => h (by simp [z])), wipe_get fun m => h (List.mem_cons_of_mem _ m)]
theorem Sat.wiped (s : Sat w π B Z g σ H) (vs : List Nat) : Sat w π B Z (wipeG g vs) (wipe σ vs) H :=
  ⟨s.sub, s.keep, s.dis, by rw [wipeG_len, wipe_length]; exact s.len, fun i c d q z => by
    obtain ⟨q1, q2⟩ := wipeG_some q
    rw [wipe_get q2]
    exact s.fz i c d q1 z, fun i c d q z => by
    obtain ⟨q1, q2⟩ := wipeG_some q
    rw [wipe_get q2]
    exact s.ow i c d q1 z, fun i j c c' d e a q1 q2 z1 z2 t1 t2 => by
    obtain ⟨q1, n1⟩ := wipeG_some q1
    obtain ⟨q2, n2⟩ := wipeG_some q2
    rw [wipe_get n1] at t1
    rw [wipe_get n2] at t2
    exact s.dj i j c c' d e a q1 q2 z1 z2 t1 t2, fun i c d q z => by
    obtain ⟨q1, q2⟩ := wipeG_some q
    rw [wipe_get q2]
    exact s.pin i c d q1 z, s.tz⟩
theorem backG_len (g0 g : G) : ∀ vs, (backG g0 g vs).length = g.length
  | [] => rfl
  | v :: vs => by unfold backG; rw [List.length_set, backG_len g0 g vs]
theorem backG_some {g0 g : G} {i : Nat} {x : Fl × D} : ∀ {vs : List Nat}, (backG g0 g vs)[i]? = some (some x) → (i ∈ vs ∧ g0[i]? = some (some x)) ∨ (i ∉ vs ∧ g[i]? = some (some x))
  | [], h => .inr ⟨by simp, h⟩
  | v :: vs, h => by
    unfold backG at h
    rcases get_set h with ⟨rfl, z⟩ | ⟨n, h⟩
    · refine .inl ⟨by simp, ?_⟩
      cases e : g0[i]? with
      | none => rw [e] at z; cases z
      | some y =>
        rw [e] at z
        cases z
        rfl
    · rcases backG_some h with ⟨m, q⟩ | ⟨m, q⟩
      · exact .inl ⟨List.mem_cons_of_mem _ m, q⟩
      · exact .inr ⟨fun z => (List.mem_cons.mp z).elim n m, q⟩
theorem calm_f {g : G} {vs : List Nat} (h : calmG g vs = true) {i : Nat} {c : Fl} {d : D} (m : i ∈ vs) (e : g[i]? = some (some (c, d))) : c = .f := by
  have q := List.all_eq_true.mp h i m
  rw [e] at q
  cases c <;> first | rfl | cases q
theorem Sat.back {g0 : G} {vs : List Nat} {σ2 : L2.St} {B0 H0 Z0 : Hp} (s0 : Sat w π B0 Z0 g0 σ H0) (hc : calmG g0 vs = true) (e : Ext B0 B) (hw : wipe σ2 vs = L2.wipe σ vs) (s : Sat w π B Z g σ2 H) : Sat w π B Z (backG g0 g vs) σ H := by
  have st : ∀ {i : Nat}, i ∉ vs → σ2[i]? = σ[i]? := fun {i} n => by rw [← wipe_get n, hw, wipe_get n]
  refine ⟨s.sub, s.keep, s.dis, ?_, fun i c d q z => ?_, fun i c d q z => ?_, fun i j c c' d e a q1 q2 z1 z2 t1 t2 => ?_, fun i c d q z => ?_, s.tz⟩
  · rw [backG_len, s.len, ← wipe_length σ2 vs, hw, wipe_length]
  · rcases backG_some q with ⟨m, q⟩ | ⟨m, q⟩
    · obtain ⟨v, h1, h2⟩ := s0.fz i c d q z
      exact ⟨v, h1, h2.mono e⟩
    · rw [← st m]
      exact s.fz i c d q z
  · rcases backG_some q with ⟨m, q⟩ | ⟨m, q⟩
    · rw [calm_f hc m q] at z
      cases z
    · rw [← st m]
      exact s.ow i c d q z
  · rcases backG_some q1 with ⟨m, q⟩ | ⟨m1, q1⟩
    · rw [calm_f hc m q] at z1
      cases z1
    rcases backG_some q2 with ⟨m, q⟩ | ⟨m2, q2⟩
    · rw [calm_f hc m q] at z2
      cases z2
    rw [← st m1] at t1
    rw [← st m2] at t2
    exact s.dj i j c c' d e a q1 q2 z1 z2 t1 t2
  · rcases backG_some q with ⟨m, q⟩ | ⟨m, q⟩
    · rw [calm_f hc m q] at z
      cases z
    · rw [← st m]
      exact s.pin i c d q z
def WT : WX := fun _ _ _ _ => True
theorem wipe_set {σ : L2.St} {v : Nat} {vs : List Nat} : (wipe σ vs).set v none = wipe σ (v :: vs) := rfl
theorem wipe_wipe (σ : L2.St) (vs : List Nat) : wipe (wipe σ vs) vs = wipe σ vs := by
  have : ∀ us : List Nat, (∀ v ∈ us, v ∈ vs) → wipe (wipe σ vs) us = wipe σ vs := by
    intro us
    induction us with
    | nil => intro _; rfl
    | cons v us ih =>
      intro h
      rw [← wipe_set, ih fun u m => h u (List.mem_cons_of_mem _ m)]
      have gone : ∀ (ws : List Nat), v ∈ ws → ∀ x, (wipe σ ws)[v]? = some x → x = none := by
        intro ws m x e
        cases x with
        | none => rfl
        | some y => exact absurd m (wipe_some e).2
      apply List.ext_getElem?
      intro j
      rw [List.getElem?_set]
      split
      · rename_i e
        subst e
        split
        · rename_i hl
          rw [List.getElem?_eq_getElem hl]
          have := gone vs (h v (by simp)) _ (List.getElem?_eq_getElem hl)
          rw [this]
        · rename_i hl
          exact (List.getElem?_eq_none_iff.mpr (by omega)).symm
      · rfl
  exact this vs fun _ m => m
/-- the data that are made, the slots behind -/
def compL (sg : SG) (st : ST) (se : SE) (vs : List Nat) : List D → G → List D → O (List D)
  | [], g, acc => .ok acc g
  | d :: ds, g, acc => match sg (false, d) (wipeG g vs) with
    | none => .fail
    | some g1 => (st g1).bind fun b g2 => if b = true then (se g2).bind fun r g3 => compL sg st se vs ds g3 (acc ++ [r.2]) else compL sg st se vs ds g2 acc
def seLc (si : SI) (sg : SG) (st : ST) (se : SE) (vs : List Nat) : SE := fun g => (si g).bind fun ds g1 => if calmG g1 vs = true ∧ ds.length < 1000000 then (compL sg st se vs ds g1 []).bind fun acc g2 => .ok (true, .lst acc) (backG g1 (wipeG g2 vs) vs) else .fail
/-- a target leaves all slots but its own -/
def Wipes (tg : TG) (vs : List Nat) : Prop := ∀ (v : _) (σ σ0 : L2.St) (H : Hp) (Q : L2.St → Hp → Prop), wipe σ vs = wipe σ0 vs → (tg v σ H fun σ' H' => wipe σ' vs = wipe σ0 vs → Q σ' H') → tg v σ H fun σ' H' => (wipe σ' vs = wipe σ0 vs) ∧ Q σ' H'
theorem Tail.cE {α : Type} {P : Hp → O α → Prop} {Z' : Hp} (T : Tail w W π Z P) {x : O (Bool × D)} {k : Bool × D → G → O α} {Q1 : VK} (h : P B (x.bind k))
    (K : ∀ o d g1 v B1 H1, Ext B B1 → Sat w π B1 Z' g1 σ H1 → Res w B1 Z' g1 σ H1 v o d → P B1 (k (o, d) g1) → Q1 v H1) : PostE w WT π B Z' σ Q1 x := by
  cases x with
  | ok a g1 => exact fun v B1 H1 e s r => K a.1 a.2 g1 v B1 H1 e s r (T.mono e h)
  | ex x f g => exact fun _ _ _ _ _ _ _ _ => trivial
  | fail => exact T.no h
theorem Tail.cL {α β : Type} {P : Hp → O α → Prop} {Z' : Hp} (T : Tail w W π Z P) {x : O β} {k : β → G → O α} {Q1 : β → Hp → Prop} (h : P B (x.bind k))
    (K : ∀ r g1 B1 H1, Ext B B1 → Sat w π B1 Z' g1 σ H1 → P B1 (k r g1) → Q1 r H1) : PostL w WT π B Z' σ Q1 x := by
  cases x with
  | ok a g1 => exact fun B1 H1 e s => K a g1 B1 H1 e s (T.mono e h)
  | ex x f g => exact fun _ _ _ _ _ _ _ _ => trivial
  | fail => exact T.no h
theorem Tail.cI {α : Type} {P : Hp → O α → Prop} (T : Tail w W π Z P) {x : O (List D)} {k : List D → G → O α} {R : It → Hp → Prop} (h : P B (x.bind k))
    (K : ∀ ds g1 J B1 H1, Ext B B1 → Sat w π B1 Z g1 σ H1 → Walks w B1 J ds → P B1 (k ds g1) → R J H1) : PostI w W π B Z σ R x := by
  cases x with
  | ok a g1 => exact fun J B1 H1 e s r => K a g1 J B1 H1 e s r (T.mono e h)
  | ex x f g => exact T.ex h
  | fail => exact T.no h
/-- what is kept at D changes -/
theorem Sat.acc {D : Addr} {o u : HO} (s : Sat w π B (upd Z D o) g σ H) (tD : w.tn D = none) (po : plain o = true := by rfl) (pu : plain u = true := by rfl) : Sat w π B (upd Z D u) g σ (upd H D u) := by
  have hB : B D = none := s.dis D o upd_same
  have hH : H D = some o := s.keep.at tD upd_same
  have tD' : ∀ a q, w.tn a = some q → ∃ o, upd Z D u a = some o := fun a q h => by
    obtain ⟨x, hx⟩ := s.tz a q h
    have ha : a ≠ D := fun z => by rw [z, tD] at h; cases h
    rw [upd_ne ha] at hx
    exact ⟨x, by rw [upd_ne ha]; exact hx⟩
  refine ⟨fun b x q => ?_, fun b x q => ?_, fun b x q => ?_, s.len, s.fz, fun i c d q z => ?_, s.dj, s.pin, tD'⟩
  · rw [upd_ne (ne_of_none q hB)]
    exact s.sub b x q
  · by_cases hb : b = D
    · subst hb
      rw [upd_same] at q
      cases q
      exact .inl ⟨tD, pu, upd_same⟩
    · rw [upd_ne hb] at q
      rcases s.keep b x (by rw [upd_ne hb]; exact q) with ⟨h1, h2, h3⟩ | ⟨n, h1, ps, h2, h3, h4⟩
      · exact .inl ⟨h1, h2, by rw [upd_ne hb]; exact h3⟩
      · refine .inr ⟨n, h1, ps, by rw [upd_ne hb]; exact h2, h3, fun pos cv hc => ?_⟩
        obtain ⟨c, e1, e2⟩ := h4 pos cv hc
        refine ⟨c, e1, ?_⟩
        rw [upd_ne (fun z => ?_)]
        · exact e2
        · rw [z, hH] at e2
          cases e2
          cases po
  · by_cases hb : b = D
    · subst hb
      exact hB
    · rw [upd_ne hb] at q
      exact s.dis b x (by rw [upd_ne hb]; exact q)
  · obtain ⟨a, q1, q2, q3, q4⟩ := s.ow i c d q z
    have na : a ≠ D := fun y => by rw [y, upd_same] at q3; cases q3
    rw [upd_ne na] at q3
    exact ⟨a, q1, q2, by rw [upd_ne na]; exact q3, q4.at (upd_ne na)⟩
/-- a new object is kept aside -/
theorem Sat.aside {D : Addr} {o : HO} (s : Sat w π B Z g σ H) (h : H D = none) (po : plain o = true := by rfl) : Sat w π B (upd Z D o) g σ (upd H D o) := by
  have hB : B D = none := s.sub.none h
  have hZ : Z D = none := s.keep.no h
  have k : Ext H (upd H D o) := Ext.new h
  have s' := s.grow k
  refine ⟨s'.sub, fun b x q => ?_, fun b x q => ?_, s'.len, s'.fz, fun i c d q z => ?_, s'.dj, s'.pin, fun a q h => (s.tz a q h).elim fun o z => ⟨o, Ext.new hZ a o z⟩⟩
  · by_cases hb : b = D
    · subst hb
      rw [upd_same] at q
      cases q
      exact .inl ⟨s.tn0 hZ, po, upd_same⟩
    · rw [upd_ne hb] at q
      exact s'.keep b x q
  · by_cases hb : b = D
    · subst hb
      exact hB
    · rw [upd_ne hb] at q
      exact s'.dis b x q
  · obtain ⟨a, q1, q2, q3, q4⟩ := s.ow i c d q z
    obtain ⟨u, hu⟩ := q4.there
    have na : a ≠ D := ne_of_none hu h
    exact ⟨a, q1, q2, by rw [upd_ne na]; exact q3, q4.at (upd_ne na)⟩
theorem Sat.unside {a0 : Addr} {o : HO} (s : Sat w π B (upd Z a0 o) g σ H) (hZ : Z a0 = none) (tZ : ∀ a q, w.tn a = some q → ∃ o, Z a = some o) : Sat w π B Z g σ H ∧ ∀ (i : Nat) (c : Fl) (d : D), g[i]? = some (some (c, d)) → c.own = true → σ[i]? ≠ some (some (V.ref a0)) := by
  have zn : ∀ b, upd Z a0 o b = none → Z b = none ∧ b ≠ a0 := fun b q => by
    by_cases hb : b = a0
    · subst hb
      rw [upd_same] at q
      cases q
    · rw [upd_ne hb] at q
      exact ⟨q, hb⟩
  refine ⟨⟨s.sub, s.keep.sub (Ext.new hZ), fun b x q => s.dis b x (Ext.new hZ b x q), s.len, s.fz, fun i c d q z => ?_, s.dj, s.pin, tZ⟩, fun i c d q z t => ?_⟩
  · obtain ⟨a, q1, q2, q3, q4⟩ := s.ow i c d q z
    exact ⟨a, q1, q2, (zn a q3).1, q4⟩
  · obtain ⟨a, q1, q2, q3, q4⟩ := s.ow i c d q z
    rw [t] at q1
    cases q1
    exact (zn a0 q3).2 rfl
theorem million : 1000000 < sizeLine := by decide
theorem re_lc {wi : TI} {tg : TG} {tt : TT} {te : TE} {vs : List Nat} {si : SI} {sg : SG} {st : ST} {se : SE} (hi : RI w W wi si) (hg : RG w tg sg) (hw : Wipes tg vs) (ht : RT w WT tt st) (he : RE w WT te se) :
    RE w W (tLc wi tg tt te vs) (seLc si sg st se vs) := fun π B Z g σ H Q s q =>
  hi π B Z g σ H _ s (tailE.cI q fun ds g1 J B1 H1 e1 s1 wk q1 => by
    intro D hD
    split at q1
    · rename_i hc
      obtain ⟨hc, hn⟩ := hc
      have hZ : Z D = none := s1.keep.no hD
      refine ⟨fun i m H => m = ds.length - i ∧ i ≤ ds.length ∧ ∃ B' g' xs acc, Ext B1 B' ∧ Sat w π B' (upd Z D (.lst xs)) (wipeG g' vs) (wipe σ vs) H ∧ Dens w B' xs acc ∧ xs.length ≤ i ∧
        PostE w W π B' Z σ Q ((compL sg st se vs (ds.drop i) g' acc).bind fun acc g2 => .ok (true, .lst acc) (backG g1 (wipeG g2 vs) vs)), ⟨ds.length, by simp, Nat.zero_le _, B1, g1, [], [], Ext.refl _, (s1.aside hD).wiped vs, .nil, Nat.le_refl _, q1⟩, ?_⟩
      rintro i m H2 ⟨rfl, hi, B2, g2, xs, acc, e2, s2, hx, hl, q2⟩
      by_cases hlt : i < ds.length
      · have hd : ds[i]? = some ds[i] := List.getElem?_eq_getElem hlt
        have hdr : ds.drop i = ds[i] :: ds.drop (i + 1) := List.drop_eq_getElem_cons hlt
        refine .inr ⟨wk.go B2 H2 i _ e2 s2.sub hd, fun H => ∃ B' g' xs acc, Ext B1 B' ∧ Sat w π B' (upd Z D (.lst xs)) (wipeG g' vs) (wipe σ vs) H ∧ Dens w B' xs acc ∧ xs.length ≤ i + 1 ∧
          PostE w W π B' Z σ Q ((compL sg st se vs (ds.drop (i + 1)) g' acc).bind fun acc g2 => .ok (true, .lst acc) (backG g1 (wipeG g2 vs) vs)), fun H' p => ⟨ds.length - (i + 1), by omega, rfl, hlt, p⟩, fun x H3 y => ?_⟩
        obtain ⟨k3, B3, e3, h3, n3, d3⟩ := wk.yld B2 H2 i _ x H3 e2 s2.sub hd y
        have s3 := s2.yielded e3 k3 h3 n3
        have q3 := q2.mono e3
        rw [hdr] at q3
        unfold compL at q3
        refine hw _ _ σ _ _ (wipe_wipe σ vs) (hg π B3 _ (wipeG g2 vs) (wipe σ vs) H3 x false _ _ s3 d3 ?_)
        split at q3
        · exact q3.elim
        · rename_i g4 e4
          rw [e4]
          intro B4 H4 σ4 e5 s4 hσ
          have q4 := q3.mono e5
          have bindA : ∀ {α β γ : Type} (x : O α) (k : α → G → O β) (l : β → G → O γ), (x.bind k).bind l = x.bind fun a g => (k a g).bind l := fun x k l => by cases x <;> rfl
          rw [bindA] at q4
          refine ht π B4 _ g4 σ4 H4 _ s4 (tailE.cL q4 fun b g5 B5 H5 e6 s5 q5 => ?_)
          have tot5 : Ext B2 B5 := e3.trans (e5.trans e6)
          cases b with
          | false =>
            refine ⟨B5, g5, xs, acc, e2.trans tot5, ?_, hx.mono tot5, Nat.le_succ_of_le hl, q5⟩
            have := s5.wiped vs
            rw [hσ] at this
            exact this
          | true =>
            have q5 : PostE w W π B5 Z σ Q (((se g5).bind fun r g3 => compL sg st se vs (ds.drop (i + 1)) g3 (acc ++ [r.2])).bind fun acc g2 => .ok (true, .lst acc) (backG g1 (wipeG g2 vs) vs)) := q5
            rw [bindA] at q5
            refine he π B5 _ g5 σ4 H5 _ s5 (tailE.cE q5 fun o d g6 v B6 H6 e7 s6 r6 q6 => ?_)
            obtain ⟨B7, e8, s7, hv⟩ := r6.freeze s6
            have tot7 : Ext B2 B7 := tot5.trans (e7.trans e8)
            refine ⟨xs, s6.keep.at (s1.tn0 hZ) upd_same, Nat.lt_trans (by omega) million, B7, g6, xs ++ [v], acc ++ [d], e2.trans tot7, ?_, (hx.mono tot7).app (.cons hv .nil), by rw [List.length_append]; show xs.length + 1 ≤ i + 1; omega, q6.mono e8⟩
            have := (s7.acc (u := .lst (xs ++ [v])) (s1.tn0 hZ)).wiped vs
            rw [hσ] at this
            exact this
      · have : i = ds.length := by omega
        subst this
        refine .inl ⟨wk.stop B2 H2 e2 s2.sub, ?_⟩
        rw [List.drop_length] at q2
        have sb := (s1.aside (o := .lst []) hD).back hc e2 (wipe_wipe σ vs) s2
        obtain ⟨s8, hn8⟩ := sb.unside hZ s1.tz
        exact q2 _ B2 H2 (Ext.refl _) s8 ⟨D, rfl, s2.dis D _ upd_same, hZ, .lst (s2.keep.at (s1.tn0 hZ) upd_same) hx, hn8⟩
    · exact q1.elim)
theorem wipe_setv {σ : L2.St} {i : Nat} {x : Option V} {vs : List Nat} (h : i ∈ vs) : wipe (σ.set i x) vs = wipe σ vs := by
  have key : ∀ (vs : List Nat) (j : Nat), (j ∈ vs → (wipe (σ.set i x) vs)[j]? = (wipe σ vs)[j]?) ∧ (j ∉ vs → j ≠ i → (wipe (σ.set i x) vs)[j]? = (wipe σ vs)[j]?) := by
    intro vs
    induction vs with
    | nil => exact fun j => ⟨fun m => by simp at m, fun _ n => List.getElem?_set_ne (fun z => n z.symm)⟩
    | cons v vs ih =>
      intro j
      unfold wipe
      by_cases e : v = j
      · subst e
        have hl : (wipe (σ.set i x) vs).length = (wipe σ vs).length := by rw [wipe_length, wipe_length, List.length_set]
        have : (List.set (wipe (σ.set i x) vs) v none)[v]? = (List.set (wipe σ vs) v none)[v]? := by
          by_cases q : v < (wipe σ vs).length
          · rw [List.getElem?_set_self q, List.getElem?_set_self (by rw [hl]; exact q)]
          · rw [List.getElem?_eq_none_iff.mpr (by rw [List.length_set]; omega), List.getElem?_eq_none_iff.mpr (by rw [List.length_set]; omega)]
        exact ⟨fun _ => this, fun _ _ => this⟩
      · rw [List.getElem?_set_ne e, List.getElem?_set_ne e]
        exact ⟨fun m => (ih j).1 ((List.mem_cons.mp m).elim (fun z => absurd z.symm e) id), fun m => (ih j).2 fun z => m (List.mem_cons_of_mem _ z)⟩
  apply List.ext_getElem?
  intro j
  by_cases m : j ∈ vs
  · exact (key vs j).1 m
  · exact (key vs j).2 m fun z => m (by rw [z]; exact h)
theorem wipes_name {i : Nat} {vs : List Nat} (h : i ∈ vs) : Wipes (gName i) vs := fun v σ σ0 H Q e q => by
  have : wipe (σ.set i (some v)) vs = wipe σ0 vs := (wipe_setv h).trans e
  exact ⟨this, q this⟩
def WipesS (tg : TGs) (vs : List Nat) : Prop := ∀ (v : _) (σ σ0 : L2.St) (H : Hp) (Q : L2.St → Hp → Prop), wipe σ vs = wipe σ0 vs → (tg v σ H fun σ' H' => wipe σ' vs = wipe σ0 vs → Q σ' H') → tg v σ H fun σ' H' => (wipe σ' vs = wipe σ0 vs) ∧ Q σ' H'
theorem wipes_nil {vs : List Nat} : WipesS gNil vs := fun v σ σ0 H Q e q => ⟨q.1, e, q.2 e⟩
theorem wipes_cons {i : Nat} {b : TGs} {vs : List Nat} (h : i ∈ vs) (k : WipesS b vs) : WipesS (gCons (gName i) b) vs := fun v σ σ0 H Q e q => by
  obtain ⟨x, r, rfl, q⟩ := q
  exact ⟨x, r, rfl, k r _ σ0 H Q ((wipe_setv h).trans e) q⟩
theorem wipes_tup {K : PySem.W.Frag} {n : Nat} {b : TGs} {vs : List Nat} (k : WipesS b vs) : Wipes (gSeq K n b) vs := fun v σ σ0 H Q e q => by
  obtain ⟨a, xs, h1, h2, h3, q⟩ := q
  exact ⟨a, xs, h1, h2, h3, k xs σ σ0 H Q e q⟩
theorem rt_yes : RT w W tYes (fun g => .ok true g) := fun π B Z g σ H Q s q => q B H (Ext.refl _) s
end
end M7
namespace M7
open PySem PySem.Spec PyProof.Rows L2
/-- what comes of a call: what is given back, the arguments' data behind it (true: it may still change) -/
inductive FO where
  | ret (o : Bool) (d : D) (bk : List (Bool × D)) | ex (x : XN) (f : Option D) (bk : List (Bool × D)) | fail
abbrev Fn := List (Bool × D) → FO
def argG (as : List (Bool × D)) : G := as.map fun a => some (if a.1 = true then Fl.p else Fl.f, a.2)
def argP (vs : List V) : Nat → V := fun i => (vs[i]?).getD .non
/-- the wish behind a call -/
def PostC (w : WD) (vs : List V) (B Z : Hp) (Q : VK) (E : XK) : FO → Prop
  | .ret o d bk => ∀ v B' H', Ext B B' → Sat w (argP vs) B' Z (argG bk) (vs.map some) H' → Res w B' Z (argG bk) (vs.map some) H' v o d → Q v H'
  | .ex x f bk => w.has x → ∀ dd B' H', Ext B B' → Sat w (argP vs) B' Z (argG bk) (vs.map some) H' → XOk w B' H' f dd → E (.ref (w.exc x)) dd H'
  | .fail => False
/-- the promise of a def that makes φ of its arguments' data -/
def spD (w : WD) (φ : Fn) : Sp := fun vs H Q E => ∃ B Z as, Sat w (argP vs) B Z (argG as) (vs.map some) H ∧ PostC w vs B Z Q E (φ as)
def XHas (w : WD) : FO → Prop
  | .ex x _ _ => w.has x
  | _ => True
section
variable {w : WD} {W : WX} {π : Nat → V} {B B' B1 Z : Hp} {g : G} {σ : L2.St} {H H' : Hp}
/-- an argument as it is handed in: an own object of a slot is lent -/
def argOf (g : G) : Ref → Option (Bool × D)
  | .dt d => some (false, d)
  | .sl i => match g[i]? with
    | some (some (c, d)) => some (c.own, d)
    | _ => none
def argsOf (g : G) : List Ref → Option (List (Bool × D))
  | [] => some []
  | r :: rs => match argOf g r, argsOf g rs with
    | some a, some as => some (a :: as)
    | _, _ => none
def lentOf (g : G) : List Ref → List Nat
  | [] => []
  | .sl i :: rs => match g[i]? with
    | some (some (c, _)) => if c.own = true then i :: lentOf g rs else lentOf g rs
    | _ => lentOf g rs
  | .dt _ :: rs => lentOf g rs
def distinct : List Nat → Bool
  | [] => true
  | i :: is => !is.contains i && distinct is
def giveBack (g : G) : List Ref → List (Bool × D) → G
  | .sl i :: rs, b :: bs => match g[i]? with
    | some (some (c, _)) => if c.own = true then (giveBack g rs bs).set i (some (if b.1 = true then c else c.fz, b.2)) else giveBack g rs bs
    | _ => giveBack g rs bs
  | .dt _ :: rs, _ :: bs => giveBack g rs bs
  | _, _ => g
theorem giveBack_len : ∀ (rs : List Ref) (bs : List (Bool × D)), (giveBack g rs bs).length = g.length
  | .sl i :: rs, b :: bs => by
    unfold giveBack
    split
    · split
      · rw [List.length_set]; exact giveBack_len rs bs
      · exact giveBack_len rs bs
    · exact giveBack_len rs bs
  | .dt _ :: rs, _ :: bs => by unfold giveBack; exact giveBack_len rs bs
  | [], _ => by unfold giveBack; rfl
  | .sl _ :: _, [] => by unfold giveBack; rfl
  | .dt _ :: _, [] => by unfold giveBack; rfl
theorem mem_lent {g : G} {i : Nat} {c : Fl} {d : D} (e : g[i]? = some (some (c, d))) (ho : c.own = true) : ∀ {rs : List Ref}, Ref.sl i ∈ rs → i ∈ lentOf g rs
  | r :: rs, h => by
    rcases List.mem_cons.mp h with z | z
    · subst z
      unfold lentOf
      rw [e]
      simp [ho]
    · have q := mem_lent e ho z
      cases r with
      | dt _ => exact q
      | sl j =>
        unfold lentOf
        split
        · split
          · exact List.mem_cons_of_mem _ q
          · exact q
        · exact q
/-- a slot behind the call -/
theorem giveBack_some {g : G} {i : Nat} {x : Fl × D} : ∀ {rs : List Ref} {bs : List (Bool × D)}, rs.length = bs.length → (giveBack g rs bs)[i]? = some (some x) →
    (∃ (j : Nat) (c : Fl) (d : D) (b : Bool × D), rs[j]? = some (Ref.sl i) ∧ g[i]? = some (some (c, d)) ∧ c.own = true ∧ bs[j]? = some b ∧ x = (if b.1 = true then c else c.fz, b.2)) ∨ (g[i]? = some (some x) ∧ (x.1.own = true → Ref.sl i ∉ rs))
  | [], [], _, h => .inr ⟨h, fun _ z => by simp at z⟩
  | .dt d :: rs, b :: bs, hl, h => by
    unfold giveBack at h
    rcases giveBack_some (by simpa using hl) h with ⟨j, c, d, b, h1, h2⟩ | ⟨h1, h2⟩
    · exact .inl ⟨j + 1, c, d, b, by simpa using h1, by simpa using h2⟩
    · exact .inr ⟨h1, fun o z => (List.mem_cons.mp z).elim (fun y => nomatch y) (h2 o)⟩
  | .sl k :: rs, b :: bs, hl, h => by
    have hl' : rs.length = bs.length := by simpa using hl
    have skip : (giveBack g rs bs)[i]? = some (some x) → (∀ c d, g[k]? = some (some (c, d)) → c.own = true → i ≠ k) → (∃ (j : Nat) (c : Fl) (d : D) (b' : Bool × D), (Ref.sl k :: rs)[j]? = some (Ref.sl i) ∧ g[i]? = some (some (c, d)) ∧ c.own = true ∧ (b :: bs)[j]? = some b' ∧ x = (if b'.1 = true then c else c.fz, b'.2)) ∨ (g[i]? = some (some x) ∧ (x.1.own = true → Ref.sl i ∉ Ref.sl k :: rs)) := fun q nk => by
      rcases giveBack_some hl' q with ⟨j, c, d, b, h1, h2⟩ | ⟨h1, h2⟩
      · exact Or.inl ⟨j + 1, c, d, b, by simpa using h1, by simpa using h2⟩
      · refine Or.inr ⟨h1, fun o z => (List.mem_cons.mp z).elim (fun y => ?_) (h2 o)⟩
        cases y
        exact nk x.1 x.2 h1 o rfl
    unfold giveBack at h
    split at h
    · rename_i c d e
      split at h
      · rename_i ho
        rcases get_set h with ⟨rfl, z⟩ | ⟨n, z⟩
        · cases z
          exact .inl ⟨0, c, d, b, rfl, e, ho, rfl, rfl⟩
        · exact skip z fun _ _ _ _ => n
      · rename_i ho
        exact skip h fun c' d' e' o' => by rw [e] at e'; cases e'; exact absurd o' ho
    · rename_i hn
      exact skip h fun c' d' e' _ => absurd e' (hn c' d')
theorem RefsOk.get {vs : List V} {rs : List Ref} (h : RefsOk w B σ vs rs) : ∀ {j : Nat} {r : Ref}, rs[j]? = some r → ∃ v, vs[j]? = some v ∧ RefOk w B σ v r := by
  induction h with
  | nil => intro j r e; simp at e
  | cons a t ih =>
    intro j r e
    cases j with
    | zero => simp at e; subst e; exact ⟨_, rfl, a⟩
    | succ j => exact ih (by simpa using e)
theorem RefsOk.len {vs : List V} {rs : List Ref} (h : RefsOk w B σ vs rs) : vs.length = rs.length := by
  induction h with
  | nil => rfl
  | cons a t ih => rw [List.length_cons, List.length_cons, ih]
theorem argsOf_get {g : G} : ∀ {rs : List Ref} {as : List (Bool × D)}, argsOf g rs = some as → as.length = rs.length ∧ ∀ (j : Nat) (a : Bool × D), as[j]? = some a → ∃ r, rs[j]? = some r ∧ argOf g r = some a
  | [], as, e => by
    cases e
    exact ⟨rfl, fun j a h => by simp at h⟩
  | r :: rs, as, e => by
    unfold argsOf at e
    split at e
    · rename_i a as' h1 h2
      cases e
      obtain ⟨q1, q2⟩ := argsOf_get h2
      refine ⟨by rw [List.length_cons, List.length_cons, q1], fun j b h => ?_⟩
      cases j with
      | zero => simp at h; subst h; exact ⟨r, rfl, h1⟩
      | succ j =>
        obtain ⟨r', h3, h4⟩ := q2 j b (by simpa using h)
        exact ⟨r', by simpa using h3, h4⟩
    · cases e
theorem lent_nodup {g : G} {i : Nat} {c : Fl} {d : D} (e : g[i]? = some (some (c, d))) (ho : c.own = true) : ∀ {rs : List Ref} {j k : Nat}, distinct (lentOf g rs) = true → rs[j]? = some (Ref.sl i) → rs[k]? = some (Ref.sl i) → j = k
  | [], _, _, _, h, _ => by simp at h
  | r :: rs, j, k, hd, h1, h2 => by
    have tl : distinct (lentOf g rs) = true := by
      cases r with
      | dt _ => exact hd
      | sl m =>
        unfold lentOf at hd
        split at hd
        · split at hd
          · unfold distinct at hd
            exact (Bool.and_eq_true_iff.mp hd).2
          · exact hd
        · exact hd
    have hd0 : ∀ {m : Nat}, r = Ref.sl i → rs[m]? = some (Ref.sl i) → False := fun {m} er q => by
      subst er
      have mm := mem_lent e ho (List.mem_of_getElem? q)
      unfold lentOf at hd
      rw [e] at hd
      simp only [ho, if_true] at hd
      unfold distinct at hd
      have z := (Bool.and_eq_true_iff.mp hd).1
      rw [Bool.not_eq_true', ← Bool.not_eq_true, List.contains_iff_mem] at z
      exact z mm
    cases j with
    | zero =>
      cases k with
      | zero => rfl
      | succ k => exact (hd0 (by simpa using h1) (by simpa using h2)).elim
    | succ j =>
      cases k with
      | zero => exact (hd0 (by simpa using h2) (by simpa using h1)).elim
      | succ k =>
        have h1 : rs[j]? = some (Ref.sl i) := by simpa using h1
        have h2 : rs[k]? = some (Ref.sl i) := by simpa using h2
        rw [lent_nodup e ho tl h1 h2]
open Classical in
/-- what the callee must leave: what we must, and our own objects that are not lent -/
noncomputable def guardZ (Z H : Hp) (g : G) (σ : L2.St) (rs : List Ref) : Hp := fun a => match Z a with
  | some o => some o
  | none => if ∃ (i : Nat) (c : Fl) (d : D), g[i]? = some (some (c, d)) ∧ c.own = true ∧ σ[i]? = some (some (V.ref a)) ∧ Ref.sl i ∉ rs then H a else none
theorem guard_z {rs : List Ref} {a : Addr} {o : HO} (h : Z a = some o) : guardZ Z H g σ rs a = some o := by
  unfold guardZ
  simp only [h]
theorem guard_own {rs : List Ref} {a : Addr} {i : Nat} {c : Fl} {d : D} (hz : Z a = none) (h1 : g[i]? = some (some (c, d))) (h2 : c.own = true) (h3 : σ[i]? = some (some (V.ref a))) (h4 : Ref.sl i ∉ rs) : guardZ Z H g σ rs a = H a := by
  unfold guardZ
  rw [hz]
  exact if_pos ⟨i, c, d, h1, h2, h3, h4⟩
theorem guard_some {rs : List Ref} {a : Addr} {o : HO} (h : guardZ Z H g σ rs a = some o) : Z a = some o ∨ (Z a = none ∧ H a = some o ∧ ∃ (i : Nat) (c : Fl) (d : D), g[i]? = some (some (c, d)) ∧ c.own = true ∧ σ[i]? = some (some (V.ref a)) ∧ Ref.sl i ∉ rs) := by
  unfold guardZ at h
  split at h
  · rename_i e
    cases h
    exact .inl e
  · rename_i e
    split at h
    · rename_i q
      exact .inr ⟨e, h, q⟩
    · cases h
theorem guard_none {rs : List Ref} {a : Addr} (h : guardZ Z H g σ rs a = none) : Z a = none := by
  cases e : Z a with
  | none => rfl
  | some o => rw [guard_z e] at h; cases h
theorem argP_get {vs : List V} {j : Nat} {v : V} (h : vs[j]? = some v) : argP vs j = v := by unfold argP; rw [h]; rfl
theorem argG_get {as : List (Bool × D)} {j : Nat} {c : Fl} {d : D} (h : (argG as)[j]? = some (some (c, d))) : ∃ b, as[j]? = some (b, d) ∧ c = (if b = true then .p else .f) := by
  unfold argG at h
  rw [List.getElem?_map] at h
  cases e : as[j]? with
  | none => rw [e] at h; cases h
  | some a =>
    rw [e] at h
    cases h
    exact ⟨a.1, rfl, rfl⟩
theorem argG_of {as : List (Bool × D)} {j : Nat} {a : Bool × D} (h : as[j]? = some a) : (argG as)[j]? = some (some (if a.1 = true then .p else .f, a.2)) := by
  unfold argG
  rw [List.getElem?_map, h]
  rfl
theorem mapsome_get {vs : List V} {j : Nat} {v : V} : (vs.map some)[j]? = some (some v) ↔ vs[j]? = some v := by
  rw [List.getElem?_map]
  cases vs[j]? with
  | none => simp
  | some u => simp
/-- a callee's state -/
theorem Sat.enter {vs : List V} {rs : List Ref} {as : List (Bool × D)} (s : Sat w π B Z g σ H) (r : RefsOk w B σ vs rs) (ha : argsOf g rs = some as) (hd : distinct (lentOf g rs) = true) :
    Sat w (argP vs) B (guardZ Z H g σ rs) (argG as) (vs.map some) H := by
  obtain ⟨hl, hg⟩ := argsOf_get ha
  have arg : ∀ {j : Nat} {c : Fl} {d : D}, (argG as)[j]? = some (some (c, d)) → ∃ (r : Ref) (v : V), rs[j]? = some r ∧ vs[j]? = some v ∧ RefOk w B σ v r ∧ argOf g r = some (c.own, d) ∧ (c = .p ∨ c = .f) := fun {j c d} q => by
    obtain ⟨b, h1, h2⟩ := argG_get q
    obtain ⟨r', h3, h4⟩ := hg j _ h1
    obtain ⟨v, h5, h6⟩ := r.get h3
    refine ⟨r', v, h3, h5, h6, ?_, ?_⟩
    · rw [h4, h2]
      cases b <;> rfl
    · rw [h2]
      cases b
      · exact .inr rfl
      · exact .inl rfl
  have own : ∀ {j : Nat} {c : Fl} {d : D}, (argG as)[j]? = some (some (c, d)) → c.own = true → ∃ (i : Nat) (c' : Fl) (a : Addr), rs[j]? = some (Ref.sl i) ∧ g[i]? = some (some (c', d)) ∧ c'.own = true ∧ vs[j]? = some (V.ref a) ∧ σ[i]? = some (some (V.ref a)) ∧ B a = none ∧ Z a = none ∧ Own w B H a d := fun {j c d} q z => by
    obtain ⟨r', v, h1, h2, h3, h4, _⟩ := arg q
    cases r' with
    | dt d' =>
      have h4 : some (false, d') = some (c.own, d) := h4
      rw [z] at h4
      cases h4
    | sl i =>
      unfold argOf at h4
      simp only at h4
      split at h4
      · rename_i c' d' e
        have z' : c'.own = true := by
          have := Option.some.inj h4
          rw [z] at this
          exact congrArg Prod.fst this
        have ed : d' = d := congrArg Prod.snd (Option.some.inj h4)
        subst ed
        obtain ⟨a, k1, k2, k3, k4⟩ := s.ow i c' d' e z'
        have h3 : σ[i]? = some (some v) := h3
        rw [k1] at h3
        cases h3
        exact ⟨i, c', a, h1, e, z', h2, k1, k2, k3, k4⟩
      · cases h4
  refine ⟨s.sub, fun a o q => ?_, fun a o q => ?_, ?_, fun j c d q z => ?_, fun j c d q z => ?_, fun j k c c' d e a q1 q2 z1 z2 t1 t2 => ?_, fun j c d q z => ?_, fun a q h => (s.tz a q h).elim fun o z => ⟨o, guard_z z⟩⟩
  · rcases guard_some q with z | ⟨_, z, i, c, d, h1, h2, h3, _⟩
    · exact s.keep a o z
    · obtain ⟨a', k1, k2, k3, k4⟩ := s.ow i c d h1 h2
      rw [h3] at k1
      cases k1
      obtain ⟨u, hu, pu⟩ := k4.pl
      rw [z] at hu
      cases hu
      exact .inl ⟨s.tn0 k3, pu, z⟩
  · rcases guard_some q with z | ⟨_, _, i, c, d, h1, h2, h3, _⟩
    · exact s.dis a o z
    · obtain ⟨a', k1, k2, _⟩ := s.ow i c d h1 h2
      rw [h3] at k1
      cases k1
      exact k2
  · unfold argG
    rw [List.length_map, List.length_map, hl, r.len]
  · obtain ⟨r', v, h1, h2, h3, h4, _⟩ := arg q
    refine ⟨v, mapsome_get.mpr h2, ?_⟩
    cases r' with
    | dt d' =>
      have h4 : some (false, d') = some (c.own, d) := h4
      have ed : d' = d := congrArg Prod.snd (Option.some.inj h4)
      subst ed
      exact h3
    | sl i =>
      unfold argOf at h4
      simp only at h4
      split at h4
      · rename_i c' d' e
        have z' : c'.own = false := by
          have := Option.some.inj h4
          rw [z] at this
          exact congrArg Prod.fst this
        have ed : d' = d := congrArg Prod.snd (Option.some.inj h4)
        subst ed
        obtain ⟨u, k1, k2⟩ := s.fz i c' d' e z'
        have h3 : σ[i]? = some (some v) := h3
        rw [k1] at h3
        cases h3
        exact k2
      · cases h4
  · obtain ⟨i, c', a, h1, h2, h3, h4, h5, h6, h7, h8⟩ := own q z
    refine ⟨a, mapsome_get.mpr h4, h6, ?_, h8⟩
    cases e : guardZ Z H g σ rs a with
    | none => rfl
    | some o =>
      rcases guard_some e with y | ⟨_, _, i', c2, d2, k1, k2, k3, k4⟩
      · rw [h7] at y; cases y
      · have := s.dj i i' c' c2 d d2 a h2 k1 h3 k2 h5 k3
        subst this
        exact absurd (List.mem_of_getElem? h1) k4
  · obtain ⟨i, c1, a1, h1, h2, h3, h4, h5, _⟩ := own q1 z1
    obtain ⟨i', c2, a2, k1, k2, k3, k4, k5, _⟩ := own q2 z2
    have e1 := mapsome_get.mp t1
    have e2 := mapsome_get.mp t2
    rw [h4] at e1
    rw [k4] at e2
    cases e1
    cases e2
    have := s.dj i i' c1 c2 d e _ h2 k2 h3 k3 h5 k5
    subst this
    exact lent_nodup h2 h3 hd h1 k1
  · obtain ⟨r', v, h1, h2, _⟩ := arg q
    rw [argP_get h2]
    exact mapsome_get.mpr h2
/-- back in the caller -/
theorem Sat.leave {vs : List V} {rs : List Ref} {as bk : List (Bool × D)} (s : Sat w π B Z g σ H) (r : RefsOk w B σ vs rs) (ha : argsOf g rs = some as) (hd : distinct (lentOf g rs) = true)
    (e : Ext B B') (t : Sat w (argP vs) B' (guardZ Z H g σ rs) (argG bk) (vs.map some) H') :
    Sat w π B' Z (giveBack g rs bk) σ H' ∧ ∀ v o d, Res w B' (guardZ Z H g σ rs) (argG bk) (vs.map some) H' v o d → Res w B' Z (giveBack g rs bk) σ H' v o d := by
  have hlen : rs.length = bk.length := by
    have := t.len
    unfold argG at this
    rw [List.length_map, List.length_map, r.len] at this
    exact this.symm
  have dis : ∀ a o, Z a = some o → B' a = none := fun a o q => t.dis a o (guard_z q)
  -- an own slot behind the call
  have own : ∀ {i : Nat} {x : Fl × D}, (giveBack g rs bk)[i]? = some (some x) → x.1.own = true → ∃ a : Addr, σ[i]? = some (some (V.ref a)) ∧ B' a = none ∧ Z a = none ∧ Own w B' H' a x.2 ∧
      ((∃ (j : Nat) (c0 : Fl) (d0 : D), rs[j]? = some (Ref.sl i) ∧ g[i]? = some (some (c0, d0)) ∧ c0.own = true ∧ (argG bk)[j]? = some (some (Fl.p, x.2)) ∧ (vs.map some)[j]? = some (some (V.ref a)) ∧ guardZ Z H g σ rs a = none) ∨ (g[i]? = some (some x) ∧ Ref.sl i ∉ rs ∧ ∃ o, guardZ Z H g σ rs a = some o)) := fun {i x} q z => by
    rcases giveBack_some hlen q with ⟨j, c, d, b, h1, h2, h3, h4, rfl⟩ | ⟨h1, h2⟩
    · have hb : b.1 = true := by
        cases hb : b.1 with
        | true => rfl
        | false =>
          simp only [hb] at z
          have : c.fz.own = true := z
          rw [Fl.own_fz] at this
          cases this
      have k := argG_of h4
      rw [hb] at k
      obtain ⟨a, k1, k2, k3, k4⟩ := t.ow j .p b.2 k rfl
      obtain ⟨v, m1, m2⟩ := r.get h1
      have m2 : σ[i]? = some (some v) := m2
      have := mapsome_get.mp k1
      rw [m1] at this
      cases this
      exact ⟨a, m2, k2, guard_none k3, k4, .inl ⟨j, c, d, h1, h2, h3, k, k1, k3⟩⟩
    · obtain ⟨a, k1, k2, k3, k4⟩ := s.ow i x.1 x.2 h1 z
      obtain ⟨u, hu⟩ := k4.there
      have gz : guardZ Z H g σ rs a = some u := by rw [guard_own k3 h1 z k1 (h2 z)]; exact hu
      exact ⟨a, k1, t.dis a u gz, k3, (k4.mono e).at ((t.keep.at (s.tn0 k3) gz).trans hu.symm), .inr ⟨h1, h2 z, u, gz⟩⟩
  refine ⟨⟨t.sub, t.keep.sub (fun a o q => guard_z q), dis, by rw [giveBack_len]; exact s.len, fun i c d q z => ?_, fun i c d q z => ?_, fun i k c c' d d' a q1 q2 z1 z2 t1 t2 => ?_, fun i c d q z => ?_, s.tz⟩, fun v o d h => ?_⟩
  · rcases giveBack_some hlen q with ⟨j, c0, d0, b, h1, h2, h3, h4, ex⟩ | ⟨h1, h2⟩
    · cases ex
      have hb : b.1 = false := by
        cases hb : b.1 with
        | false => rfl
        | true =>
          rw [hb] at z
          simp only [if_true] at z
          rw [h3] at z
          cases z
      have k := argG_of h4
      rw [hb] at k
      obtain ⟨v, k1, k2⟩ := t.fz j .f b.2 k rfl
      obtain ⟨v', m1, m2⟩ := r.get h1
      have m2 : σ[i]? = some (some v') := m2
      have := mapsome_get.mp k1
      rw [m1] at this
      cases this
      exact ⟨_, m2, k2⟩
    · obtain ⟨v, k1, k2⟩ := s.fz i c d h1 z
      exact ⟨v, k1, k2.mono e⟩
  · obtain ⟨a, h1, h2, h3, h4, _⟩ := own q z
    exact ⟨a, h1, h2, h3, h4⟩
  · obtain ⟨a1, h1, _, _, _, h5⟩ := own q1 z1
    obtain ⟨a2, k1, _, _, _, k5⟩ := own q2 z2
    rw [t1] at h1
    cases h1
    rw [t2] at k1
    cases k1
    rcases h5 with ⟨j1, c1, d1, m1, m2, m3, m4, m5, m6⟩ | ⟨m1, m2, o1, m3⟩
    · rcases k5 with ⟨j2, c2, d2, n1, n2, n3, n4, n5, n6⟩ | ⟨n1, n2, o2, n3⟩
      · have := t.dj j1 j2 .p .p d d' a m4 n4 rfl rfl m5 n5
        subst this
        rw [m1] at n1
        cases n1
        rfl
      · rw [m6] at n3
        cases n3
    · rcases k5 with ⟨j2, c2, d2, n1, n2, n3, n4, n5, n6⟩ | ⟨n1, n2, o2, n3⟩
      · rw [n6] at m3
        cases m3
      · exact s.dj i k c c' d d' a m1 n1 z1 z2 t1 t2
  · rcases giveBack_some hlen q with ⟨j, c0, d0, b, h1, h2, h3, h4, ex⟩ | ⟨h1, h2⟩
    · cases ex
      refine s.pin i c0 d0 h2 ?_
      cases hb : b.1 with
      | true => rw [hb] at z; exact z
      | false =>
        rw [hb] at z
        have z : c0.fz.pin = true := z
        rw [Fl.pin_fz] at z
        exact z
    · exact s.pin i c d h1 z
  · cases o with
    | false => exact h
    | true =>
      obtain ⟨a, rfl, h1, h2, h3, h4⟩ := h
      refine ⟨a, rfl, h1, guard_none h2, h3, fun i c x q z tt => ?_⟩
      obtain ⟨a', k1, _, _, _, k5⟩ := own q z
      rw [tt] at k1
      cases k1
      rcases k5 with ⟨j1, c1, d1, m1, m2, m3, m4, m5, m6⟩ | ⟨m1, m2, o1, m3⟩
      · exact h4 j1 .p x m4 rfl m5
      · rw [h2] at m3
        cases m3
def seCall (φ : Fn) (sa : SA) : SE := fun g => (sa g).bind fun rs g1 => if distinct (lentOf g1 rs) = true then match argsOf g1 rs with
  | some as => match φ as with
    | .ret o d bk => .ok (o, d) (giveBack g1 rs bk)
    | .ex x f bk => .ex x f (giveBack g1 rs bk)
    | .fail => .fail
  | none => .fail else .fail
/-- a call by what the callee promises -/
theorem call_D {φ : Fn} {vs : List V} {rs : List Ref} {Q : VK} {E : XK} (s : Sat w π B Z g σ H) (r : RefsOk w B σ vs rs) (hE : ∀ cls d H', W cls d σ H' → E cls d H')
    (q : PostE w W π B Z σ Q (if distinct (lentOf g rs) = true then match argsOf g rs with
      | some as => match φ as with
        | .ret o d bk => .ok (o, d) (giveBack g rs bk)
        | .ex x f bk => .ex x f (giveBack g rs bk)
        | .fail => .fail
      | none => .fail else .fail)) : spD w φ vs H Q E := by
  split at q
  · rename_i hd
    split at q
    · rename_i as ha
      refine ⟨B, guardZ Z H g σ rs, as, s.enter r ha hd, ?_⟩
      split at q
      · rename_i o d bk e
        rw [e]
        intro v B' H' e' t rs'
        obtain ⟨t1, t2⟩ := s.leave r ha hd e' t
        exact q v B' H' e' t1 (t2 v o d rs')
      · rename_i x f bk e
        rw [e]
        intro hx dd B' H' e' t xo
        obtain ⟨t1, t2⟩ := s.leave r ha hd e' t
        exact hE _ _ _ (q hx dd B' H' σ e' t1 xo)
      · exact q.elim
    · exact q.elim
  · exact q.elim
theorem re_call {φ : Fn} {E : L2.St → XK} {ta : TA} {sa : SA} (hE : ∀ σ cls d H', W cls d σ H' → E σ cls d H') (h : RA w W ta sa) : RE w W (tCallS (spD w φ) E ta) (seCall φ sa) := fun π B Z g σ H Q s q =>
  h π B Z g σ H _ s (tailE.bA q fun rs g1 vs B1 H1 e1 s1 r1 q1 => call_D s1 r1 (hE σ) q1)
end
end M7
namespace M7
open PySem PySem.Spec PyProof.Rows L2
/-! ### a def by its body -/
def endOf (a : Bool × D) (s : Option (Fl × D)) : Option (Bool × D) := if a.1 = false then some (false, a.2) else match s with
  | some (.p, d) => some (true, d)
  | some (.q, d) => some (false, d)
  | _ => none
def endsOf : List (Bool × D) → G → Option (List (Bool × D))
  | [], _ => some []
  | a :: as, s :: g => match endOf a s, endsOf as g with
    | some b, some bs => some (b :: bs)
    | _, _ => none
  | _ :: _, [] => none
def bodyFn (n N : Nat) (ss : SS) : Fn := fun as => if as.length = n then match ss (argG as ++ List.replicate (N - n) none) with
  | .rt o d g => match endsOf as g with
    | some bk => .ret o d bk
    | none => .fail
  | .nx g => match endsOf as g with
    | some bk => .ret false .non bk
    | none => .fail
  | .ex x f g => match endsOf as g with
    | some bk => .ex x f bk
    | none => .fail
  | _ => .fail else .fail
theorem endsOf_get : ∀ {as : List (Bool × D)} {g : G} {bk : List (Bool × D)}, endsOf as g = some bk → bk.length = as.length ∧ ∀ (j : Nat) (b : Bool × D), bk[j]? = some b → ∃ a s, as[j]? = some a ∧ (a.1 = true → g[j]? = some s) ∧ endOf a s = some b
  | [], _, _, e => by
    cases e
    exact ⟨rfl, fun j b h => by simp at h⟩
  | a :: as, s :: g, bk, e => by
    unfold endsOf at e
    split at e
    · rename_i b bs h1 h2
      cases e
      obtain ⟨q1, q2⟩ := endsOf_get h2
      refine ⟨by rw [List.length_cons, List.length_cons, q1], fun j b' h => ?_⟩
      cases j with
      | zero =>
        simp at h
        subst h
        exact ⟨a, s, rfl, fun _ => rfl, h1⟩
      | succ j =>
        obtain ⟨a', s', k1, k2, k3⟩ := q2 j b' (by simpa using h)
        exact ⟨a', s', by simpa using k1, by simpa using k2, k3⟩
    · cases e
  | _ :: _, [], _, e => by cases e
section
variable {w : WD} {W : WX} {π : Nat → V} {B B' B1 Z : Hp} {g : G} {σ σ' : L2.St} {H H' : Hp}
/-- at the end of a def's body -/
theorem Sat.ends {vs : List V} {as bk : List (Bool × D)} (s : Sat w (argP vs) B Z (argG as) (vs.map some) H) (e : Ext B B') (t : Sat w (argP vs) B' Z g σ' H') (h : endsOf as g = some bk) :
    Sat w (argP vs) B' Z (argG bk) (vs.map some) H' ∧ ∀ v o d, Res w B' Z g σ' H' v o d → Res w B' Z (argG bk) (vs.map some) H' v o d := by
  obtain ⟨hl, hg⟩ := endsOf_get h
  have alen : as.length = vs.length := by
    have := s.len
    unfold argG at this
    rw [List.length_map, List.length_map] at this
    exact this
  have val : ∀ {j : Nat} {a : Bool × D}, as[j]? = some a → ∃ v, vs[j]? = some v := fun {j a} q => by
    have := (List.getElem?_eq_some_iff.mp q).1
    exact ⟨vs[j]'(by omega), List.getElem?_eq_getElem _⟩
  -- an own argument that is still one's own
  have own : ∀ {j : Nat} {c : Fl} {d : D}, (argG bk)[j]? = some (some (c, d)) → c.own = true → g[j]? = some (some (.p, d)) ∧ ∃ v, vs[j]? = some v ∧ σ'[j]? = some (some v) := fun {j c d} q z => by
    obtain ⟨b, h1, h2⟩ := argG_get q
    obtain ⟨a, x, k1, k2, k3⟩ := hg j _ h1
    have hb : b = true := by
      cases b
      · rw [h2] at z; cases z
      · rfl
    subst hb
    unfold endOf at k3
    split at k3
    · cases k3
    · rename_i ha
      have ha : a.1 = true := by cases h : a.1 <;> simp_all
      have k2 := k2 ha
      split at k3
      · cases k3
        obtain ⟨v, hv⟩ := val k1
        refine ⟨k2, v, hv, ?_⟩
        rw [t.pin j .p d k2 rfl, argP_get hv]
      · cases k3
      · cases k3
  have fz : ∀ {j : Nat} {c : Fl} {d : D}, (argG bk)[j]? = some (some (c, d)) → c.own = false → ∃ v, vs[j]? = some v ∧ Den w B' v d := fun {j c d} q z => by
    obtain ⟨b, h1, h2⟩ := argG_get q
    obtain ⟨a, x, k1, k2, k3⟩ := hg j _ h1
    have hb : b = false := by
      cases b
      · rfl
      · rw [h2] at z; cases z
    subst hb
    unfold endOf at k3
    split at k3
    · rename_i ha
      cases k3
      have q2 := argG_of k1
      rw [ha] at q2
      obtain ⟨v, m1, m2⟩ := s.fz j .f a.2 q2 rfl
      exact ⟨v, mapsome_get.mp m1, m2.mono e⟩
    · rename_i ha
      have ha : a.1 = true := by cases h : a.1 <;> simp_all
      have k2 := k2 ha
      split at k3
      · cases k3
      · cases k3
        obtain ⟨v, hv⟩ := val k1
        have m := t.pin j .q d k2 rfl
        rw [argP_get hv] at m
        obtain ⟨u, m1, m2⟩ := t.fz j .q d k2 rfl
        rw [m] at m1
        cases m1
        exact ⟨v, hv, m2⟩
      · cases k3
  refine ⟨⟨t.sub, t.keep, t.dis, ?_, fun j c d q z => ?_, fun j c d q z => ?_, fun j k c c' d d' a q1 q2 z1 z2 t1 t2 => ?_, fun j c d q z => ?_, t.tz⟩, fun v o d r => ?_⟩
  · unfold argG
    rw [List.length_map, List.length_map, hl, alen]
  · obtain ⟨v, h1, h2⟩ := fz q z
    exact ⟨v, mapsome_get.mpr h1, h2⟩
  · obtain ⟨h1, v, h2, h3⟩ := own q z
    obtain ⟨a, k1, k2, k3, k4⟩ := t.ow j .p d h1 rfl
    rw [h3] at k1
    cases k1
    exact ⟨a, mapsome_get.mpr h2, k2, k3, k4⟩
  · obtain ⟨h1, v, h2, h3⟩ := own q1 z1
    obtain ⟨k1, u, k2, k3⟩ := own q2 z2
    have e1 := mapsome_get.mp t1
    have e2 := mapsome_get.mp t2
    rw [h2] at e1
    rw [k2] at e2
    cases e1
    cases e2
    exact t.dj j k .p .p d d' a h1 k1 rfl rfl h3 k3
  · obtain ⟨b, h1, h2⟩ := argG_get q
    obtain ⟨a, x, k1, _⟩ := hg j _ h1
    obtain ⟨v, hv⟩ := val k1
    rw [argP_get hv]
    exact mapsome_get.mpr hv
  · cases o with
    | false => exact r
    | true =>
      obtain ⟨a, rfl, h1, h2, h3, h4⟩ := r
      refine ⟨a, rfl, h1, h2, h3, fun j c x q z tt => ?_⟩
      obtain ⟨k1, u, k2, k3⟩ := own q z
      have e1 := mapsome_get.mp tt
      rw [k2] at e1
      cases e1
      exact h4 j .p x k1 rfl k3
/-- the slots that are not yet set -/
theorem Sat.start {vs : List V} {as : List (Bool × D)} {m : Nat} (s : Sat w π B Z (argG as) (vs.map some) H) : Sat w π B Z (argG as ++ List.replicate m none) (vs.map some ++ List.replicate m none) H := by
  have low : ∀ {j : Nat} {x : Fl × D}, (argG as ++ List.replicate m none)[j]? = some (some x) → (argG as)[j]? = some (some x) ∧ (vs.map some ++ List.replicate m none)[j]? = (vs.map some)[j]? := fun {j x} q => by
    by_cases hj : j < (argG as).length
    · rw [List.getElem?_append_left hj] at q
      exact ⟨q, List.getElem?_append_left (by rw [← s.len]; exact hj)⟩
    · rw [List.getElem?_append_right (by omega), List.getElem?_replicate] at q
      split at q <;> simp at q
  exact ⟨s.sub, s.keep, s.dis, by rw [List.length_append, List.length_append, s.len, List.length_replicate, List.length_replicate], fun j c d q z => by
    obtain ⟨q1, q2⟩ := low q
    rw [q2]
    exact s.fz j c d q1 z, fun j c d q z => by
    obtain ⟨q1, q2⟩ := low q
    rw [q2]
    exact s.ow j c d q1 z, fun j k c c' d d' a q1 q2 z1 z2 t1 t2 => by
    obtain ⟨q1, e1⟩ := low q1
    obtain ⟨q2, e2⟩ := low q2
    rw [e1] at t1
    rw [e2] at t2
    exact s.dj j k c c' d d' a q1 q2 z1 z2 t1 t2, fun j c d q z => by
    obtain ⟨q1, q2⟩ := low q
    rw [q2]
    exact s.pin j c d q1 z, s.tz⟩
theorem body_D {n : Nat} {N : List Str} {ss : SS} {t : TS} {vs : List V} {Q : VK} {E : XK} (h : spD w (bodyFn n N.length ss) vs H Q E) (r : RS w W t ss) (hW : ∀ cls d σ H, E cls d H → W cls d σ H) : t { nx := fun _ H' => Q .non H', rt := Q } (L2.start N vs) H := by
  obtain ⟨B, Z, as, s, p⟩ := h
  unfold bodyFn at p
  split at p
  · rename_i hn
    have alen : as.length = vs.length := by
      have := s.len
      unfold argG at this
      rw [List.length_map, List.length_map] at this
      exact this
    have st : Sat w (argP vs) B Z (argG as ++ List.replicate (N.length - n) none) (L2.start N vs) H := by
      unfold L2.start
      rw [← alen, hn]
      exact s.start
    refine r (argP vs) B Z _ _ H _ st ?_
    split at p
    · rename_i o d g e
      rw [e]
      split at p
      · rename_i bk hb
        intro v B' H' σ' e' t' rs
        obtain ⟨k1, k2⟩ := s.ends e' t' hb
        exact p v B' H' e' k1 (k2 v o d rs)
      · exact p.elim
    · rename_i g e
      rw [e]
      split at p
      · rename_i bk hb
        intro B' H' σ' e' t'
        obtain ⟨k1, k2⟩ := s.ends e' t' hb
        exact p .non B' H' e' k1 Den.non
      · exact p.elim
    · rename_i x f g e
      rw [e]
      split at p
      · rename_i bk hb
        intro hx dd B' H' σ' e' t' xo
        obtain ⟨k1, k2⟩ := s.ends e' t' hb
        exact hW _ _ _ _ (p hx dd B' H' e' k1 xo)
      · exact p.elim
    · exact p.elim
  · exact p.elim
theorem spD_len {n N : Nat} {ss : SS} {vs : List V} {Q : VK} {E : XK} (h : spD w (bodyFn n N ss) vs H Q E) : vs.length = n := by
  obtain ⟨B, Z, as, s, p⟩ := h
  unfold bodyFn at p
  split at p
  · rename_i hn
    have := s.len
    unfold argG at this
    rw [List.length_map, List.length_map] at this
    omega
  · exact p.elim
end
end M7
namespace M7
open PySem PySem.Spec PyProof.Rows L2
section
variable {w : WD} {W : WX} {π : Nat → V} {B B' B1 Z : Hp} {g : G} {σ : L2.St} {H H' : Hp} {v : V}
/-! ### what a value is, by its datum -/
theorem lk_int {i : Int} (h : Lk w B H v (.int i)) : v = .int i := by
  cases h with
  | den h => cases h; rfl
  | own _ h => cases h
theorem lk_bl {b : Bool} (h : Lk w B H v (.bl b)) : v = .bl b := by
  cases h with
  | den h => cases h; rfl
  | own _ h => cases h
theorem lk_str {x : Str} (h : Lk w B H v (.str x)) : v = .str x := by
  cases h with
  | den h => cases h; rfl
  | own _ h => cases h
theorem lk_non (h : Lk w B H v .non) : v = .non := by
  cases h with
  | den h => cases h; rfl
  | own _ h => cases h
theorem Sub.at {a : Addr} {o : HO} (h : Sub B H) (e : B a = some o) (n : lockable o = false) : H a = some o := by
  rcases (h a o e).2 with z | ⟨l, _⟩
  · exact z
  · rw [n] at l; cases l
theorem lk_lst {ds : List D} (s : Sub B H) (h : Lk w B H v (.lst ds)) : ∃ a xs, v = .ref a ∧ H a = some (.lst xs) ∧ Dens w B xs ds := by
  cases h with
  | den h =>
    cases h with
    | lst e r => exact ⟨_, _, rfl, s.at e rfl, r⟩
  | own _ h =>
    cases h with
    | lst e r => exact ⟨_, _, rfl, e, r⟩
theorem lk_scr {ds : List D} (s : Sub B H) (h : Lk w B H v (.scr ds)) : ∃ a xs, v = .ref a ∧ SqL w.K H a xs ∧ Dens w B xs ds := by
  cases h with
  | den h =>
    cases h with
    | scr e r => exact ⟨_, _, rfl, s.sqL e, r⟩
  | own _ h => cases h
theorem lk_tup {ds : List D} (s : Sub B H) (h : Lk w B H v (.tup ds)) : ∃ a xs, v = .ref a ∧ SqT w.K H a xs ∧ Dens w B xs ds := by
  cases h with
  | den h =>
    cases h with
    | tup e r => exact ⟨_, _, rfl, s.sqT e, r⟩
  | own _ h => cases h
/-- what a call, an operation gives: data as they are; a new list; a new tuple -/
theorem fin_d {Q : VK} {d : D} (s : Sat w π B Z g σ H) (q : PostF w π B Z g σ Q (some (false, d))) (h : Den w B v d) : Q v H := q v B H (Ext.refl _) s h
theorem Sat.newB {p : Addr} {o : HO} (s : Sat w π B Z g σ H) (hp : H p = none) (po : plain o = true := by rfl) : Sat w π (upd B p o) Z g σ (upd H p o) := by
  have s1 := s.grow (Ext.new hp (o := o))
  refine s1.more (Ext.new (s.sub.none hp)) (s1.sub.upd upd_same po) (fun a u q => ?_) fun i c d a q z t => ?_
  · rw [upd_ne (ne_of_none q (s.keep.no hp))]
    exact s.dis a u q
  · obtain ⟨b, q1, q2, q3, q4⟩ := s.ow i c d q z
    rw [t] at q1
    cases q1
    obtain ⟨u, hu⟩ := q4.there
    rw [upd_ne (ne_of_none hu hp)]
    exact q2
theorem fin_T {Q : VK} {xs : List V} {ds : List D} {p : Addr} (s : Sat w π B Z g σ H) (q : PostF w π B Z g σ Q (some (false, .tup ds))) (h : Dens w B xs ds) (hp : H p = none) : Q (.ref p) (upd H p (.tup xs)) :=
  q _ (upd B p (.tup xs)) _ (Ext.new (s.sub.none hp)) (s.newB hp) (Den.tup (.inl (.inl upd_same)) (h.mono (Ext.new (s.sub.none hp))))
/-- a new object is one's own -/
theorem Sat.new_res {p : Addr} {o : HO} {d : D} (s : Sat w π B Z g σ H) (hp : H p = none) (n : Own w B (upd H p o) p d) : Res w B Z g σ (upd H p o) (.ref p) true d :=
  ⟨p, rfl, s.sub.none hp, s.keep.no hp, n, fun i c e q z t => by
    obtain ⟨b, q1, q2, q3, q4⟩ := s.ow i c e q z
    rw [t] at q1
    cases q1
    obtain ⟨u, hu⟩ := q4.there
    rw [hp] at hu
    cases hu⟩
theorem fin_L {Q : VK} {xs : List V} {ds : List D} {p : Addr} (s : Sat w π B Z g σ H) (q : PostF w π B Z g σ Q (some (true, .lst ds))) (h : Dens w B xs ds) (hp : H p = none) : Q (.ref p) (upd H p (.lst xs)) :=
  q _ B _ (Ext.refl _) (s.grow (Ext.new hp)) (s.new_res hp (.lst upd_same h))
/-! ### operators -/
instance {i j : Int} : Decidable (CMul i j) := by unfold CMul; infer_instance
instance {i j : Int} : Decidable (CDiv i j) := by unfold CDiv; infer_instance
instance {i j : Int} : Decidable (CPow i j) := by unfold CPow; infer_instance
def i2 (c : Int → Int → Bool) (f : Int → Int → D) : D → D → Option (Bool × D)
  | .int i, .int j => if c i j = true then some (false, f i j) else none
  | _, _ => none
theorem od_i {C : Int → Int → Prop} {c : Int → Int → Bool} {f : Int → Int → D} {g' : Int → Int → V} (hc : ∀ i j, c i j = true → C i j) (hf : ∀ B i j, Den w B (g' i j) (f i j)) : OpD w (rI C g') (i2 c f) := fun π B Z g σ H Q v u d e s h1 h2 q => by
  cases d <;> first | exact q.elim | skip
  cases e <;> first | exact q.elim | skip
  rename_i i j
  unfold i2 at q
  simp only at q
  split at q
  · rename_i hcc
    exact ⟨i, j, lk_int h1, lk_int h2, hc i j hcc, fin_d s q (hf B i j)⟩
  · exact q.elim
theorem od_i0 {f : Int → Int → D} {g' : Int → Int → V} (hf : ∀ B i j, Den w B (g' i j) (f i j)) : OpD w (rI0 g') (i2 (fun _ _ => true) f) := fun π B Z g σ H Q v u d e s h1 h2 q => by
  cases d <;> first | exact q.elim | skip
  cases e <;> first | exact q.elim | skip
  rename_i i j
  exact ⟨i, j, lk_int h1, lk_int h2, fin_d s q (hf B i j)⟩
theorem OpD.or {r r' : R2} {f f' : D → D → Option (Bool × D)} (h : OpD w r f) (h' : OpD w r' f') : OpD w (fun x y H Q => r x y H Q ∨ r' x y H Q) (fun d e => match f d e with
    | some x => some x
    | none => f' d e) := fun π B Z g σ H Q v u d e s h1 h2 q => by
  cases hf : f d e with
  | some x =>
    simp only [hf] at q
    exact .inl (h π B Z g σ H Q v u d e s h1 h2 (by rw [hf]; exact q))
  | none =>
    simp only [hf] at q
    exact .inr (h' π B Z g σ H Q v u d e s h1 h2 q)
def dSub : D → D → Option (Bool × D) := i2 (fun _ _ => true) fun i j => .int (i - j)
theorem od_sub : OpD w (rI0 fun i j => .int (i - j)) dSub := od_i0 fun _ i j => .int _
def dMulI : D → D → Option (Bool × D) := i2 (fun i j => decide (CMul i j)) fun i j => .int (i * j)
theorem od_mulI : OpD w (rI CMul fun i j => .int (i * j)) dMulI := od_i (fun _ _ h => of_decide_eq_true h) fun _ i j => .int _
def dDiv : D → D → Option (Bool × D) := i2 (fun i j => decide (CDiv i j)) fun i j => .int (i / j)
theorem od_div : OpD w (rI CDiv fun i j => .int (i / j)) dDiv := od_i (fun _ _ h => of_decide_eq_true h) fun _ i j => .int _
def dMod : D → D → Option (Bool × D) := i2 (fun _ j => decide (0 < j)) fun i j => .int (i % j)
theorem od_mod : OpD w (rI (fun _ j => 0 < j) fun i j => .int (i % j)) dMod := od_i (fun _ _ h => of_decide_eq_true h) fun _ i j => .int _
def dPow : D → D → Option (Bool × D) := i2 (fun i j => decide (CPow i j)) fun i j => .int (i ^ j.toNat)
theorem od_pow : OpD w (rI CPow fun i j => .int (i ^ j.toNat)) dPow := od_i (fun _ _ h => of_decide_eq_true h) fun _ i j => .int _
/-- + -/
def dCatS : D → D → Option (Bool × D)
  | .str a, .str b => if a.length + b.length ≤ sizeLine then some (false, .str (a ++ b)) else none
  | _, _ => none
theorem od_catS : OpD w (fun x y H Q => ∃ i j, x = .str i ∧ y = .str j ∧ i.length + j.length ≤ sizeLine ∧ Q (.str (i ++ j)) H) dCatS := fun π B Z g σ H Q v u d e s h1 h2 q => by
  cases d <;> first | exact q.elim | skip
  cases e <;> first | exact q.elim | skip
  rename_i i j
  unfold dCatS at q
  simp only at q
  split at q
  · rename_i hc
    exact ⟨i, j, lk_str h1, lk_str h2, hc, fin_d s q (.str _)⟩
  · exact q.elim
def dCatL : D → D → Option (Bool × D)
  | .lst a, .lst b => if a.length + b.length ≤ sizeLine then some (true, .lst (a ++ b)) else none
  | _, _ => none
theorem od_catL : OpD w rCat dCatL := fun π B Z g σ H Q v u d e s h1 h2 q => by
  cases d <;> first | exact q.elim | skip
  cases e <;> first | exact q.elim | skip
  rename_i ds es
  unfold dCatL at q
  simp only at q
  split at q
  · rename_i hc
    obtain ⟨a, xs, rfl, ha, hx⟩ := lk_lst s.sub h1
    obtain ⟨b, ys, rfl, hb, hy⟩ := lk_lst s.sub h2
    exact ⟨a, b, xs, ys, rfl, rfl, ha, hb, by rw [hx.len, hy.len]; exact hc, fun p hp => fin_L s q (hx.app hy) hp⟩
  · exact q.elim
def dCatT : D → D → Option (Bool × D)
  | .tup a, .tup b => if a.length + b.length ≤ sizeLine ∧ a ≠ [] then some (false, .tup (a ++ b)) else none
  | _, _ => none
theorem lk_den_tup {ds : List D} (h : Lk w B H v (.tup ds)) : Den w B v (.tup ds) := by
  cases h with
  | den h => exact h
  | own _ h => cases h
theorem od_catT : OpD w (rCatT w.K) dCatT := fun π B Z g σ H Q v u d e s h1 h2 q => by
  cases d <;> first | exact q.elim | skip
  cases e <;> first | exact q.elim | skip
  rename_i ds es
  unfold dCatT at q
  simp only at q
  split at q
  · rename_i hc
    obtain ⟨a, xs, rfl, ha, hx⟩ := lk_tup s.sub h1
    obtain ⟨b, ys, rfl, hb, hy⟩ := lk_tup s.sub h2
    refine ⟨a, b, xs, ys, rfl, rfl, ha, hb, fun z => hc.2 (by subst z; cases hx; rfl), by rw [hx.len, hy.len]; exact hc.1, fun z => ?_, fun _ p hp => fin_T s q (hx.app hy) hp⟩
    subst z
    cases hy
    rw [List.append_nil] at q
    exact fin_d s q (lk_den_tup h1)
  · exact q.elim
def dAdd : D → D → Option (Bool × D)
  | .int i, .int j => some (false, .int (i + j))
  | .str a, .str b => dCatS (.str a) (.str b)
  | .lst a, .lst b => dCatL (.lst a) (.lst b)
  | .tup a, .tup b => dCatT (.tup a) (.tup b)
  | _, _ => none
def rAddU (K : PySem.W.Frag) : R2 := fun x y H Q => (rI0 fun i j => .int (i + j)) x y H Q ∨ (fun x y H Q => (fun x y H Q => ∃ i j, x = .str i ∧ y = .str j ∧ i.length + j.length ≤ sizeLine ∧ Q (.str (i ++ j)) H) x y H Q ∨ (fun x y H Q => rCat x y H Q ∨ rCatT K x y H Q) x y H Q) x y H Q
theorem op_addU {X : Cx} : OpR X (binaryOp .Add) (rAddU X.K) := OpR.or op_add (OpR.or op_add_str (OpR.or op_cat op_catT))
theorem od_add : OpD w (rAddU w.K) dAdd := fun π B Z g σ H Q v u d e s h1 h2 q => by
  cases d <;> first | exact q.elim | skip
  · cases e <;> first | exact q.elim | skip
    exact .inl ⟨_, _, lk_int h1, lk_int h2, fin_d s q (.int _)⟩
  · cases e <;> first | exact q.elim | skip
    exact .inr (.inl (od_catS π B Z g σ H Q v u _ _ s h1 h2 q))
  · cases e <;> first | exact q.elim | skip
    exact .inr (.inr (.inl (od_catL π B Z g σ H Q v u _ _ s h1 h2 q)))
  · cases e <;> first | exact q.elim | skip
    exact .inr (.inr (.inr (od_catT π B Z g σ H Q v u _ _ s h1 h2 q)))
/-! ### order -/
def dCmp (p : Int → Int → Bool) (r : Str → Str → Bool) : D → D → Option (Bool × D)
  | .int i, .int j => some (false, .bl (p i j))
  | .str a, .str b => some (false, .bl (r a b))
  | _, _ => none
theorem od_cmp {p : Int → Int → Bool} {r : Str → Str → Bool} : OpD w (fun x y H Q => (rI0 fun i j => .bl (p i j)) x y H Q ∨ (∃ i j, x = .str i ∧ y = .str j ∧ Q (.bl (r i j)) H)) (dCmp p r) := fun π B Z g σ H Q v u d e s h1 h2 q => by
  cases d <;> first | exact q.elim | skip
  · cases e <;> first | exact q.elim | skip
    exact .inl ⟨_, _, lk_int h1, lk_int h2, fin_d s q (.bl _)⟩
  · cases e <;> first | exact q.elim | skip
    exact .inr ⟨_, _, lk_str h1, lk_str h2, fin_d s q (.bl _)⟩
def dLt := dCmp (fun i j => decide (i < j)) fun a b => decide (a.cps.toList < b.cps.toList)
def dLe := dCmp (fun i j => decide (i ≤ j)) fun a b => !decide (b.cps.toList < a.cps.toList)
def dGt := dCmp (fun i j => decide (j < i)) fun a b => decide (b.cps.toList < a.cps.toList)
def dGe := dCmp (fun i j => decide (j ≤ i)) fun a b => !decide (a.cps.toList < b.cps.toList)
theorem op_ltU {X : Cx} : OpR X (compareOp .Lt) (fun x y H Q => (rI0 fun i j => .bl (decide (i < j))) x y H Q ∨ (∃ i j, x = .str i ∧ y = .str j ∧ Q (.bl (decide (i.cps.toList < j.cps.toList))) H)) := OpR.or op_lt op_lt_str
theorem op_leU {X : Cx} : OpR X (compareOp .LtE) (fun x y H Q => (rI0 fun i j => .bl (decide (i ≤ j))) x y H Q ∨ (∃ i j, x = .str i ∧ y = .str j ∧ Q (.bl (!decide (j.cps.toList < i.cps.toList))) H)) := OpR.or op_le op_le_str
theorem op_gtU {X : Cx} : OpR X (compareOp .Gt) (fun x y H Q => (rI0 fun i j => .bl (decide (j < i))) x y H Q ∨ (∃ i j, x = .str i ∧ y = .str j ∧ Q (.bl (decide (j.cps.toList < i.cps.toList))) H)) := OpR.or op_gt op_gt_str
theorem op_geU {X : Cx} : OpR X (compareOp .GtE) (fun x y H Q => (rI0 fun i j => .bl (decide (j ≤ i))) x y H Q ∨ (∃ i j, x = .str i ∧ y = .str j ∧ Q (.bl (!decide (i.cps.toList < j.cps.toList))) H)) := OpR.or op_ge op_ge_str
end
/-! ### equality -/
mutual
def D.py : D → PyData
  | .non => .none
  | .bl b => .bool b
  | .int i => .int i
  | .str x => .str x
  | .lst ds => .list (D.pys ds)
  | .scr ds => .list (D.pys ds)
  | .tup ds => .tuple (D.pys ds)
  | .dct kvs => .dict (D.pyk kvs)
  | .obj _ _ => .none
  | .cls _ => .none
def D.pys : List D → List PyData
  | [] => []
  | d :: ds => D.py d :: D.pys ds
def D.pyk : List (Key × D) → List (PyData × PyData)
  | [] => []
  | (k, d) :: ds => (R7.keyD k, D.py d) :: D.pyk ds
/-- no dict, no object within -/
def D.flat : D → Bool
  | .lst ds => D.flats ds
  | .scr ds => D.flats ds
  | .tup ds => D.flats ds
  | .dct _ => false
  | .obj _ _ => false
  | .cls _ => false
  | _ => true
def D.flats : List D → Bool
  | [] => true
  | d :: ds => D.flat d && D.flats ds
end
section
variable {w : WD} {W : WX} {π : Nat → V} {B B' B1 Z : Hp} {g : G} {σ : L2.St} {H H' : Hp} {v : V}
mutual
theorem Den.dp (s : Sub B H) : ∀ {v : V} {d : D}, Den w B v d → d.flat = true → Dp w.K H v d.py
  | _, _, .non, _ => .non
  | _, _, .bl b, _ => .bl b
  | _, _, .int i, _ => .int i
  | _, _, .str x, _ => .str x
  | _, _, .lst e r, h => .lst (.inl (.inl (s.at e rfl))) (Dens.dp s r h)
  | _, _, .scr e r, h => .lst (s.sqL e) (Dens.dp s r h)
  | _, _, .tup e r, h => .tup (s.sqT e) (Dens.dp s r h)
  | _, _, .dct _ _ _, h => nomatch h
  | _, _, .obj _ _ _, h => nomatch h
  | _, _, .cls _, h => nomatch h
theorem Dens.dp (s : Sub B H) : ∀ {vs : List V} {ds : List D}, Dens w B vs ds → D.flats ds = true → DpAll w.K H vs (D.pys ds)
  | _, _, .nil, _ => .nil
  | _, _, .cons r t, h => by
    unfold D.flats at h
    obtain ⟨h1, h2⟩ := Bool.and_eq_true_iff.mp h
    exact .cons (Den.dp s r h1) (Dens.dp s t h2)
end
theorem Lk.dp {d : D} (s : Sub B H) (h : Lk w B H v d) (f : d.flat = true) : Dp w.K H v d.py := by
  cases h with
  | den h => exact h.dp s f
  | own _ h =>
    cases h with
    | lst e r => exact .lst (.inl (.inl e)) (r.dp s f)
    | dct e l r => cases f
    | obj e l r => cases f
def D.cmpable (d : D) : Bool := d.flat && SeqAt.shaped d.py
def dEq (d e : D) : Option (Bool × D) := if (d.cmpable && e.cmpable) = true then some (false, .bl (PyData.eqv d.py e.py)) else none
def dNe (d e : D) : Option (Bool × D) := if (d.cmpable && e.cmpable) = true then some (false, .bl (!PyData.eqv d.py e.py)) else none
theorem od_eq : OpD w (rEqD w.K) dEq := fun π B Z g σ H Q v u d e s h1 h2 q => by
  unfold dEq at q
  split at q
  · rename_i hc
    unfold D.cmpable at hc
    simp only [Bool.and_eq_true] at hc
    exact ⟨d.py, e.py, h1.dp s.sub hc.1.1, h2.dp s.sub hc.2.1, hc.1.2, hc.2.2, fin_d s q (.bl _)⟩
  · exact q.elim
theorem od_ne : OpD w (rNeD w.K) dNe := fun π B Z g σ H Q v u d e s h1 h2 q => by
  unfold dNe at q
  split at q
  · rename_i hc
    unfold D.cmpable at hc
    simp only [Bool.and_eq_true] at hc
    exact ⟨d.py, e.py, h1.dp s.sub hc.1.1, h2.dp s.sub hc.2.1, hc.1.2, hc.2.2, fin_d s q (.bl _)⟩
  · exact q.elim
/-! ### subscripts, len -/
def dIx : D → D → Option (Bool × D)
  | .lst ds, .int i => (atI ds i).map fun d => (false, d)
  | .scr ds, .int i => (atI ds i).map fun d => (false, d)
  | .tup ds, .int i => (atI ds i).map fun d => (false, d)
  | .str z, .int i => if z.length ≤ sizeLine then (atI z.cps.toList i).map fun c => (false, .str ⟨#[c]⟩) else none
  | _, _ => none
theorem Dens.atI {xs : List V} {ds : List D} {i : Int} {d : D} (h : Dens w B xs ds) (e : atI ds i = some d) : ∃ v, L2.atI xs i = some v ∧ Den w B v d := by
  unfold L2.atI at e ⊢
  rw [h.len]
  cases hn : ixN ds.length i with
  | none => rw [hn] at e; cases e
  | some j =>
    rw [hn] at e
    exact h.get e
theorem od_ix : OpD w (rIx w.K) dIx := fun π B Z g σ H Q v u d e s h1 h2 q => by
  cases d <;> first | exact q.elim | skip
  all_goals (cases e <;> first | exact q.elim | skip)
  · rename_i z i
    unfold dIx at q
    simp only at q
    split at q
    · rename_i hz
      cases hc : L2.atI z.cps.toList i with
      | none => rw [hc] at q; exact q.elim
      | some c =>
        rw [hc] at q
        exact .inr (.inr ⟨z, i, c, lk_str h1, lk_int h2, hz, hc, fin_d s q (.str _)⟩)
    · exact q.elim
  · rename_i ds i
    obtain ⟨a, xs, rfl, ha, hx⟩ := lk_lst s.sub h1
    have q : PostF w π B Z g σ Q ((L2.atI ds i).map fun d => (false, d)) := q
    cases hc : L2.atI ds i with
    | none => rw [hc] at q; exact q.elim
    | some d =>
      rw [hc] at q
      obtain ⟨y, hy, hd⟩ := hx.atI hc
      exact .inl ⟨a, xs, i, y, rfl, lk_int h2, .inl (.inl ha), hy, fin_d s q hd⟩
  · rename_i ds i
    obtain ⟨a, xs, rfl, ha, hx⟩ := lk_scr s.sub h1
    have q : PostF w π B Z g σ Q ((L2.atI ds i).map fun d => (false, d)) := q
    cases hc : L2.atI ds i with
    | none => rw [hc] at q; exact q.elim
    | some d =>
      rw [hc] at q
      obtain ⟨y, hy, hd⟩ := hx.atI hc
      exact .inl ⟨a, xs, i, y, rfl, lk_int h2, ha, hy, fin_d s q hd⟩
  · rename_i ds i
    obtain ⟨a, xs, rfl, ha, hx⟩ := lk_tup s.sub h1
    have q : PostF w π B Z g σ Q ((L2.atI ds i).map fun d => (false, d)) := q
    cases hc : L2.atI ds i with
    | none => rw [hc] at q; exact q.elim
    | some d =>
      rw [hc] at q
      obtain ⟨y, hy, hd⟩ := hx.atI hc
      exact .inr (.inl ⟨a, xs, i, y, rfl, lk_int h2, ha, hy, fin_d s q hd⟩)
def dLen : List D → Option (Bool × D)
  | [.lst ds] => some (false, .int ds.length)
  | [.scr ds] => some (false, .int ds.length)
  | [.tup ds] => some (false, .int ds.length)
  | [.str z] => if z.length ≤ sizeLine then some (false, .int z.length) else none
  | _ => none
theorem cd_len : CallD w (fun xs H Q => ∃ x n, xs = [x] ∧ LenV w.K x H n ∧ Q (.int n) H) dLen := fun π B Z g σ H Q vs ds s h q => by
  cases h with
  | nil => exact q.elim
  | cons a t =>
    cases t with
    | cons _ _ => rename_i d _ _ _ _ _ _; cases d <;> exact q.elim
    | nil =>
      rename_i v d
      cases d <;> first | exact q.elim | skip
      · rename_i z
        unfold dLen at q
        simp only at q
        split at q
        · rename_i hz
          rw [lk_str a]
          exact ⟨_, z.length, rfl, ⟨hz, rfl⟩, fin_d s q (.int _)⟩
        · exact q.elim
      · obtain ⟨p, xs, rfl, hp, hx⟩ := lk_lst s.sub a
        exact ⟨_, xs.length, rfl, .inl ⟨xs, .inl (.inl hp), rfl⟩, by rw [hx.len]; exact fin_d s q (.int _)⟩
      · obtain ⟨p, xs, rfl, hp, hx⟩ := lk_scr s.sub a
        exact ⟨_, xs.length, rfl, .inl ⟨xs, hp, rfl⟩, by rw [hx.len]; exact fin_d s q (.int _)⟩
      · obtain ⟨p, xs, rfl, hp, hx⟩ := lk_tup s.sub a
        exact ⟨_, xs.length, rfl, .inr ⟨xs, hp, rfl⟩, by rw [hx.len]; exact fin_d s q (.int _)⟩
end
end M7
namespace M7
open PySem PySem.Spec PyProof.Rows L2
section
variable {w : WD} {W : WX} {π : Nat → V} {B B' B1 Z : Hp} {g : G} {σ : L2.St} {H H' : Hp} {v : V}
/-! ### displays: the items are data -/
def datas : List Ref → Option (List D)
  | [] => some []
  | .dt d :: rs => (datas rs).map (d :: ·)
  | .sl _ :: _ => none
theorem RefsOk.datas {vs : List V} {rs : List Ref} (h : RefsOk w B σ vs rs) : ∀ {ds : List D}, datas rs = some ds → Dens w B vs ds := by
  induction h with
  | nil =>
    intro ds e
    cases e
    exact .nil
  | cons a t ih =>
    rename_i v vs r rs
    intro ds e
    cases r with
    | sl i => cases e
    | dt d =>
      unfold M7.datas at e
      cases hd : M7.datas rs with
      | none => rw [hd] at e; cases e
      | some ds' =>
        rw [hd] at e
        cases e
        exact .cons a (ih hd)
def sized (n : Nat) (x : O (Bool × D)) : O (Bool × D) := if n ≤ sizeLine then x else .fail
def seLst (sa : SA) : SE := fun g => (sa g).bind fun rs g1 => match datas rs with
  | some ds => sized ds.length (.ok (true, .lst ds) g1)
  | none => .fail
def seTup (sa : SA) : SE := fun g => (sa g).bind fun rs g1 => match datas rs with
  | some ds => sized ds.length (.ok (false, .tup ds) g1)
  | none => .fail
theorem re_lst {ta : TA} {sa : SA} (h : RA w W ta sa) : RE w W (tLst ta) (seLst sa) := fun π B Z g σ H Q s q =>
  h π B Z g σ H _ s (tailE.bA q fun rs g1 vs B1 H1 e1 s1 r1 q1 => by
    split at q1
    · rename_i ds hd
      unfold sized at q1
      split at q1
      · rename_i hz
        have dn := r1.datas hd
        exact ⟨by rw [dn.len]; exact hz, fun p hp => fin_L (Q := Q) s1 q1 dn hp⟩
      · exact q1.elim
    · exact q1.elim)
theorem re_tup {ta : TA} {sa : SA} (h : RA w W ta sa) : RE w W (tTup ta) (seTup sa) := fun π B Z g σ H Q s q =>
  h π B Z g σ H _ s (tailE.bA q fun rs g1 vs B1 H1 e1 s1 r1 q1 => by
    split at q1
    · rename_i ds hd
      unfold sized at q1
      split at q1
      · rename_i hz
        have dn := r1.datas hd
        exact ⟨by rw [dn.len]; exact hz, fun p hp => fin_T (Q := Q) s1 q1 dn hp⟩
      · exact q1.elim
    · exact q1.elim)
/-! ### slices -/
def cutD (ds : List D) (lo hi : Option Int) : List D := (ds.drop (HT.sIx ds.length 0 lo)).take (HT.sIx ds.length ds.length hi - HT.sIx ds.length 0 lo)
theorem Dens.cut {xs : List V} {ds : List D} (h : Dens w B xs ds) (lo hi : Option Int) : Dens w B (cutV xs lo hi) (cutD ds lo hi) := by
  unfold cutV cutD
  rw [h.len]
  exact (h.drop _).take _
def dSl : D → Option Int → Option Int → Option (Bool × D)
  | .lst ds, lo, hi => some (true, .lst (cutD ds lo hi))
  | .tup ds, lo, hi => some (false, .tup (cutD ds lo hi))
  | .str z, lo, hi => if z.length ≤ sizeLine then some (false, .str (cutS z lo hi)) else none
  | _, _, _ => none
def rSlU (K : PySem.W.Frag) : V → Option Int → Option Int → Hp → VK → Prop := fun x lo hi H Q => rSlL K x lo hi H Q ∨ (fun x lo hi H Q => rSlA K x lo hi H Q ∨ rSlS x lo hi H Q) x lo hi H Q
theorem sl_U {X : Cx} : SlR X (rSlU X.K) := SlR.or sl_list (SlR.or sl_tupA sl_str)
def SlD (w : WD) (r : V → Option Int → Option Int → Hp → VK → Prop) (f : D → Option Int → Option Int → Option (Bool × D)) : Prop := ∀ π B Z g σ H Q v d lo hi, Sat w π B Z g σ H → Lk w B H v d → PostF w π B Z g σ Q (f d lo hi) → r v lo hi H Q
theorem cut_all {ds : List D} {lo hi : Option Int} (h : HT.sIx ds.length 0 lo = 0 ∧ HT.sIx ds.length ds.length hi = ds.length) : cutD ds lo hi = ds := by
  unfold cutD
  rw [h.1, h.2, List.drop_zero, Nat.sub_zero, List.take_length]
theorem sd_U : SlD w (rSlU w.K) dSl := fun π B Z g σ H Q v d lo hi s h q => by
  cases d <;> first | exact q.elim | skip
  · rename_i z
    unfold dSl at q
    simp only at q
    split at q
    · rename_i hz
      exact .inr (.inr ⟨z, lk_str h, hz, fin_d s q (.str _)⟩)
    · exact q.elim
  · obtain ⟨a, xs, rfl, ha, hx⟩ := lk_lst s.sub h
    exact .inl ⟨a, xs, rfl, .inl (.inl ha), fun p hp => fin_L s q (hx.cut lo hi) hp⟩
  · obtain ⟨a, xs, rfl, ha, hx⟩ := lk_tup s.sub h
    refine .inr (.inl ⟨a, xs, rfl, ha, fun e => ?_, fun _ p hp => fin_T s q (hx.cut lo hi) hp⟩)
    rw [hx.len] at e
    have q : PostF w π B Z g σ Q (some (false, .tup (cutD _ lo hi))) := q
    rw [cut_all e] at q
    exact fin_d s q (lk_den_tup h)
def soNone : SO := fun g => .ok none g
def soSome (se : SE) : SO := fun g => (se g).bind fun r g1 => match r.2 with
  | .int i => .ok (some i) g1
  | _ => .fail
theorem ro_none : RO w W tNoPart soNone := fun π B Z g σ H Q s q => q B H (Ext.refl _) s
theorem res_int {o : Bool} {i : Int} (r : Res w B Z g σ H v o (.int i)) : v = .int i := by
  cases o with
  | false =>
    have r : Den w B v (.int i) := r
    cases r
    rfl
  | true =>
    obtain ⟨a, _, _, _, ho, _⟩ := r
    cases ho
theorem ro_some {te : TE} {se : SE} (h : RE w W te se) : RO w W (tPart te) (soSome se) := fun π B Z g σ H Q s q =>
  h π B Z g σ H _ s (tailL.bE q fun o d g1 v B1 H1 e s1 r q1 => by
    cases d with
    | int i => exact ⟨i, res_int r, q1 B1 H1 (Ext.refl _) s1⟩
    | _ => exact q1.elim)
def seSl (f : D → Option Int → Option Int → Option (Bool × D)) (sb : SB) (lo hi : SO) : SE := fun g => (sb g).bind fun r g1 => (lo g1).bind fun l g2 => (hi g2).bind fun u g3 => match r.get g3 with
  | some d => ofOpt g3 (f d l u)
  | none => .fail
theorem re_sl {r : V → Option Int → Option Int → Hp → VK → Prop} {f : D → Option Int → Option Int → Option (Bool × D)} {te : TE} {tl th : TO} {sb : SB} {lo hi : SO} (hf : SlD w r f) (h : RB w W te sb) (h1 : RO w W tl lo) (h2 : RO w W th hi) : RE w W (tSl r te tl th) (seSl f sb lo hi) := fun π B Z g σ H Q s q =>
  h π B Z g σ H _ s (tailE.bB q fun a g1 v B1 H1 e1 s1 r1 q1 => h1 π B1 Z g1 σ H1 _ s1 (tailE.bL q1 fun l g2 B2 H2 e2 s2 q2 => h2 π B2 Z g2 σ H2 _ s2 (tailE.bL q2 fun u g3 B3 H3 e3 s3 q3 => by
    split at q3
    · rename_i d hd
      exact hf π B3 Z g3 σ H3 Q v d l u s3 (s3.lk (r1.mono (e2.trans e3)) hd) (postE_opt q3)
    · exact q3.elim)))
/-! ### an own object of a name is changed by a method -/
/-- what a method makes of the object and its arguments: what it returns, what the object is then -/
def MutD (w : WD) (r : V → List V → Hp → VK → Prop) (f : D → List D → Option (D × D)) : Prop := ∀ B H a d vs ds (Q : VK), Sub B H → Own w B H a d → Lks w B H vs ds →
  (match f d ds with
    | some (res, d') => ∀ v o, Own w B (upd H a o) a d' → Den w B v res → Q v (upd H a o)
    | none => False) → r (.ref a) vs H Q
/-- .. whose arguments become part of it -/
def MutV (w : WD) (r : V → List V → Hp → VK → Prop) (f : D → List D → Option (D × D)) : Prop := ∀ B H a d vs ds (Q : VK), Sub B H → Own w B H a d → Dens w B vs ds →
  (match f d ds with
    | some (res, d') => ∀ v o, Own w B (upd H a o) a d' → Den w B v res → Q v (upd H a o)
    | none => False) → r (.ref a) vs H Q
def ownAt (g : G) (i : Nat) : Option (Fl × D) := match g[i]? with
  | some (some (c, d)) => if c.own = true then some (c, d) else none
  | _ => none
theorem ownAt_some {i : Nat} {c : Fl} {d : D} (h : ownAt g i = some (c, d)) : g[i]? = some (some (c, d)) ∧ c.own = true := by
  unfold ownAt at h
  split at h
  · rename_i c' d' e
    split at h
    · rename_i ho
      cases h
      exact ⟨e, ho⟩
    · cases h
  · cases h
def isLst : D → Bool
  | .lst _ => true
  | _ => false
def isDct : D → Bool
  | .dct _ => true
  | _ => false
def seMut (ty : D → Bool) (i : Nat) (sel : G → List Ref → Option (List D)) (f : D → List D → Option (D × D)) (sa : SA) : SE := fun g => match ownAt g i with
  | some (_, d0) => if ty d0 = true then (sa g).bind fun rs g1 => match ownAt g1 i, sel g1 rs with
    | some (c, d), some ds => match f d ds with
      | some (res, d') => .ok (false, res) (g1.set i (some (c, d')))
      | none => .fail
    | _, _ => .fail else .fail
  | none => .fail
def seMutD (ty : D → Bool) (i : Nat) (f : D → List D → Option (D × D)) (sa : SA) : SE := seMut ty i refsGet f sa
def seMutV (ty : D → Bool) (i : Nat) (f : D → List D → Option (D × D)) (sa : SA) : SE := seMut ty i (fun _ => datas) f sa
theorem own_list {a : Addr} {d : D} (h : Own w B H a d) (t : isLst d = true) : tyV w.K "list" (.ref a) H := by
  cases h with
  | lst e r => exact .inl ⟨rfl, _, .inl (.inl e)⟩
  | dct => cases t
  | obj => cases t
theorem own_dict {a : Addr} {d : D} (h : Own w B H a d) (t : isDct d = true) : tyV w.K "dict" (.ref a) H := by
  cases h with
  | dct e _ r => exact .inr (.inr (.inl ⟨rfl, .inl ⟨_, e⟩⟩))
  | lst => cases t
  | obj => cases t
theorem re_mutD {ty : D → Bool} {T : String} {i : Nat} {r : V → List V → Hp → VK → Prop} {f : D → List D → Option (D × D)} {ta : TA} {sa : SA} (hT : ∀ B H a d, Own w B H a d → ty d = true → tyV w.K T (.ref a) H) (hf : MutD w r f) (h : RA w W ta sa) :
    RE w W (tBM w.K T r (tVar i) ta) (seMutD ty i f sa) := fun π B Z g σ H Q s q => by
  unfold seMutD seMut at q
  split at q
  · rename_i c0 d0 e0
    obtain ⟨e0, o0⟩ := ownAt_some e0
    split at q
    · rename_i ht
      obtain ⟨a, h1, h2, h3, h4⟩ := s.ow i c0 d0 e0 o0
      refine ⟨.ref a, h1, hT B H a d0 h4 ht, h π B Z g σ H _ s (tailE.bA q fun rs g1 vs B1 H1 e1 s1 r1 q1 => ?_)⟩
      split at q1
      · rename_i c d ds k1 k2
        obtain ⟨k1, o1⟩ := ownAt_some k1
        obtain ⟨a', m1, m2, m3, m4⟩ := s1.ow i c d k1 o1
        rw [h1] at m1
        cases m1
        refine hf B1 H1 a d vs ds Q s1.sub m4 (s1.lks r1 k2) ?_
        split at q1
        · exact fun v o n dn => q1 v B1 _ (Ext.refl _) (s1.write k1 o1 h1 n) dn
        · exact q1.elim
      · exact q1.elim
    · exact q.elim
  · exact q.elim
theorem re_mutV {ty : D → Bool} {T : String} {i : Nat} {r : V → List V → Hp → VK → Prop} {f : D → List D → Option (D × D)} {ta : TA} {sa : SA} (hT : ∀ B H a d, Own w B H a d → ty d = true → tyV w.K T (.ref a) H) (hf : MutV w r f) (h : RA w W ta sa) :
    RE w W (tBM w.K T r (tVar i) ta) (seMutV ty i f sa) := fun π B Z g σ H Q s q => by
  unfold seMutV seMut at q
  split at q
  · rename_i c0 d0 e0
    obtain ⟨e0, o0⟩ := ownAt_some e0
    split at q
    · rename_i ht
      obtain ⟨a, h1, h2, h3, h4⟩ := s.ow i c0 d0 e0 o0
      refine ⟨.ref a, h1, hT B H a d0 h4 ht, h π B Z g σ H _ s (tailE.bA q fun rs g1 vs B1 H1 e1 s1 r1 q1 => ?_)⟩
      split at q1
      · rename_i c d ds k1 k2
        obtain ⟨k1, o1⟩ := ownAt_some k1
        obtain ⟨a', m1, m2, m3, m4⟩ := s1.ow i c d k1 o1
        rw [h1] at m1
        cases m1
        refine hf B1 H1 a d vs ds Q s1.sub m4 (r1.datas k2) ?_
        split at q1
        · exact fun v o n dn => q1 v B1 _ (Ext.refl _) (s1.write k1 o1 h1 n) dn
        · exact q1.elim
      · exact q1.elim
    · exact q.elim
  · exact q.elim
/-- append -/
def fAppend : D → List D → Option (D × D)
  | .lst ds, [d] => if ds.length < sizeLine then some (.non, .lst (ds ++ [d])) else none
  | _, _ => none
theorem mv_append : MutV w rAppend fAppend := fun B H a d vs ds Q s ho hd q => by
  cases hd with
  | nil => cases ho <;> exact q.elim
  | cons r t =>
    cases t with
    | cons _ _ => cases ho <;> exact q.elim
    | nil =>
      cases ho with
      | dct => exact q.elim
      | obj => exact q.elim
      | lst e hx =>
        rename_i v d xs es
        unfold fAppend at q
        simp only at q
        split at q
        · rename_i res d' hq
          split at hq
          · rename_i hz
            cases hq
            exact ⟨a, xs, v, rfl, rfl, e, by rw [hx.len]; exact hz, q .non _ (.lst upd_same (hx.app (.cons r .nil))) .non⟩
          · cases hq
        · exact q.elim
/-- extend -/
def fExtend : D → List D → Option (D × D)
  | .lst ds, [.lst es] => if ds.length + es.length ≤ sizeLine then some (.non, .lst (ds ++ es)) else none
  | _, _ => none
theorem md_extend : MutD w rExtend fExtend := fun B H a d vs ds Q s ho hd q => by
  cases hd with
  | nil => cases ho <;> exact q.elim
  | cons r t =>
    rename_i v vs d' ds
    cases t with
    | cons _ _ => cases ho <;> cases d' <;> exact q.elim
    | nil =>
      cases ho with
      | dct => cases d' <;> exact q.elim
      | obj => cases d' <;> exact q.elim
      | lst e hx =>
        rename_i xs es
        cases d' <;> first | exact q.elim | skip
        obtain ⟨b, ys, rfl, hb, hy⟩ := lk_lst s r
        unfold fExtend at q
        simp only at q
        split at q
        · rename_i res d' hq
          split at hq
          · rename_i hz
            cases hq
            exact ⟨a, b, xs, ys, rfl, rfl, e, hb, by rw [hx.len, hy.len]; exact hz, q .non _ (.lst upd_same (hx.app hy)) .non⟩
          · cases hq
        · exact q.elim
/-- pop(i) -/
def fPopAt : D → List D → Option (D × D)
  | .lst ds, [.int i] => if -(2 ^ 63) ≤ i ∧ i < 2 ^ 63 then (match seqIndex? i ds.length with
    | some k => match ds[k]? with
      | some d => some (d, .lst (ds.eraseIdx k))
      | none => none
    | none => none) else none
  | _, _ => none
theorem Dens.erase : ∀ {vs : List V} {ds : List D} (n : Nat), Dens w B vs ds → Dens w B (vs.eraseIdx n) (ds.eraseIdx n)
  | _, _, _, .nil => .nil
  | _, _, 0, .cons _ t => t
  | _, _, n + 1, .cons r t => .cons r (t.erase n)
theorem md_popAt : MutD w rPopAt fPopAt := fun B H a d vs ds Q s ho hd q => by
  cases hd with
  | nil => cases ho <;> exact q.elim
  | cons r t =>
    rename_i v vs d' ds
    cases t with
    | cons _ _ => cases ho <;> cases d' <;> exact q.elim
    | nil =>
      cases ho with
      | dct => cases d' <;> exact q.elim
      | obj => cases d' <;> exact q.elim
      | lst e hx =>
        rename_i xs es
        cases d' <;> first | exact q.elim | skip
        rename_i i
        unfold fPopAt at q
        simp only at q
        split at q
        · rename_i res d' hq
          split at hq
          · rename_i hi
            split at hq
            · rename_i k hk
              split at hq
              · rename_i d hd
                cases hq
                obtain ⟨y, hy, dy⟩ := hx.get hd
                exact ⟨a, xs, i, k, y, rfl, by rw [lk_int r], e, hi.1, hi.2, by rw [hx.len]; exact hk, hy, q y _ (.lst upd_same (hx.erase k)) dy⟩
              · cases hq
            · cases hq
          · cases hq
        · exact q.elim
/-- x[i] = e, x a name with a list of one's own -/
def ssSetL (i : Nat) (sv : SE) (si : SE) : SS := fun g => ofO (sv g) fun r g1 => match ownAt g1 i with
  | some _ => ofO (si g1) fun k g2 => match ownAt g2 i, k.2 with
    | some (c, .lst ds), .int j => match ixN ds.length j with
      | some n => .nx (g2.set i (some (c, .lst (ds.set n r.2))))
      | none => .fail
    | _, _ => .fail
  | none => .fail
theorem rs_setL {i : Nat} {tv ti : TE} {sv si : SE} (hv : RE w W tv sv) (hi : RE w W ti si) : RS w W (tAsg tv (gSub (tVar i) ti rSetL)) (ssSetL i sv si) := fun π B Z g σ H D s q =>
  hv π B Z g σ H _ s (postS_E q fun o d g1 v B1 H1 e1 s1 r q1 => by
    obtain ⟨B2, e2, s2, hd⟩ := r.freeze s1
    split at q1
    · rename_i x e0
      obtain ⟨c0, d0⟩ := x
      obtain ⟨e0, o0⟩ := ownAt_some e0
      obtain ⟨a, h1, h2, h3, h4⟩ := s2.ow i c0 d0 e0 o0
      refine ⟨.ref a, h1, hi π B2 Z g1 σ H1 _ s2 (postS_E (q1.mono e2) fun o' k g2 u B3 H3 e3 s3 r3 q3 => ?_)⟩
      split at q3
      · rename_i c ds j k1 hj
        obtain ⟨k1, o1⟩ := ownAt_some k1
        obtain ⟨a', m1, m2, m3, m4⟩ := s3.ow i c _ k1 o1
        rw [h1] at m1
        cases m1
        split at q3
        · rename_i n hn
          cases m4 with
          | lst e hx =>
            rename_i xs
            have hj : k = .int j := hj
            subst hj
            refine ⟨a, xs, j, n, rfl, res_int r3, e, by rw [hx.len]; exact hn, q3 B3 _ σ (Ext.refl _) (s3.write k1 o1 h1 (.lst upd_same (hx.set n (hd.mono e3))))⟩
        · exact q3.elim
      · exact q3.elim
    · exact q1.elim)
end
end M7
namespace M7
open PySem PySem.Spec PyProof.Rows L2
section
variable {w : WD} {W : WX} {π : Nat → V} {B B' B1 Z : Hp} {g : G} {σ : L2.St} {H H' : Hp} {v : V}
/-! ### what a loop walks -/
theorem walks_of {J : It} {n : Nat} {Gd : Hp → Prop} {Y : Nat → Hp → V → Hp → Prop} {ds : List D} (wk : Walk J n Gd Y) (hn : n = ds.length) (hg : ∀ B1 H, Ext B B1 → Sub B1 H → Gd H)
    (hy : ∀ B1 i d H x H', Ext B B1 → Sub B1 H → ds[i]? = some d → Y i H x H' → Ext H H' ∧ ∃ B2, Ext B1 B2 ∧ Sub B2 H' ∧ (∀ a o, H a = some o → B1 a = none → B2 a = none) ∧ Den w B2 x d) : Walks w B J ds := by
  subst hn
  refine ⟨fun B1 H e s => wk.stops H (hg B1 H e s), fun B1 H i d e s q => wk.goes i H (List.getElem?_eq_some_iff.mp q).1 (hg B1 H e s), fun B1 H i d x H' e s q y => ?_⟩
  exact hy B1 i d H x H' e s q (wk.yields i H x H' (List.getElem?_eq_some_iff.mp q).1 (hg B1 H e s) y)
/-- an item that stands as it is -/
theorem yat {xs : List V} {ds : List D} (hx : Dens w B xs ds) : ∀ B1 (i : Nat) (d : D) (H : Hp) (x : V) (H' : Hp), Ext B B1 → Sub B1 H → ds[i]? = some d → YAt xs i H x H' → Ext H H' ∧ ∃ B2, Ext B1 B2 ∧ Sub B2 H' ∧ (∀ a o, H a = some o → B1 a = none → B2 a = none) ∧ Den w B2 x d := fun B1 i d H x H' e s q y => by
  obtain ⟨rfl, y⟩ := y
  obtain ⟨v, h1, h2⟩ := hx.get q
  rw [y] at h1
  cases h1
  exact ⟨Ext.refl _, B1, Ext.refl _, s, fun _ _ _ z => z, h2.mono e⟩
/-- a new pair -/
theorem ypair {xs ys : Nat → Option V} {ds es : Nat → Option D} (hx : ∀ i d, ds i = some d → ∃ v, xs i = some v ∧ Den w B v d) (hy : ∀ i d, es i = some d → ∃ v, ys i = some v ∧ Den w B v d) : ∀ B1 (i : Nat) (d e : D) (H : Hp) (x : V) (H' : Hp), Ext B B1 → Sub B1 H → ds i = some d → es i = some e → YPair xs ys i H x H' →
    Ext H H' ∧ ∃ B2, Ext B1 B2 ∧ Sub B2 H' ∧ (∀ a o, H a = some o → B1 a = none → B2 a = none) ∧ Den w B2 x (.tup [d, e]) := fun B1 i d e H x H' ex s q1 q2 y => by
  obtain ⟨T, u, v, rfl, hT, rfl, h1, h2⟩ := y
  obtain ⟨u', k1, k2⟩ := hx i d q1
  obtain ⟨v', k3, k4⟩ := hy i e q2
  rw [h1] at k1
  cases k1
  rw [h2] at k3
  cases k3
  have hB : B1 T = none := s.none hT
  refine ⟨Ext.new hT, upd B1 T (.tup [u, v]), Ext.new hB, (s.same (Ext.new hT)).upd upd_same, fun a o z n => ?_, .tup (.inl (.inl upd_same)) (.cons ((k2.mono ex).mono (Ext.new hB)) (.cons ((k4.mono ex).mono (Ext.new hB)) .nil))⟩
  rw [upd_ne (ne_of_none z hT)]
  exact n
def chars (z : Str) : List D := z.cps.toList.map fun c => .str ⟨#[c]⟩
def itemsOf : D → Option (List D)
  | .lst ds => some ds
  | .scr ds => some ds
  | .tup ds => some ds
  | .str z => some (chars z)
  | _ => none
def siOf (se : SE) : SI := fun g => (se g).bind fun r g1 => match itemsOf r.2 with
  | some ds => .ok ds g1
  | none => .fail
def iU (K : PySem.W.Frag) (te : TE) : TI := fun σ H R => iList K te σ H R ∨ iTup K te σ H R ∨ iStr te σ H R
theorem pi_U {X : Cx} {tg e : Expr} {te : TE} (h : PE X e te) : PI X tg e (iU X.K te) := ⟨fun pins s σ H R I q => by
  rcases q with q | q | q
  · exact (pi_list h).run pins s σ H R I q
  · exact (pi_tup h).run pins s σ H R I q
  · exact (pi_str h).run pins s σ H R I q⟩
theorem chars_get {z : Str} {i : Nat} {d : D} (h : (chars z)[i]? = some d) : ∃ c, z.cps[i]? = some c ∧ d = .str ⟨#[c]⟩ := by
  unfold chars at h
  rw [List.getElem?_map] at h
  cases e : z.cps.toList[i]? with
  | none => rw [e] at h; cases h
  | some c =>
    rw [e] at h
    cases h
    rw [Array.getElem?_toList] at e
    exact ⟨c, e, rfl⟩
theorem ri_U {te : TE} {se : SE} (h : RE w W te se) : RI w W (iU w.K te) (siOf se) := fun π B Z g σ H R s q => by
  unfold siOf at q
  cases e : se g with
  | fail => rw [e] at q; exact q.elim
  | ex x f g1 =>
    rw [e] at q
    exact .inl (h π B Z g σ H _ s (by rw [e]; exact q))
  | ok r g1 =>
    obtain ⟨o, d⟩ := r
    rw [e] at q
    have q : PostI w W π B Z σ R (match itemsOf d with
      | some ds => .ok ds g1
      | none => .fail) := q
    cases d with
    | lst ds =>
      refine .inl (h π B Z g σ H _ s ?_)
      rw [e]
      intro v B1 H1 e1 s1 r1
      obtain ⟨B2, e2, s2, hd⟩ := r1.freeze s1
      obtain ⟨a, xs, rfl, ha, hx⟩ := lk_lst s2.sub (.den hd)
      refine ⟨a, rfl, ⟨xs, .inl (.inl ha)⟩, q _ B2 H1 (e1.trans e2) s2 ?_⟩
      cases hd with
      | lst hb hx' => exact walks_of (walk_list (xs := _)) hx'.len (fun B3 H3 e3 s3 => .inl (.inl (s3.at (e3 _ _ hb) rfl))) (yat hx')
    | scr ds =>
      refine .inl (h π B Z g σ H _ s ?_)
      rw [e]
      intro v B1 H1 e1 s1 r1
      obtain ⟨B2, e2, s2, hd⟩ := r1.freeze s1
      obtain ⟨a, xs, rfl, ha, hx⟩ := lk_scr s2.sub (.den hd)
      refine ⟨a, rfl, ⟨xs, ha⟩, q _ B2 H1 (e1.trans e2) s2 ?_⟩
      cases hd with
      | scr hb hx' => exact walks_of (walk_list (xs := _)) hx'.len (fun B3 H3 e3 s3 => s3.sqL (e3.sqL hb)) (yat hx')
    | tup ds =>
      refine .inr (.inl (h π B Z g σ H _ s ?_))
      rw [e]
      intro v B1 H1 e1 s1 r1
      obtain ⟨B2, e2, s2, hd⟩ := r1.freeze s1
      obtain ⟨a, xs, rfl, ha, hx⟩ := lk_tup s2.sub (.den hd)
      refine ⟨a, rfl, ⟨xs, ha⟩, q _ B2 H1 (e1.trans e2) s2 ?_⟩
      cases hd with
      | tup hb hx' => exact walks_of (walk_tup (xs := _)) hx'.len (fun B3 H3 e3 s3 => s3.sqT (e3.sqT hb)) (yat hx')
    | str z =>
      refine .inr (.inr (h π B Z g σ H _ s ?_))
      rw [e]
      intro v B1 H1 e1 s1 r1
      obtain ⟨B2, e2, s2, hd⟩ := r1.freeze s1
      refine ⟨z, lk_str (H := H1) (.den hd), q _ B2 H1 (e1.trans e2) s2 ?_⟩
      refine walks_of walk_str (by unfold chars; rw [List.length_map, Array.length_toList]) (fun _ _ _ _ => True.intro) fun B3 i d H3 x H4 e3 s3 q3 y => ?_
      obtain ⟨rfl, c, hc, rfl⟩ := y
      obtain ⟨c', hc', rfl⟩ := chars_get q3
      rw [hc] at hc'
      cases hc'
      exact ⟨Ext.refl _, B3, Ext.refl _, s3, fun _ _ _ n => n, .str _⟩
    | _ => exact q.elim
/-- range -/
def rangeD (lo : Int) (n : Nat) : List D := (List.range n).map fun i : Nat => D.int (lo + (i : Int))
theorem rangeD_get {lo : Int} {n i : Nat} {d : D} (h : (rangeD lo n)[i]? = some d) : d = .int (lo + (i : Int)) := by
  unfold rangeD at h
  rw [List.getElem?_map] at h
  cases e : (List.range n)[i]? with
  | none => rw [e] at h; cases h
  | some j =>
    rw [e] at h
    cases h
    have := List.getElem?_eq_some_iff.mp e
    obtain ⟨h1, h2⟩ := this
    rw [List.getElem_range] at h2
    rw [h2]
theorem walks_range {lo : Int} {n : Nat} : Walks w B (Itr lo n) (rangeD lo n) :=
  walks_of walk_range (by unfold rangeD; rw [List.length_map, List.length_range]) (fun _ _ _ _ => True.intro) fun B3 i d H3 x H4 e3 s3 q3 y => by
    obtain ⟨rfl, rfl⟩ := y
    rw [rangeD_get q3]
    exact ⟨Ext.refl _, B3, Ext.refl _, s3, fun _ _ _ n => n, .int _⟩
def rg1 : List D → Option (List D)
  | [.int j] => if -(2 ^ 62) ≤ j ∧ j < 2 ^ 62 then some (rangeD 0 j.toNat) else none
  | _ => none
def rg2 : List D → Option (List D)
  | [.int i, .int j] => if -(2 ^ 62) ≤ i ∧ i < 2 ^ 62 ∧ -(2 ^ 62) ≤ j ∧ j < 2 ^ 62 then some (rangeD i (j - i).toNat) else none
  | _ => none
def siA (f : List D → Option (List D)) (sa : SA) : SI := fun g => (sa g).bind fun rs g1 => match refsGet g1 rs with
  | some ds => match f ds with
    | some es => .ok es g1
    | none => .fail
  | none => .fail
theorem Tail.bAI {x : O (List Ref)} {k : List Ref → G → O (List D)} {R : It → Hp → Prop} {Q1 : List V → Hp → Prop} (h : PostI w W π B Z σ R (x.bind k))
    (K : ∀ r g1 v B1 H1, Ext B B1 → Sat w π B1 Z g1 σ H1 → RefsOk w B1 σ v r → PostI w W π B1 Z σ R (k r g1) → Q1 v H1) : PostA w W π B Z σ Q1 x := by
  cases x with
  | ok a g1 =>
    intro v B1 H1 e s r
    refine K a g1 v B1 H1 e s r ?_
    have h : PostI w W π B Z σ R (k a g1) := h
    cases hk : k a g1 with
    | ok ds g2 => rw [hk] at h; exact fun J B2 H2 e2 => h J B2 H2 (e.trans e2)
    | ex x f g2 => rw [hk] at h; exact PostX.mono e h
    | fail => rw [hk] at h; exact h
  | ex x f g => exact h
  | fail => exact h
theorem lks1 {vs : List V} {d : D} (h : Lks w B H vs [d]) : ∃ v, vs = [v] ∧ Lk w B H v d := by
  cases h with
  | cons a t => cases t; exact ⟨_, rfl, a⟩
theorem lks2 {vs : List V} {d e : D} (h : Lks w B H vs [d, e]) : ∃ v u, vs = [v, u] ∧ Lk w B H v d ∧ Lk w B H u e := by
  cases h with
  | cons a t =>
    obtain ⟨u, rfl, h⟩ := lks1 t
    exact ⟨_, _, rfl, a, h⟩
theorem ri_range1 {ta : TA} {sa : SA} (h : RA w W ta sa) : RI w W (iRng1 ta) (siA rg1 sa) := fun π B Z g σ H R s q =>
  h π B Z g σ H _ s (Tail.bAI q fun rs g1 vs B1 H1 e1 s1 r1 q1 => by
    split at q1
    · rename_i ds hr
      have hl := s1.lks r1 hr
      split at q1
      · rename_i es he
        unfold rg1 at he
        split at he
        · rename_i j
          split at he
          · rename_i hj
            cases he
            obtain ⟨v, rfl, hv⟩ := lks1 hl
            exact ⟨j, by rw [lk_int hv], hj.1, hj.2, q1 _ B1 H1 (Ext.refl _) s1 walks_range⟩
          · cases he
        · cases he
      · exact q1.elim
    · exact q1.elim)
theorem ri_range2 {ta : TA} {sa : SA} (h : RA w W ta sa) : RI w W (iRng2 ta) (siA rg2 sa) := fun π B Z g σ H R s q =>
  h π B Z g σ H _ s (Tail.bAI q fun rs g1 vs B1 H1 e1 s1 r1 q1 => by
    split at q1
    · rename_i ds hr
      have hl := s1.lks r1 hr
      split at q1
      · rename_i es he
        unfold rg2 at he
        split at he
        · rename_i i j
          split at he
          · rename_i hj
            cases he
            obtain ⟨v, u, rfl, hv, hu⟩ := lks2 hl
            exact ⟨i, j, by rw [lk_int hv, lk_int hu], hj, q1 _ B1 H1 (Ext.refl _) s1 walks_range⟩
          · cases he
        · cases he
      · exact q1.elim
    · exact q1.elim)
end
end M7
/-! Pieces of syntax over families of contexts: what they do to data. -/
namespace M7
open PySem PySem.Spec PyProof.Rows L2
section
variable {ι : Type} (XS : ι → Cx) (w : WD) (W : WX)
def DE (e : Expr) (se : SE) : Prop := ∃ t, (∀ i, PE (XS i) e t) ∧ RE w W t se
def DB (e : Expr) (sb : SB) : Prop := ∃ t, (∀ i, PE (XS i) e t) ∧ RB w W t sb
def DT (e : Expr) (st : ST) : Prop := ∃ t, (∀ i, PT (XS i) e t) ∧ RT w W t st
def DW (e : Expr) (st : ST) : Prop := ∃ t, (∀ i, PW (XS i) e t) ∧ RT w W t st
def DTs (es : List Expr) (st : ST) : Prop := ∃ t, (∀ i, PTs (XS i) es t) ∧ RT w W t st
def DA (es : List Expr) (sa : SA) : Prop := ∃ t, (∀ i, PA (XS i) es t) ∧ RA w W t sa
def DO (e : Option Expr) (so : SO) : Prop := ∃ t, (∀ i, PO (XS i) e t) ∧ RO w W t so
def DI (tg e : Expr) (si : SI) : Prop := ∃ t, (∀ i, PI (XS i) tg e t) ∧ RI w W t si
def DG (vs : List Nat) (e : Expr) (sg : SG) : Prop := ∃ t, (∀ i, PG (XS i) e t) ∧ RG w t sg ∧ Wipes t vs
def DGs (vs : List Nat) (es : List Expr) (sg : SGs) : Prop := ∃ t, (∀ i, PGs (XS i) es t) ∧ RGs w t sg ∧ WipesS t vs ∧ ∀ i, (assignEach es (XS i).env).length = es.length
def DS (st : Stmt) (ss : SS) : Prop := ∃ t, (∀ i, PS (XS i) st t) ∧ RS w W t ss
def DSs (sts : List Stmt) (ss : SS) : Prop := ∃ t, (∀ i, PSs (XS i) sts t) ∧ RS w W t ss
end
section
variable {ι : Type} {XS : ι → Cx} {w : WD} {W : WX} {e a b c o : Expr} {es : List Expr} {se sa' sb' : SE} {sa sb sc : SB} {args : SA} {st su : ST} {ss su' : SS} {pos p apos pos' : Pos} {x : Str}
theorem de_int {i j} : DE XS w W (.Constant (.int i) j pos) (seC (.int i)) := ⟨_, fun _ => pe_int, re_int⟩
theorem de_bl {b j} : DE XS w W (.Constant (.bool b) j pos) (seC (.bl b)) := ⟨_, fun _ => pe_bl, re_bl⟩
theorem de_non {j} : DE XS w W (.Constant .none j pos) (seC .non) := ⟨_, fun _ => pe_non, re_non⟩
theorem de_str {x j} : DE XS w W (.Constant (.str x) j pos) (seC (.str x)) := ⟨_, fun _ => pe_str, re_str⟩
theorem db_var (k : Nat) (hN : ∀ i, (XS i).N[k]? = some x := by intro _; rfl) (hv : ∀ i, Vis (XS i).env.scope x := by intro _; first | exact Or.inl rfl | exact Or.inr (Or.inl rfl) | exact Or.inr (Or.inr rfl)) (hd : (x == ("__debug__" : Str)) = false := by decide)
    (hcd : (x == ("__classdict__" : Str)) = false := by decide) : DB XS w W (.Name x pos) (sbVar k) := ⟨_, fun i => pe_var (hN i) (hv i) hd hcd, rb_var⟩
theorem de_var (k : Nat) (hN : ∀ i, (XS i).N[k]? = some x := by intro _; rfl) (hv : ∀ i, Vis (XS i).env.scope x := by intro _; first | exact Or.inl rfl | exact Or.inr (Or.inl rfl) | exact Or.inr (Or.inr rfl)) (hd : (x == ("__debug__" : Str)) = false := by decide)
    (hcd : (x == ("__classdict__" : Str)) = false := by decide) : DE XS w W (.Name x pos) (seVar k) := ⟨_, fun i => pe_var (hN i) (hv i) hd hcd, re_var⟩
theorem de_move (k : Nat) (hN : ∀ i, (XS i).N[k]? = some x := by intro _; rfl) (hv : ∀ i, Vis (XS i).env.scope x := by intro _; first | exact Or.inl rfl | exact Or.inr (Or.inl rfl) | exact Or.inr (Or.inr rfl)) (hd : (x == ("__debug__" : Str)) = false := by decide)
    (hcd : (x == ("__classdict__" : Str)) = false := by decide) : DE XS w W (.Name x pos) (seMove k) := ⟨_, fun i => pe_var (hN i) (hv i) hd hcd, re_move⟩
theorem db_of (h : DE XS w W e se) : DB XS w W e (sbOf se) := let ⟨t, h1, h2⟩ := h; ⟨t, h1, rb_of h2⟩
theorem da_nil : DA XS w W [] saNil := ⟨_, fun _ => pa_nil, ra_nil⟩
theorem da_cons (h : DB XS w W e sb) (k : DA XS w W es args) (hs : ∀ i, starEach (e :: es) (XS i).env = (false, eval e (XS i).env) :: starEach es (XS i).env := by intro _; rfl) : DA XS w W (e :: es) (saCons sb args) := by
  obtain ⟨t, h1, h2⟩ := h
  obtain ⟨u, k1, k2⟩ := k
  exact ⟨_, fun i => pa_cons (h1 i) (k1 i) (hs i), ra_cons h2 k2⟩
/-! operators -/
theorem de_bin {op} {r : R2} {f : D → D → Option (Bool × D)} (ho : ∀ i, OpR (XS i) (binaryOp op) r) (hf : OpD w r f) (ha : DB XS w W a sa) (hb : DB XS w W b sb) : DE XS w W (.BinOp a op b pos) (seOp f sa sb) := by
  obtain ⟨t, h1, h2⟩ := ha
  obtain ⟨u, k1, k2⟩ := hb
  exact ⟨_, fun i => pe_op (ho i) (h1 i) (k1 i), re_op hf h2 k2⟩
theorem de_cmp {op : CmpOp} {r : R2} {f : D → D → Option (Bool × D)} (ho : ∀ i, OpR (XS i) (compareOp op) r) (hf : OpD w r f) (ha : DB XS w W a sa) (hb : DB XS w W b sb) (hm : behindInMarks op b = false := by first | exact nobehind _ (by decide) (by decide) | rfl) :
    DE XS w W (.Compare a [op] [b] pos) (seOp f sa sb) := by
  obtain ⟨t, h1, h2⟩ := ha
  obtain ⟨u, k1, k2⟩ := hb
  exact ⟨_, fun i => pe_cmpR (ho i) (h1 i) (k1 i) hm, re_op hf h2 k2⟩
theorem rt_test {te : TE} (h : RE w W te se) : RT w W (tTest te) (stB se) := rt_b h
theorem dt_cmp {op : CmpOp} {r : R2} {f : D → D → Option (Bool × D)} (ho : ∀ i, OpR (XS i) (compareOp op) r) (hf : OpD w r f) (ha : DB XS w W a sa) (hb : DB XS w W b sb) (hm : behindInMarks op b = false := by first | exact nobehind _ (by decide) (by decide) | rfl) :
    DT XS w W (.Compare a [op] [b] pos) (stB (seOp f sa sb)) := by
  obtain ⟨t, h1, h2⟩ := ha
  obtain ⟨u, k1, k2⟩ := hb
  exact ⟨_, fun i => pt_cmpR (ho i) (h1 i) (k1 i) hm, rt_test (re_op hf h2 k2)⟩
theorem dt_val (h : DE XS w W e se) (he : ∀ i whole, isTrue e (XS i).env whole = (do let v ← whole; standAt e.pos; holding [v] (truthy v)) := by intro _ _; rfl) : DT XS w W e (stB se) := by
  obtain ⟨t, h1, h2⟩ := h
  exact ⟨_, fun i => pt_val (h1 i) (he i), rt_b h2⟩
theorem dt_not (h : DT XS w W a st) : DT XS w W (.UnaryOp .Not a pos) (stNot st) := let ⟨t, h1, h2⟩ := h; ⟨_, fun i => pt_not (h1 i), rt_not h2⟩
theorem dt_of (h : DW XS w W e st) : DT XS w W e st := let ⟨t, h1, h2⟩ := h; ⟨t, fun i => (h1 i).pt, h2⟩
theorem dw_and1 (h : DT XS w W a st) : DW XS w W (.BoolOp .And [a] pos) st := let ⟨t, h1, h2⟩ := h; ⟨t, fun i => pw_and1 (h1 i), h2⟩
theorem dw_or1 (h : DT XS w W a st) : DW XS w W (.BoolOp .Or [a] pos) st := let ⟨t, h1, h2⟩ := h; ⟨t, fun i => pw_or1 (h1 i), h2⟩
theorem dw_and {rest : List Expr} (h : DT XS w W a st) (k : DW XS w W (.BoolOp .And (b :: rest) pos) su) : DW XS w W (.BoolOp .And (a :: b :: rest) pos) (stAnd st su) := by
  obtain ⟨t, h1, h2⟩ := h
  obtain ⟨u, k1, k2⟩ := k
  exact ⟨_, fun i => pw_and (h1 i) (k1 i), rt_and h2 k2⟩
theorem dw_or {rest : List Expr} (h : DT XS w W a st) (k : DW XS w W (.BoolOp .Or (b :: rest) pos) su) : DW XS w W (.BoolOp .Or (a :: b :: rest) pos) (stOr st su) := by
  obtain ⟨t, h1, h2⟩ := h
  obtain ⟨u, k1, k2⟩ := k
  exact ⟨_, fun i => pw_or (h1 i) (k1 i), rt_or h2 k2⟩
theorem de_one {op} (h : DE XS w W a se) : DE XS w W (.BoolOp op [a] pos) se := let ⟨t, h1, h2⟩ := h; ⟨t, fun i => pe_one (h1 i), h2⟩
theorem de_and {rest : List Expr} (h : DE XS w W a sa') (k : DE XS w W (.BoolOp .And (b :: rest) pos) sb') : DE XS w W (.BoolOp .And (a :: b :: rest) pos) (seAnd sa' sb') := by
  obtain ⟨t, h1, h2⟩ := h
  obtain ⟨u, k1, k2⟩ := k
  exact ⟨_, fun i => pe_and (h1 i) (k1 i), re_and h2 k2⟩
theorem de_or {rest : List Expr} (h : DE XS w W a sa') (k : DE XS w W (.BoolOp .Or (b :: rest) pos) sb') : DE XS w W (.BoolOp .Or (a :: b :: rest) pos) (seOr sa' sb') := by
  obtain ⟨t, h1, h2⟩ := h
  obtain ⟨u, k1, k2⟩ := k
  exact ⟨_, fun i => pe_or (h1 i) (k1 i), re_or h2 k2⟩
theorem de_not (h : DE XS w W a se) : DE XS w W (.UnaryOp .Not a pos) (seNot se) := let ⟨t, h1, h2⟩ := h; ⟨_, fun i => pe_not (h1 i), re_not h2⟩
theorem de_if (hc : DT XS w W c st) (ha : DE XS w W a sa') (hb : DE XS w W b sb') : DE XS w W (.IfExp c a b pos) (seIf st sa' sb') := by
  obtain ⟨t, h1, h2⟩ := hc
  obtain ⟨u, k1, k2⟩ := ha
  obtain ⟨v, l1, l2⟩ := hb
  exact ⟨_, fun i => pe_ifExp (h1 i) (k1 i) (l1 i), re_if h2 k2 l2⟩
/-- a op b op' c, the second compared only if the first holds -/
def seChain (f f' : D → D → Option (Bool × D)) (sa sb sc : SB) : SE := fun g => (sa g).bind fun ra g1 => (sb g1).bind fun rb g2 => match ra.get g2, rb.get g2 with
  | some d, some e => match f d e with
    | some (_, .bl true) => (sc g2).bind fun rc g3 => match rb.get g3, rc.get g3 with
      | some e', some h => ofOpt g3 (f' e' h)
      | _, _ => .fail
    | some (_, .bl false) => .ok (false, .bl false) g2
    | _ => .fail
  | _, _ => .fail
/-- a comparison that gives a bool and leaves everything -/
def BoolD (f : D → D → Option (Bool × D)) : Prop := ∀ d e o r, f d e = some (o, r) → o = false
theorem re_chain {r r' : R2} {f f' : D → D → Option (Bool × D)} {ta tb tc : TE} (hf : OpD w r f) (hf' : OpD w r' f') (hb : BoolD f) (ha : RB w W ta sa) (hb' : RB w W tb sb) (hc : RB w W tc sc) : RE w W (tChain r r' ta tb tc) (seChain f f' sa sb sc) := fun π B Z g σ H Q s q =>
  ha π B Z g σ H _ s (tailE.bB q fun a g1 v B1 H1 e1 s1 r1 q1 => hb' π B1 Z g1 σ H1 _ s1 (tailE.bB q1 fun b g2 u B2 H2 e2 s2 r2 q2 => by
    split at q2
    · rename_i d e h1 h2
      refine hf π B2 Z g2 σ H2 _ v u d e s2 (s2.lk (r1.mono e2) h1) (s2.lk r2 h2) ?_
      split at q2
      · rename_i o hd
        rw [hd]
        have := hb d e o _ hd
        subst this
        intro z B3 H3 e3 s3 r3
        refine ⟨true, res_bl r3, ?_⟩
        rw [if_pos rfl]
        refine hc π B3 Z g2 σ H3 _ s3 (tailE.bB (q2.mono e3) fun cc g3 y B4 H4 e4 s4 r4 q4 => ?_)
        split at q4
        · rename_i e' h k1 k2
          exact hf' π B4 Z g3 σ H4 Q u y e' h s4 (s4.lk (r2.mono (e3.trans e4)) k1) (s4.lk r4 k2) (postE_opt q4)
        · exact q4.elim
      · rename_i o hd
        rw [hd]
        have := hb d e o _ hd
        subst this
        intro z B3 H3 e3 s3 r3
        refine ⟨false, res_bl r3, ?_⟩
        rw [if_neg Bool.false_ne_true]
        exact q2 _ B3 H3 e3 s3 (.bl false)
      · exact q2.elim
    · exact q2.elim))
theorem i2_bool {cc : Int → Int → Bool} {f : Int → Int → D} : BoolD (i2 cc f) := fun d e o r h => by
  unfold i2 at h
  split at h
  · split at h
    · cases h; rfl
    · cases h
  · cases h
theorem dCmp_bool {p : Int → Int → Bool} {r : Str → Str → Bool} : BoolD (dCmp p r) := fun d e o r h => by
  unfold dCmp at h
  split at h <;> cases h <;> rfl
theorem dEq_bool : BoolD dEq := fun d e o r h => by
  unfold dEq at h
  split at h <;> cases h
  rfl
theorem dNe_bool : BoolD dNe := fun d e o r h => by
  unfold dNe at h
  split at h <;> cases h
  rfl
theorem de_chain {op op' : CmpOp} {r r' : R2} {f f' : D → D → Option (Bool × D)} (ho : ∀ i, OpR (XS i) (compareOp op) r) (hf : OpD w r f) (hb : BoolD f) (ho' : ∀ i, OpR (XS i) (compareOp op') r') (hf' : OpD w r' f') (ha : DB XS w W a sa) (hb' : DB XS w W b sb) (hc : DB XS w W c sc) (hm : lastMarks [op, op'] [b, c] = false := by with_unfolding_all rfl) :
    DE XS w W (.Compare a [op, op'] [b, c] pos) (seChain f f' sa sb sc) := by
  obtain ⟨t, h1, h2⟩ := ha
  obtain ⟨u, k1, k2⟩ := hb'
  obtain ⟨v, l1, l2⟩ := hc
  exact ⟨_, fun i => pe_chain (ho i) (ho' i) (h1 i) (k1 i) (l1 i) hm, re_chain hf hf' hb h2 k2 l2⟩
theorem dt_chain {op op' : CmpOp} {r r' : R2} {f f' : D → D → Option (Bool × D)} (ho : ∀ i, OpR (XS i) (compareOp op) r) (hf : OpD w r f) (hb : BoolD f) (ho' : ∀ i, OpR (XS i) (compareOp op') r') (hf' : OpD w r' f') (ha : DB XS w W a sa) (hb' : DB XS w W b sb) (hc : DB XS w W c sc) (hm : lastMarks [op, op'] [b, c] = false := by with_unfolding_all rfl) :
    DT XS w W (.Compare a [op, op'] [b, c] pos) (stB (seChain f f' sa sb sc)) := by
  obtain ⟨t, h1, h2⟩ := ha
  obtain ⟨u, k1, k2⟩ := hb'
  obtain ⟨v, l1, l2⟩ := hc
  exact ⟨_, fun i => pt_chain (ho i) (ho' i) (h1 i) (k1 i) (l1 i) hm, rt_test (re_chain hf hf' hb h2 k2 l2)⟩
/-! subscripts, slices, displays -/
theorem de_ix {r : R2} {f : D → D → Option (Bool × D)} (hr : ∀ i, IxR (XS i) r) (hf : OpD w r f) (ha : DB XS w W a sa) (hb : DB XS w W b sb) (hs : PlainIx b := by intro _ _; rfl) : DE XS w W (.Subscript a b pos) (seOp f sa sb) := by
  obtain ⟨t, h1, h2⟩ := ha
  obtain ⟨u, k1, k2⟩ := hb
  exact ⟨_, fun i => pe_ix (hr i) (h1 i) (k1 i) hs, re_op hf h2 k2⟩
theorem do_none : DO XS w W none soNone := ⟨_, fun _ => po_none, ro_none⟩
theorem do_some (h : DE XS w W e se) : DO XS w W (some e) (soSome se) := let ⟨t, h1, h2⟩ := h; ⟨_, fun i => po_some (h1 i), ro_some h2⟩
theorem de_sl {lo hi : Option Expr} {p2} {slo shi : SO} (ha : DB XS w W a sa) (h1 : DO XS w W lo slo) (h2 : DO XS w W hi shi) (hK : ∀ i, (XS i).K = w.K := by intro _; rfl) : DE XS w W (.Subscript a (.Slice lo hi none p2) pos) (seSl dSl sa slo shi) := by
  obtain ⟨t, k1, k2⟩ := ha
  obtain ⟨u, l1, l2⟩ := h1
  obtain ⟨v, m1, m2⟩ := h2
  exact ⟨_, fun i => pe_slice (by rw [← hK i]; exact sl_U) (k1 i) (l1 i) (m1 i), re_sl sd_U k2 l2 m2⟩
theorem de_lst (h : DA XS w W es args) : DE XS w W (.List es pos) (seLst args) := let ⟨t, h1, h2⟩ := h; ⟨_, fun i => pe_lst (h1 i), re_lst h2⟩
theorem de_tup {k} (h : DA XS w W es args) : DE XS w W (.Tuple es k pos) (seTup args) := let ⟨t, h1, h2⟩ := h; ⟨_, fun i => pe_tup (h1 i), re_tup h2⟩
/-! calls of built-in functions and types -/
theorem de_callB {id : String} {r : List V → Hp → VK → Prop} {f : List D → Option (Bool × D)} (hc : ∀ i, CallR (XS i) (.builtin id) r) (hf : CallD w r f) (hm : ∀ i, (XS i).mg x = none) (hv : bootBuiltins x = some (.builtin id)) (ha : DA XS w W (e :: es) args) (hg : ∀ i, Gl (XS i) x := by intro _; rfl)
    (hn : x ≠ "__name__" := by decide) (hdb : (x == ("__debug__" : Str)) = false := by decide)
    (he : ∀ i, starEach (e :: es) (XS i).env = (false, eval e (XS i).env) :: starEach es (XS i).env := by intro _; rfl) (hpl : ∀ i, (backTo pos (starEach es (XS i).env)).any (·.1) = false := by intro _; rfl) : DE XS w W (.Call (.Name x p) (e :: es) [] pos) (seCB f args) := by
  obtain ⟨t, h1, h2⟩ := ha
  exact ⟨_, fun i => pe_callB (hc i) (hg i) (hm i) hv (h1 i) hn hdb (he i) (hpl i), re_cb hf h2⟩
theorem de_callTy {T : String} {r : List V → Hp → VK → Prop} {f : List D → Option (Bool × D)} (hc : ∀ i, CallR (XS i) (.type T) r) (hf : CallD w r f) (hm : ∀ i, (XS i).mg x = none) (hv : bootBuiltins x = some (.type T)) (ha : DA XS w W (e :: es) args) (hg : ∀ i, Gl (XS i) x := by intro _; rfl)
    (hn : x ≠ "__name__" := by decide) (hdb : (x == ("__debug__" : Str)) = false := by decide)
    (he : ∀ i, starEach (e :: es) (XS i).env = (false, eval e (XS i).env) :: starEach es (XS i).env := by intro _; rfl) (hpl : ∀ i, (backTo pos (starEach es (XS i).env)).any (·.1) = false := by intro _; rfl) : DE XS w W (.Call (.Name x p) (e :: es) [] pos) (seCB f args) := by
  obtain ⟨t, h1, h2⟩ := ha
  exact ⟨_, fun i => pe_callTy (hc i) (hg i) (hm i) hv (h1 i) hn hdb (he i) (hpl i), re_cb hf h2⟩
/-! methods that change an own object of a name -/
theorem de_mutD {ty : D → Bool} {T id : String} {name y : Str} (k : Nat) {r : V → List V → Hp → VK → Prop} {f : D → List D → Option (D × D)} (hT : ∀ B H a d, Own w B H a d → ty d = true → tyV w.K T (.ref a) H) (pa : PlainAttrs T) (slot : Slot T name id) (hty : typeOf (.builtin id) = pure (.type "method_descriptor"))
    (hm : ∀ i, MtR (XS i) id r) (hf : MutD w r f) (ha : DA XS w W (e :: es) args) (hN : ∀ i, (XS i).N[k]? = some y := by intro _; rfl) (hv : ∀ i, Vis (XS i).env.scope y := by intro _; first | exact Or.inl rfl | exact Or.inr (Or.inl rfl) | exact Or.inr (Or.inr rfl)) (hd : (y == ("__debug__" : Str)) = false := by decide)
    (hcd : (y == ("__classdict__" : Str)) = false := by decide) (hb : ∀ i, attributeBase (.Name y pos') name (XS i).env (eval (.Name y pos') (XS i).env) = eval (.Name y pos') (XS i).env := by intro _; rfl) (hfew : ∀ i, ((backTo pos (starEach (e :: es) (XS i).env)).all (fun x => !x.1) && (backToKw pos (keywordEach [] (XS i).env)).all (fun x => x.1.isSome) && decide ((e :: es).length + ([] : List Keyword).length + (if ([] : List Keyword).isEmpty then 0 else 1) < 30)) = true := by intro _; rfl) (hline : (apos.endLine == pos.line) = true := by rfl)
    (hs : ∀ i, starEach (e :: es) (XS i).env = (false, eval e (XS i).env) :: starEach es (XS i).env := by intro _; rfl) (hpl : ∀ i, (backTo pos (starEach es (XS i).env)).any (·.1) = false := by intro _; rfl) (hK : ∀ i, (XS i).K = w.K := by intro _; rfl) :
    DE XS w W (.Call (.Attribute (.Name y pos') name apos) (e :: es) [] pos) (seMutD ty k f args) := by
  obtain ⟨t, h1, h2⟩ := ha
  refine ⟨_, fun i => ?_, re_mutD hT hf h2⟩
  have z := pe_bm pa slot hty (hm i) (pe_var (hN i) (hv i) hd hcd) (h1 i) (hb i) (hfew i) hline (hs i) (hpl i)
  rw [hK i] at z
  exact z
theorem de_mutV {ty : D → Bool} {T id : String} {name y : Str} (k : Nat) {r : V → List V → Hp → VK → Prop} {f : D → List D → Option (D × D)} (hT : ∀ B H a d, Own w B H a d → ty d = true → tyV w.K T (.ref a) H) (pa : PlainAttrs T) (slot : Slot T name id) (hty : typeOf (.builtin id) = pure (.type "method_descriptor"))
    (hm : ∀ i, MtR (XS i) id r) (hf : MutV w r f) (ha : DA XS w W (e :: es) args) (hN : ∀ i, (XS i).N[k]? = some y := by intro _; rfl) (hv : ∀ i, Vis (XS i).env.scope y := by intro _; first | exact Or.inl rfl | exact Or.inr (Or.inl rfl) | exact Or.inr (Or.inr rfl)) (hd : (y == ("__debug__" : Str)) = false := by decide)
    (hcd : (y == ("__classdict__" : Str)) = false := by decide) (hb : ∀ i, attributeBase (.Name y pos') name (XS i).env (eval (.Name y pos') (XS i).env) = eval (.Name y pos') (XS i).env := by intro _; rfl) (hfew : ∀ i, ((backTo pos (starEach (e :: es) (XS i).env)).all (fun x => !x.1) && (backToKw pos (keywordEach [] (XS i).env)).all (fun x => x.1.isSome) && decide ((e :: es).length + ([] : List Keyword).length + (if ([] : List Keyword).isEmpty then 0 else 1) < 30)) = true := by intro _; rfl) (hline : (apos.endLine == pos.line) = true := by rfl)
    (hs : ∀ i, starEach (e :: es) (XS i).env = (false, eval e (XS i).env) :: starEach es (XS i).env := by intro _; rfl) (hpl : ∀ i, (backTo pos (starEach es (XS i).env)).any (·.1) = false := by intro _; rfl) (hK : ∀ i, (XS i).K = w.K := by intro _; rfl) :
    DE XS w W (.Call (.Attribute (.Name y pos') name apos) (e :: es) [] pos) (seMutV ty k f args) := by
  obtain ⟨t, h1, h2⟩ := ha
  refine ⟨_, fun i => ?_, re_mutV hT hf h2⟩
  have z := pe_bm pa slot hty (hm i) (pe_var (hN i) (hv i) hd hcd) (h1 i) (hb i) (hfew i) hline (hs i) (hpl i)
  rw [hK i] at z
  exact z
/-! what is walked, targets -/
theorem di_U {tg : Expr} (h : DE XS w W e se) (hK : ∀ i, (XS i).K = w.K := by intro _; rfl) : DI XS w W tg e (siOf se) := by
  obtain ⟨t, h1, h2⟩ := h
  exact ⟨_, fun i => by rw [← hK i]; exact pi_U (h1 i), ri_U h2⟩
theorem di_range1 {tg : Expr} (hm : ∀ i, (XS i).mg "range" = none) (ha : DA XS w W [a] args) (hg : ∀ i, Gl (XS i) "range" := by intro _; rfl) (hs : ∀ i, starEach [a] (XS i).env = [(false, eval a (XS i).env)] := by intro _; rfl) : DI XS w W tg (.Call (.Name "range" p) [a] [] pos) (siA rg1 args) := by
  obtain ⟨t, h1, h2⟩ := ha
  exact ⟨_, fun i => pi_range1 (hg i) (hm i) (h1 i) (hs i), ri_range1 h2⟩
theorem di_range2 {tg : Expr} (hm : ∀ i, (XS i).mg "range" = none) (ha : DA XS w W [a, b] args) (hg : ∀ i, Gl (XS i) "range" := by intro _; rfl) (hs : ∀ i, starEach [a, b] (XS i).env = [(false, eval a (XS i).env), (false, eval b (XS i).env)] := by intro _; rfl) (hs2 : ∀ i, starEach [b] (XS i).env = [(false, eval b (XS i).env)] := by intro _; rfl) :
    DI XS w W tg (.Call (.Name "range" p) [a, b] [] pos) (siA rg2 args) := by
  obtain ⟨t, h1, h2⟩ := ha
  exact ⟨_, fun i => pi_range2 (hg i) (hm i) (h1 i) (hs i) (hs2 i), ri_range2 h2⟩
theorem dg_name {vs : List Nat} (k : Nat) (hk : k ∈ vs := by decide) (hnd : ∀ i, (XS i).N.Nodup) (hi : ∀ i, (XS i).N[k]? = some x := by intro _; rfl) (hx : ∀ i, Loc (XS i).env.scope x := by intro _; first | exact .inl rfl | exact .inr rfl) (hf : ∀ i, (XS i).fn x = true ∨ (XS i).env.scope.names.lookup x = some .local := by intro _; first | exact .inl rfl | exact .inr rfl) :
    DG XS w vs (.Name x pos) (sgName k) := ⟨_, fun i => pg_name (hnd i) (hi i) (hx i) (hf i), rg_name, wipes_name hk⟩
theorem dgs_nil {vs : List Nat} : DGs XS w vs [] sgNil := ⟨_, fun _ => pgs_nil, rg_nil, wipes_nil, fun _ => rfl⟩
theorem dgs_cons {vs : List Nat} {sg : SGs} (k : Nat) (hk : k ∈ vs := by decide) (hnd : ∀ i, (XS i).N.Nodup) (t : DGs XS w vs es sg) (hi : ∀ i, (XS i).N[k]? = some x := by intro _; rfl) (hx : ∀ i, Loc (XS i).env.scope x := by intro _; first | exact .inl rfl | exact .inr rfl) (hf : ∀ i, (XS i).fn x = true ∨ (XS i).env.scope.names.lookup x = some .local := by intro _; first | exact .inl rfl | exact .inr rfl)
    (hs : ∀ i, (assignEach (.Name x pos :: es) (XS i).env).map (·.2) = assign (.Name x pos) (XS i).env :: (assignEach es (XS i).env).map (·.2) := by intro _; rfl) (hl : ∀ i, (assignEach (.Name x pos :: es) (XS i).env).length = (assignEach es (XS i).env).length + 1 := by intro _; rfl) : DGs XS w vs (.Name x pos :: es) (sgCons (sgName k) sg) := by
  obtain ⟨u, k1, k2, k3, k4⟩ := t
  exact ⟨_, fun i => pgs_cons (pg_name (hnd i) (hi i) (hx i) (hf i)) (k1 i) (hs i), rg_cons rg_name k2, wipes_cons hk k3, fun i => by rw [hl i, k4 i]; rfl⟩
theorem dg_tup {vs : List Nat} {k} {sg : SGs} (t : DGs XS w vs es sg) (hc : ∀ i, (XS i).calm = true := by intro _; rfl) (hst : ∀ i, (assignEach es (XS i).env).findIdx? (·.1) = none := by intro _; rfl) (hK : ∀ i, (XS i).K = w.K := by intro _; rfl) : DG XS w vs (.Tuple es k pos) (sgTup es.length sg) := by
  obtain ⟨u, k1, k2, k3, k4⟩ := t
  refine ⟨_, fun i => ?_, rg_tup k2, wipes_tup k3⟩
  have z := pg_seq (k := k) (pos := pos) (hc i) (k1 i) (k4 i) (hst i)
  rw [hK i] at z
  exact z
/-! statements -/
theorem ds_set (k : Nat) (hnd : ∀ i, (XS i).N.Nodup) (h : DE XS w W e se) (hi : ∀ i, (XS i).N[k]? = some x := by intro _; rfl) (hx : ∀ i, Loc (XS i).env.scope x := by intro _; first | exact .inl rfl | exact .inr rfl) (hs : ∀ i, swapsWith e (some (.Name x pos')) pos.line (XS i).env = pure false := by intro _; rfl) (hf : ∀ i, (XS i).fn x = true ∨ (XS i).env.scope.names.lookup x = some .local := by intro _; first | exact .inl rfl | exact .inr rfl) :
    DS XS w W (.Assign [.Name x pos'] e pos) (ssAsg se (sgName k)) := by
  obtain ⟨t, h1, h2⟩ := h
  exact ⟨_, fun i => ps_set (hnd i) (hi i) (hx i) (h1 i) (hs i) (hf i), rs_asg h2 rg_name⟩
theorem ds_asg {vs : List Nat} {tg : Expr} {sg : SG} (h : DE XS w W e se) (hg : DG XS w vs tg sg) (hs : ∀ i, swapsWithSole [tg] e pos.line (XS i).env = pure false := by intro _; rfl) (hw : ∀ i, swappedStores [tg] e (XS i).env = pure none := by intro _; rfl) (h1 : ∀ i, (assignEach [tg] (XS i).env).map (·.2) = [assign tg (XS i).env] := by intro _; rfl) :
    DS XS w W (.Assign [tg] e pos) (ssAsg se sg) := by
  obtain ⟨t, k1, k2⟩ := h
  obtain ⟨u, l1, l2, _⟩ := hg
  exact ⟨_, fun i => ps_asg (k1 i) (l1 i) (hs i) (hw i) (h1 i), rs_asg k2 l2⟩
theorem ds_par {x y : Str} {px py pt : Pos} {kt k2 pt2} (k l : Nat) (hnd : ∀ i, (XS i).N.Nodup) (ha : DE XS w W a sa') (hb : DE XS w W b sb') (hij : k ≠ l := by decide) (hc : ∀ i, (XS i).calm = true := by intro _; rfl) (hi : ∀ i, (XS i).N[k]? = some x := by intro _; rfl) (hj : ∀ i, (XS i).N[l]? = some y := by intro _; rfl)
    (hx : ∀ i, (XS i).env.scope.names.lookup x = some .local := by intro _; rfl) (hy : ∀ i, (XS i).env.scope.names.lookup y = some .local := by intro _; rfl) (hw : ∀ i, swappedStores [.Tuple [.Name x px, .Name y py] kt pt] (.Tuple [a, b] k2 pt2) (XS i).env = pure (some [x, y]) := by intro _; rfl)
    (hs : ∀ i, swapsWithSole [.Tuple [.Name x px, .Name y py] kt pt] (.Tuple [a, b] k2 pt2) pos.line (XS i).env = pure false := by intro _; rfl) (hs1 : ∀ i, starEach [a, b] (XS i).env = (false, eval a (XS i).env) :: starEach [b] (XS i).env := by intro _; rfl) (hs2 : ∀ i, starEach [b] (XS i).env = (false, eval b (XS i).env) :: starEach [] (XS i).env := by intro _; rfl) :
    DS XS w W (.Assign [.Tuple [.Name x px, .Name y py] kt pt] (.Tuple [a, b] k2 pt2) pos) (ssPar k l sa' sb') := by
  obtain ⟨t, h1, h2⟩ := ha
  obtain ⟨u, k1, k2'⟩ := hb
  exact ⟨_, fun i => ps_par (hc i) (hnd i) (hi i) (hj i) hij (hx i) (hy i) (pa_cons (h1 i) (pa_cons (k1 i) pa_nil (hs2 i)) (hs1 i)) (hw i) (hs i), rs_par h2 k2'⟩
theorem ds_expr (h : DE XS w W e se) (hs : ∀ i, swapsWith e none pos.line (XS i).env = pure false := by intro _; rfl) : DS XS w W (.Expr e pos) (ssDrop se) := let ⟨t, h1, h2⟩ := h; ⟨_, fun i => ps_expr (h1 i) (hs i), rs_drop h2⟩
theorem ds_ret (h : DE XS w W e se) : DS XS w W (.Return (some e) pos) (ssRet se) := let ⟨t, h1, h2⟩ := h; ⟨_, fun i => ps_ret (h1 i), rs_ret h2⟩
theorem ds_retN : DS XS w W (.Return none pos) ssRetN := ⟨_, fun _ => ps_retN, rs_retN⟩
theorem ds_pass : DS XS w W (.Pass pos) ssNext := ⟨_, fun _ => ps_pass, rs_next⟩
theorem ds_doc {x j} : DS XS w W (.Expr (.Constant (.str x) j pos) pos') ssNext := ⟨_, fun _ => ps_doc, rs_next⟩
theorem ds_if {u v : List Stmt} (hc : DT XS w W c st) (hu : DSs XS w W u ss) (hv : DSs XS w W v su') : DS XS w W (.If c u v pos) (ssIf st ss su') := by
  obtain ⟨t, h1, h2⟩ := hc
  obtain ⟨tu, k1, k2⟩ := hu
  obtain ⟨tv, l1, l2⟩ := hv
  exact ⟨_, fun i => ps_if (h1 i) (k1 i) (l1 i), rs_if h2 k2 l2⟩
theorem dss_nil : DSs XS w W [] ssNext := ⟨_, fun _ => pss_nil, rs_next⟩
theorem dss_one {s : Stmt} (h : DS XS w W s ss) : DSs XS w W [s] ss := let ⟨t, h1, h2⟩ := h; ⟨t, fun i => pss_one (h1 i), h2⟩
theorem dss_cons {s : Stmt} {r : List Stmt} (h : DS XS w W s ss) (k : DSs XS w W r su') : DSs XS w W (s :: r) (ssSeq ss su') := by
  obtain ⟨t, h1, h2⟩ := h
  obtain ⟨u, k1, k2⟩ := k
  exact ⟨_, fun i => pss_cons (h1 i) (k1 i), rs_seq h2 k2⟩
theorem ds_for {vs : List Nat} {tg : Expr} {body : List Stmt} {si : SI} {sg : SG} (hp : ∀ i, PassesOwn (model (XS i).prog (XS i).w) (XS i).A (XS i).env (XS i).xe) (hi : DI XS w W tg e si) (hg : DG XS w vs tg sg) (hb : DSs XS w W body ss) (hc : ∀ i, (XS i).calm = true := by intro _; rfl) (hs : ∀ i x, foldedSetIterable e (XS i).env x = pure x := by intro _ _; rfl) :
    DS XS w W (.For tg e body [] pos) (ssFor si sg ss) := by
  obtain ⟨t, h1, h2⟩ := hi
  obtain ⟨u, k1, k2, _⟩ := hg
  obtain ⟨v, l1, l2⟩ := hb
  exact ⟨_, fun i => ps_for (hp i) (hc i) (h1 i) (k1 i) (l1 i) (hs i), rs_for h2 k2 l2⟩
theorem ds_while {body : List Stmt} (n : Nat) (hp : ∀ i, PassesOwn (model (XS i).prog (XS i).w) (XS i).A (XS i).env (XS i).xe) (hc : DT XS w W c st) (hb : DSs XS w W body ss) : DS XS w W (.While c body [] pos) (loopW st ss n) := by
  obtain ⟨t, h1, h2⟩ := hc
  obtain ⟨v, l1, l2⟩ := hb
  exact ⟨_, fun i => ps_while (hp i) (h1 i) (l1 i), rs_while n h2 l2⟩
/-! comprehensions -/
abbrev BI (ι : Type) := ι × Shared × Hp × Addr × List (Str × Addr) × List Addr
def blkS (XS : ι → Cx) (scope : Scope) : BI ι → Cx := fun q => (XS q.1).blk q.2.1 q.2.2.1 scope (compEnvC scope q.2.2.2.2.1 q.2.2.2.1 (XS q.1).env) q.2.2.2.2.2
theorem dts_nil : DTs XS w W [] (fun g => .ok true g) := ⟨_, fun _ => pts_nil, rt_yes⟩
theorem dts_one (h : DT XS w W c st) : DTs XS w W [c] st := let ⟨t, h1, h2⟩ := h; ⟨t, fun i => pts_one (h1 i), h2⟩
theorem de_lc {elt tg iter : Expr} {ifs : List Expr} {scope : Scope} (own : List (Str × Nat)) {si : SI} {sg : SG} (hnd : ∀ i, (XS i).N.Nodup) (ok : ∀ i, BlkOk (XS i).N (XS i).env.scope scope own) (hi : DI XS w W tg iter si) (hg : DG (blkS XS scope) w (own.map (·.2)) tg sg) (ht : DTs (blkS XS scope) w WT ifs st) (he : DE (blkS XS scope) w WT elt se)
    (hc : ∀ i, (XS i).calm = true := by intro _; rfl) (hs : ∀ i x, foldedSetIterable iter (XS i).env x = pure x := by intro _ _; rfl) : DE XS w W (.ListComp elt [⟨tg, iter, ifs, 0⟩] scope pos) (seLc si sg st se (own.map (·.2))) := by
  obtain ⟨t, h1, h2⟩ := hi
  obtain ⟨u, k1, k2, k3⟩ := hg
  obtain ⟨v, l1, l2⟩ := ht
  obtain ⟨te, m1, m2⟩ := he
  exact ⟨_, fun i => pe_lc (hc i) (hnd i) (h1 i) (ok i) (fun s H C cl fp => k1 (i, s, H, C, cl, fp)) (fun s H C cl fp => l1 (i, s, H, C, cl, fp)) (fun s H C cl fp => m1 (i, s, H, C, cl, fp)) (hs i), re_lc h2 k2 k3 l2 m2⟩
/-! defs -/
/-- how exceptions leave a def: b: it may raise -/
def CXb (b : Bool) (P : Program) (wl : World) : CXT := if b = true then L2.CX P wl else L2.CX0
/-- no repr runs (where gb says so) -/
def Gd (gb : Bool) (A : Around) : Prop := gb = true → A.guards = some []
/-- a def's promise for callers (gb: only while no repr runs) -/
structure FnX (gb : Bool) (P : Program) (w : World) (K : PySem.W.Frag) (mg : Str → Option Value) (base : Heap) (CX : CXT) (k : Nat) (f : Addr) (fd : FuncData) (ps : List Str) (sp : Sp) : Prop where
  len : ∀ vs H Q E, sp vs H Q E → vs.length = ps.length
  go : ∀ (A : Around) (outer : List Env) (s : Shared) (H : Hp) (args : Args) (us : List Value) (vs : List V) (Q : VK) (E : XK), Gd gb A → Room k A → Env0 P w K mg base A outer s H →
    BindsTo s fd args (ps.zip us) → Vals vs us → sp vs H Q E → codeAny (model P w) A (.call (.ref f) args) (CR CX outer P w H s Q E) s
theorem FnX.ok {P : Program} {w : World} {K : PySem.W.Frag} {mg : Str → Option Value} {base : Heap} {CX : CXT} {k : Nat} {f : Addr} {fd : FuncData} {ps : List Str} {sp : Sp} (F : FnX false P w K mg base CX k f fd ps sp) : FnOk P w K mg base CX k f fd ps sp :=
  ⟨F.len, fun A outer s H args us vs Q E => F.go A outer s H args us vs Q E (fun z => nomatch z)⟩
theorem FnX.g {gb : Bool} {P : Program} {w : World} {K : PySem.W.Frag} {mg : Str → Option Value} {base : Heap} {CX : CXT} {k : Nat} {f : Addr} {fd : FuncData} {ps : List Str} {sp : Sp} (F : FnX gb P w K mg base CX k f fd ps sp) : R7.FnG P w K mg base CX k f fd ps sp :=
  ⟨F.len, fun A outer s H args us vs Q E hg => F.go A outer s H args us vs Q E (fun _ => hg)⟩
theorem fun_X {gb : Bool} {P : Program} {wl : World} {K : PySem.W.Frag} {mg : Str → Option Value} {base : Heap} {CX : CXT} {x qual : Str} {st : Stmt} {f : Addr} {fd : FuncData} {N ps : List Str} {k : Nat} {sp : Sp} (F : Fun K x qual st f fd) (S : FnScope N ps (defScope st)) (len : ∀ vs H Q E, sp vs H Q E → vs.length = ps.length)
    (hb : ∀ (cdv : Value) (A : Around) (outer : List Env) (s : Shared) (H : Hp) (vs : List V) (Q : VK) (E : XK), Gd gb A → Room k (A.deeper (envOfC qual (defScope st) s.heap.objs.size f cdv)) → sp vs H Q E →
      ∃ t, PSs (cxOf CX P wl K mg base N qual (defScope st) f cdv A outer s H E) (defBody st) t ∧ t { nx := fun _ H' => Q .non H', rt := Q } (L2.start N vs) H) : FnX gb P wl K mg base CX (k + 1) f fd ps sp := by
  obtain ⟨oc, od, kV, doc, pm, an, cdv, ct, osl, rfl, lk, hcd⟩ := F.ex
  refine ⟨len, fun A outer s H args us vs Q E hg hr e0 hbd r h => ?_⟩
  exact LamX.run_ofS lk hcd S hr e0 hbd r (len _ _ _ _ h) fun hr' => hb cdv A outer s H vs Q E hg hr' h
/-- a def at f -/
def Def (P : Program) (wl : World) (mg : Str → Option Value) (base : Heap) (w : WD) (gb b : Bool) (k : Nat) (f : Addr) (φ : Fn) : Prop :=
  ∃ fd ps, FnX gb P wl w.K mg base (CXb b P wl) k f fd ps (spD w φ) ∧ Binds w.K fd ps [] ∧ PySem.W.keepIn w.K (.ref f) = true
/-- a def that is called by its name -/
def Cal (P : Program) (wl : World) (mg : Str → Option Value) (base : Heap) (w : WD) (gb b : Bool) (k : Nat) (x : Str) (φ : Fn) : Prop :=
  ∃ f, Def P wl mg base w gb b k f φ ∧ mg x = some (.ref f)
theorem pe_callM {X : Cx} {gb : Bool} {CX : CXT} {k : Nat} {f : Addr} {fd : FuncData} {ps : List Str} {sp : Sp} {E : L2.St → XK} {t : TA} (F : FnX gb X.prog X.w X.K X.mg X.base CX k f fd ps sp) (hgd : Gd gb X.A) (hr : Room k X.A) (hg : Gl X x) (hm : X.mg x = some (.ref f)) (hk : PySem.W.keepIn X.K (.ref f) = true) (hb : Binds X.K fd ps [])
    (hx : ∀ σ, PassesAt CX X σ (E σ)) (ha : PA X (e :: es) t) (hdb : (x == ("__debug__" : Str)) = false) (he : starEach (e :: es) X.env = (false, eval e X.env) :: starEach es X.env)
    (hpl : (backTo pos (starEach es X.env)).any (·.1) = false) : PE X (.Call (.Name x p) (e :: es) [] pos) (tCallS sp E t) := by
  constructor
  intro pins s σ H Q I h
  apply wpAny_Call_Name_kw
  refine ld_glob I hg hm ?_ hdb
  refine PySem.W.callWith_K (h₀ := X.base) I.ok.mod.kin hk ?_ he hpl
  refine thn (ha.run pos pins s σ H _ I h) fun us s1 z => ?_
  obtain ⟨vs, H1, J, r, q⟩ := z
  have hl : (us ++ []).length = ps.length := by rw [List.append_nil, ← r.length]; exact F.len _ _ _ _ q
  refine ⟨J.kIn, wpAny_call (codeAny_mono (F.go X.A X.stack s1 H1 ⟨us, []⟩ us vs Q (E σ) hgd hr J.env0 ?_ r q) fun res s2 hq => ?_)⟩
  · have := hb s1 us J.kIn hl
    rwa [List.append_nil] at this
  · cases res with
    | error e => exact hx σ pins H1 s1 e s2 J hq
    | ok fl =>
      cases fl with
      | ret u => exact J.after hq
      | next => exact hq.elim
      | brk => exact hq.elim
      | cont => exact hq.elim
section
variable {P : Program} {wl : World} {mg : Str → Option Value} {base : Heap}
/-- what a family must be for calls -/
structure Fam (P : Program) (wl : World) (mg : Str → Option Value) (base : Heap) (w : WD) (gb : Bool) (n : Nat) (XS : ι → Cx) : Prop where
  prog : ∀ i, (XS i).prog = P
  wl : ∀ i, (XS i).w = wl
  K : ∀ i, (XS i).K = w.K
  mg : ∀ i, (XS i).mg = mg
  base : ∀ i, (XS i).base = base
  gd : ∀ i, Gd gb (XS i).A
  room : ∀ i, Room n (XS i).A
theorem Fam.blk {gb : Bool} {n : Nat} (F : Fam P wl mg base w gb n XS) (scope : Scope) : Fam P wl mg base w gb n (blkS XS scope) :=
  ⟨fun q => F.prog q.1, fun q => F.wl q.1, fun q => F.K q.1, fun q => F.mg q.1, fun q => F.base q.1, fun q => F.gd q.1, fun q => F.room q.1⟩
/-- how a callee's exceptions are wished for: b: it may raise -/
def WEb (b : Bool) (W : WX) : L2.St → XK := fun σ => if b = true then WE W σ else fun _ _ _ => True
/-- .. and taken -/
def Tk (b : Bool) (XS : ι → Cx) (W : WX) : Prop := b = true → ∀ i, Takes (XS i) W
theorem Tk.no : Tk false XS W := fun z => nomatch z
theorem Tk.of (h : ∀ i, Takes (XS i) W) {b : Bool} : Tk b XS W := fun _ => h
theorem Tk.at {b : Bool} (tk : Tk b XS W) (i : ι) (σ : L2.St) : PassesAt (CXb b (XS i).prog (XS i).w) (XS i) σ (WEb b W σ) := by
  cases b with
  | false => exact fun _ _ _ _ _ _ h => h.elim
  | true => exact passAt (tk rfl i) σ
theorem WEb.of {b : Bool} : ∀ (σ : L2.St) cls d H', W cls d σ H' → WEb b W σ cls d H' := fun σ cls d H' h => by
  cases b with
  | false => exact trivial
  | true => exact h
theorem de_call {gb gb' b : Bool} {n k : Nat} {φ : Fn} (F : Fam P wl mg base w gb n XS) (tk : Tk b XS W) (c : Cal P wl mg base w gb' b k x φ) (ha : DA XS w W (e :: es) args) (hgb : gb' = true → gb = true := by decide) (hk : k ≤ n := by decide) (hg : ∀ i, Gl (XS i) x := by intro _; rfl) (hdb : (x == ("__debug__" : Str)) = false := by decide) (he : ∀ i, starEach (e :: es) (XS i).env = (false, eval e (XS i).env) :: starEach es (XS i).env := by intro _; rfl)
    (hpl : ∀ i, (backTo pos (starEach es (XS i).env)).any (·.1) = false := by intro _; rfl) : DE XS w W (.Call (.Name x p) (e :: es) [] pos) (seCall φ args) := by
  obtain ⟨t, h1, h2⟩ := ha
  obtain ⟨f, ⟨fd, ps, c1, c2, c4⟩, c3⟩ := c
  refine ⟨_, fun i => ?_, re_call (E := WEb b W) WEb.of h2⟩
  have t1 := tk.at i
  rw [F.prog i, F.wl i] at t1
  exact pe_callM (CX := CXb b P wl) (by rw [F.prog i, F.wl i, F.K i, F.mg i, F.base i]; exact c1) (fun z => F.gd i (hgb z)) ((F.room i).mono hk) (hg i) (by rw [F.mg i]; exact c3) (by rw [F.K i]; exact c4) (by rw [F.K i]; exact c2) t1 (h1 i) hdb (he i) (hpl i)
/-- a def by its body -/
theorem def_D {gb bx : Bool} {y qual : Str} {s : Stmt} {f : Addr} {fd : FuncData} {N ps : List Str} {k : Nat} (Fd : Fun w.K y qual s f fd) (S : FnScope N ps (defScope s)) (hbd : Binds w.K fd ps [])
    (hb : ∀ (cdv : Value) (A : Around) (outer : List Env) (sh : Shared) (H : Hp) (E : XK), Gd gb A → Room k (A.deeper (envOfC qual (defScope s) sh.heap.objs.size f cdv)) →
      DSs (fun _ : Unit => cxOf (CXb bx P wl) P wl w.K mg base N qual (defScope s) f cdv A outer sh H E) w (fun cls d _ H => E cls d H) (defBody s) ss) : Def P wl mg base w gb bx (k + 1) f (bodyFn ps.length N.length ss) := by
  refine ⟨fd, ps, fun_X Fd S (fun vs H Q E h => spD_len h) fun cdv A outer sh H vs Q E hg hr h => ?_, hbd, Fd.kp⟩
  obtain ⟨t, h1, h2⟩ := hb cdv A outer sh H E hg hr
  exact ⟨t, h1 (), body_D h h2 fun _ _ _ _ z => z⟩
end
end
end M7
namespace M7
open PySem PySem.Spec PyProof.Rows L2
/-- a scalar's value -/
def D.vv : D → V
  | .bl b => .bl b
  | .int i => .int i
  | .str x => .str x
  | _ => .non
def D.sc : D → Bool
  | .non => true
  | .bl _ => true
  | .int _ => true
  | .str _ => true
  | _ => false
section
variable {w : WD} {W : WX} {π : Nat → V} {B B' B1 Z : Hp} {g : G} {σ : L2.St} {H H' : Hp} {v : V}
theorem lk_sc {d : D} (h : Lk w B H v d) (s : d.sc = true) : v = d.vv ∧ flatV v = true := by
  cases d <;> first | (cases s; done) | skip
  · rw [lk_non h]; exact ⟨rfl, rfl⟩
  · rw [lk_bl h]; exact ⟨rfl, rfl⟩
  · rw [lk_int h]; exact ⟨rfl, rfl⟩
  · rw [lk_str h]; exact ⟨rfl, rfl⟩
theorem dens_sc {xs : List V} {ds : List D} (h : Dens w B xs ds) (s : ds.all D.sc = true) : xs = ds.map D.vv ∧ xs.all flatV = true := by
  induction ds generalizing xs with
  | nil => cases h; exact ⟨rfl, rfl⟩
  | cons d ds ih =>
    cases h with
    | cons r t =>
      simp only [List.all_cons, Bool.and_eq_true] at s ⊢
      obtain ⟨h1, h2⟩ := ih t s.2
      obtain ⟨k1, k2⟩ := lk_sc (H := B) (.den r) s.1
      exact ⟨by rw [h1, k1]; rfl, k2, h2⟩
def inD (x : D) (ds : List D) : Bool := ds.any fun y => eqV y.vv x.vv
theorem inV_inD (x : D) (ds : List D) : inV x.vv (ds.map D.vv) = inD x ds := by
  unfold inV inD
  rw [List.any_map]
  rfl
/-- x in y: a list, a tuple of scalars; a text in a text -/
def dIn (neg : Bool) : D → D → Option (Bool × D)
  | x, .lst ds => if x.sc = true ∧ ds.all D.sc = true then some (false, .bl (if neg then !inD x ds else inD x ds)) else none
  | x, .tup ds => if x.sc = true ∧ ds.all D.sc = true then some (false, .bl (if neg then !inD x ds else inD x ds)) else none
  | .str a, .str b => some (false, .bl (if neg then !(!(Builtin.Str.occurrences b a 0 b.length 1).isEmpty) else !(Builtin.Str.occurrences b a 0 b.length 1).isEmpty))
  | _, _ => none
def rInU (K : PySem.W.Frag) (neg : Bool) : R2 := fun x y H Q => rIn K neg x y H Q ∨ (∃ i j, x = .str i ∧ y = .str j ∧ Q (.bl (if neg then !(!(Builtin.Str.occurrences j i 0 j.length 1).isEmpty) else !(Builtin.Str.occurrences j i 0 j.length 1).isEmpty)) H)
theorem op_inU {X : Cx} : OpR X (compareOp .In) (rInU X.K false) := OpR.or op_in_seq op_in_str
theorem op_notInU {X : Cx} : OpR X (compareOp .NotIn) (rInU X.K true) := OpR.or op_notIn_seq op_notin_str
theorem od_in {neg : Bool} : OpD w (rInU w.K neg) (dIn neg) := fun π B Z g σ H Q v u d e s h1 h2 q => by
  cases e <;> first | (cases d <;> exact q.elim) | skip
  · cases d <;> first | exact q.elim | skip
    exact .inr ⟨_, _, lk_str h1, lk_str h2, fin_d s q (.bl _)⟩
  · rename_i ds
    have q : PostF w π B Z g σ Q (if d.sc = true ∧ ds.all D.sc = true then some (false, .bl (if neg then !inD d ds else inD d ds)) else none) := by cases d <;> exact q
    split at q
    · rename_i hc
      obtain ⟨a, xs, rfl, ha, hx⟩ := lk_lst s.sub h2
      obtain ⟨k1, k2⟩ := lk_sc h1 hc.1
      obtain ⟨k3, k4⟩ := dens_sc hx hc.2
      refine .inl ⟨a, xs, rfl, .inl (.inl (.inl ha)), k2, k4, ?_⟩
      rw [k1, k3, inV_inD]
      exact fin_d s q (.bl _)
    · exact q.elim
  · rename_i ds
    have q : PostF w π B Z g σ Q (if d.sc = true ∧ ds.all D.sc = true then some (false, .bl (if neg then !inD d ds else inD d ds)) else none) := by cases d <;> exact q
    split at q
    · rename_i hc
      obtain ⟨a, xs, rfl, ha, hx⟩ := lk_tup s.sub h2
      obtain ⟨k1, k2⟩ := lk_sc h1 hc.1
      obtain ⟨k3, k4⟩ := dens_sc hx hc.2
      refine .inl ⟨a, xs, rfl, .inr ha, k2, k4, ?_⟩
      rw [k1, k3, inV_inD]
      exact fin_d s q (.bl _)
    · exact q.elim
theorem CallRor {X : Cx} {f : Value} {r r' : List V → Hp → VK → Prop} (h : CallR X f r) (h' : CallR X f r') : CallR X f (fun xs H Q => r xs H Q ∨ r' xs H Q) := fun pins s σ H xs us Q I rv q => q.elim (h pins s σ H xs us Q I rv) (h' pins s σ H xs us Q I rv)
/-- str(x) -/
def dStr : List D → Option (Bool × D)
  | [.int i] => if i.natAbs.log2 < 1920 then some (false, .str (toString i)) else none
  | [.str a] => some (false, .str a)
  | _ => none
def rStrU : List V → Hp → VK → Prop := fun xs H Q => (∃ i, xs = [.int i] ∧ i.natAbs.log2 < 1920 ∧ Q (.str (toString i)) H) ∨ (∃ a, xs = [.str a] ∧ Q (.str a) H)
theorem call_strU {X : Cx} : CallR X (.type "str") rStrU := CallRor call_str_int SkE.call_str_str
theorem cd_str : CallD w rStrU dStr := fun π B Z g σ H Q vs ds s h q => by
  unfold dStr at q
  split at q
  · obtain ⟨v, rfl, hv⟩ := lks1 h
    split at q
    · rename_i hz
      exact .inl ⟨_, by rw [lk_int hv], hz, fin_d s q (.str _)⟩
    · exact q.elim
  · obtain ⟨v, rfl, hv⟩ := lks1 h
    exact .inr ⟨_, by rw [lk_str hv], fin_d s q (.str _)⟩
  · exact q.elim
/-- tuple(x), list(x) -/
def dTuple : List D → Option (Bool × D)
  | [.lst ds] => some (false, .tup ds)
  | [.tup ds] => some (false, .tup ds)
  | _ => none
theorem cd_tuple : CallD w (fun xs H Q => ∃ p ys, xs = [.ref p] ∧ ((SqL w.K H p ys ∧ ∀ l, H l = none → Q (.ref l) (upd H l (.tup ys))) ∨ (SqT w.K H p ys ∧ Q (.ref p) H))) dTuple := fun π B Z g σ H Q vs ds s h q => by
  unfold dTuple at q
  split at q
  · obtain ⟨v, rfl, hv⟩ := lks1 h
    obtain ⟨a, xs, rfl, ha, hx⟩ := lk_lst s.sub hv
    exact ⟨a, xs, rfl, .inl ⟨.inl (.inl ha), fun p hp => fin_T s q hx hp⟩⟩
  · obtain ⟨v, rfl, hv⟩ := lks1 h
    obtain ⟨a, xs, rfl, ha, hx⟩ := lk_tup s.sub hv
    exact ⟨a, xs, rfl, .inr ⟨ha, fin_d s q (lk_den_tup hv)⟩⟩
  · exact q.elim
def dList : List D → Option (Bool × D)
  | [.lst ds] => some (true, .lst ds)
  | [.tup ds] => some (true, .lst ds)
  | _ => none
theorem cd_list : CallD w (fun xs H Q => ∃ p ys, xs = [.ref p] ∧ (SqL w.K H p ys ∨ SqT w.K H p ys) ∧ ∀ l, H l = none → Q (.ref l) (upd H l (.lst ys))) dList := fun π B Z g σ H Q vs ds s h q => by
  unfold dList at q
  split at q
  · obtain ⟨v, rfl, hv⟩ := lks1 h
    obtain ⟨a, xs, rfl, ha, hx⟩ := lk_lst s.sub hv
    exact ⟨a, xs, rfl, .inl (.inl (.inl ha)), fun p hp => fin_L s q hx hp⟩
  · obtain ⟨v, rfl, hv⟩ := lks1 h
    obtain ⟨a, xs, rfl, ha, hx⟩ := lk_tup s.sub hv
    exact ⟨a, xs, rfl, .inr ha, fun p hp => fin_L s q hx hp⟩
  · exact q.elim
/-- max, min of two ints -/
def dMax2 : List D → Option (Bool × D)
  | [.int i, .int j] => some (false, .int (if j > i then j else i))
  | _ => none
def dMin2 : List D → Option (Bool × D)
  | [.int i, .int j] => some (false, .int (if j < i then j else i))
  | _ => none
theorem cd_max2 : CallD w (fun xs H Q => ∃ i j, xs = [.int i, .int j] ∧ Q (.int (if j > i then j else i)) H) dMax2 := fun π B Z g σ H Q vs ds s h q => by
  unfold dMax2 at q
  split at q
  · obtain ⟨v, u, rfl, hv, hu⟩ := lks2 h
    exact ⟨_, _, by rw [lk_int hv, lk_int hu], fin_d s q (.int _)⟩
  · exact q.elim
theorem cd_min2 : CallD w (fun xs H Q => ∃ i j, xs = [.int i, .int j] ∧ Q (.int (if j < i then j else i)) H) dMin2 := fun π B Z g σ H Q vs ds s h q => by
  unfold dMin2 at q
  split at q
  · obtain ⟨v, u, rfl, hv, hu⟩ := lks2 h
    exact ⟨_, _, by rw [lk_int hv, lk_int hu], fin_d s q (.int _)⟩
  · exact q.elim
/-- all, any of a list of bools -/
def boolsOf : List D → Option (List Bool)
  | [] => some []
  | .bl b :: ds => (boolsOf ds).map (b :: ·)
  | _ => none
theorem boolsOf_map (bs : List Bool) : boolsOf (bs.map D.bl) = some bs := by
  induction bs with
  | nil => rfl
  | cons b bs ih => show (boolsOf (bs.map D.bl)).map (b :: ·) = _; rw [ih]; rfl
theorem dens_bools {xs : List V} {ds : List D} {bs : List Bool} (h : Dens w B xs ds) (e : boolsOf ds = some bs) : xs = bs.map V.bl := by
  induction ds generalizing xs bs with
  | nil => cases e; cases h; rfl
  | cons d ds ih =>
    cases d <;> first | (cases e; done) | skip
    rename_i b
    have e : (boolsOf ds).map (b :: ·) = some bs := e
    cases hb : boolsOf ds with
    | none => rw [hb] at e; cases e
    | some cs =>
      rw [hb] at e
      cases e
      cases h with
      | cons r t =>
        rw [ih t hb, lk_bl (H := B) (.den r)]
        rfl
def dAll : List D → Option (Bool × D)
  | [.lst ds] => (boolsOf ds).map fun bs => (false, .bl (bs.all id))
  | _ => none
def dAny : List D → Option (Bool × D)
  | [.lst ds] => (boolsOf ds).map fun bs => (false, .bl (bs.any id))
  | _ => none
theorem cd_all : CallD w (rAll w.K) dAll := fun π B Z g σ H Q vs ds s h q => by
  unfold dAll at q
  split at q
  · rename_i ds
    obtain ⟨v, rfl, hv⟩ := lks1 h
    obtain ⟨a, xs, rfl, ha, hx⟩ := lk_lst s.sub hv
    cases hb : boolsOf ds with
    | none => rw [hb] at q; exact q.elim
    | some bs =>
      rw [hb] at q
      rw [dens_bools hx hb] at ha
      exact ⟨a, bs, rfl, .inl (.inl ha), fin_d s q (.bl _)⟩
  · exact q.elim
theorem cd_any : CallD w (rAny w.K) dAny := fun π B Z g σ H Q vs ds s h q => by
  unfold dAny at q
  split at q
  · rename_i ds
    obtain ⟨v, rfl, hv⟩ := lks1 h
    obtain ⟨a, xs, rfl, ha, hx⟩ := lk_lst s.sub hv
    cases hb : boolsOf ds with
    | none => rw [hb] at q; exact q.elim
    | some bs =>
      rw [hb] at q
      rw [dens_bools hx hb] at ha
      exact ⟨a, bs, rfl, .inl (.inl ha), fin_d s q (.bl _)⟩
  · exact q.elim
/-- is None -/
def isNonD : D → Bool
  | .non => true
  | _ => false
def dIsN (neg : Bool) : D → D → Option (Bool × D)
  | d, .non => some (false, .bl (if neg then !isNonD d else isNonD d))
  | _, _ => none
theorem lk_isnon {d : D} (h : Lk w B H v d) : decide (v = .non) = isNonD d := by
  cases h with
  | den h => cases h <;> rfl
  | own _ h => cases h <;> rfl
theorem od_isN : OpD w (fun x y H Q => y = .non ∧ Q (.bl (decide (x = .non))) H) (dIsN false) := fun π B Z g σ H Q v u d e s h1 h2 q => by
  cases e <;> first | exact q.elim | skip
  refine ⟨lk_non h2, ?_⟩
  rw [lk_isnon h1]
  exact fin_d s q (.bl _)
theorem od_notN : OpD w (fun x y H Q => y = .non ∧ Q (.bl (!decide (x = .non))) H) (dIsN true) := fun π B Z g σ H Q v u d e s h1 h2 q => by
  cases e <;> first | exact q.elim | skip
  refine ⟨lk_non h2, ?_⟩
  rw [lk_isnon h1]
  exact fin_d s q (.bl _)
/-- -x -/
def seNeg (sb : SB) : SE := fun g => (sb g).bind fun r g1 => match r.get g1 with
  | some (.int i) => .ok (false, .int (-i)) g1
  | _ => .fail
theorem re_neg {ta : TE} {sb : SB} (h : RB w W ta sb) : RE w W (tUn (rU fun i => .int (-i)) ta) (seNeg sb) := fun π B Z g σ H Q s q =>
  h π B Z g σ H _ s (tailE.bB q fun r g1 v B1 H1 e1 s1 r1 q1 => by
    split at q1
    · rename_i i hi
      exact ⟨i, lk_int (s1.lk r1 hi), q1 _ B1 H1 (Ext.refl _) s1 (.int _)⟩
    · exact q1.elim)
theorem de_neg {ι : Type} {XS : ι → Cx} {a : Expr} {pos : Pos} {sb : SB} (h : DB XS w W a sb) : DE XS w W (.UnaryOp .USub a pos) (seNeg sb) := let ⟨t, h1, h2⟩ := h; ⟨_, fun i => pe_un un_neg (h1 i), re_neg h2⟩
/-- x = [.. for ..] -/
theorem ds_setLc {ι : Type} {XS : ι → Cx} {st : ST} {se : SE} {y : Str} {py pos spos : Pos} {elt tg iter : Expr} {ifs : List Expr} {scope : Scope} (k : Nat) (own : List (Str × Nat)) {si : SI} {sg : SG} (hnd : ∀ i, (XS i).N.Nodup) (ok : ∀ i, BlkOk (XS i).N (XS i).env.scope scope own) (hi : DI XS w W tg iter si) (hg : DG (blkS XS scope) w (own.map (·.2)) tg sg) (ht : DTs (blkS XS scope) w WT ifs st) (he : DE (blkS XS scope) w WT elt se)
    (hk : ∀ i, (XS i).env.scope.kind = .function := by intro _; rfl) (hy : ∀ i, (XS i).N[k]? = some y := by intro _; rfl) (hyl : ∀ i, (XS i).env.scope.names.lookup y = some .local := by intro _; rfl) (hl : (py.line == pos.line) = true := by rfl) (ha : (scope.names.any fun (n, k) => n == y && (k == .local || k == .cell)) = false := by rfl)
    (hc : ∀ i, (XS i).calm = true := by intro _; rfl) (hs : ∀ i x, foldedSetIterable iter (XS i).env x = pure x := by intro _ _; rfl) : DS XS w W (.Assign [.Name y py] (.ListComp elt [⟨tg, iter, ifs, 0⟩] scope pos) spos) (ssAsg (seLc si sg st se (own.map (·.2))) (sgName k)) := by
  obtain ⟨t, h1, h2⟩ := hi
  obtain ⟨u, k1, k2, k3⟩ := hg
  obtain ⟨v, l1, l2⟩ := ht
  obtain ⟨te, m1, m2⟩ := he
  exact ⟨_, fun i => ps_setLc (hc i) (hnd i) (hy i) (hyl i) (sw_true (hk i) (hyl i) hl ha) (h1 i) (ok i) (fun s H C cl fp => k1 (i, s, H, C, cl, fp)) (fun s H C cl fp => l1 (i, s, H, C, cl, fp)) (fun s H C cl fp => m1 (i, s, H, C, cl, fp)) (hs i), rs_asg (re_lc h2 k2 k3 l2 m2) rg_name⟩
/-- enumerate(list) -/
def enumD (i : Nat) : List D → List D
  | [] => []
  | d :: ds => .tup [.int (i : Nat), d] :: enumD (i + 1) ds
theorem enumD_get : ∀ {ds : List D} {k i : Nat} {d : D}, (enumD k ds)[i]? = some d → ∃ e, ds[i]? = some e ∧ d = .tup [.int ((k + i : Nat) : Int), e]
  | [], _, _, _, h => by cases h
  | e :: ds, k, 0, d, h => by
    cases h
    exact ⟨e, rfl, rfl⟩
  | e :: ds, k, i + 1, d, h => by
    obtain ⟨e', h1, h2⟩ := enumD_get (k := k + 1) (i := i) h
    exact ⟨e', h1, by rw [h2, Nat.add_right_comm, Nat.add_assoc]⟩
theorem enumD_len : ∀ (k : Nat) (ds : List D), (enumD k ds).length = ds.length
  | _, [] => rfl
  | k, d :: ds => by show (enumD (k + 1) ds).length + 1 = _; rw [enumD_len]; rfl
def en1 : List D → Option (List D)
  | [.lst ds] => some (enumD 0 ds)
  | _ => none
/-- a frozen argument -/
theorem lks_den {vs : List V} {rs : List Ref} (h : RefsOk w B σ vs rs) : ∀ {ds : List D}, datas rs = some ds → Dens w B vs ds := fun e => h.datas e
def siV (f : List D → Option (List D)) (sa : SA) : SI := fun g => (sa g).bind fun rs g1 => match datas rs with
  | some ds => match f ds with
    | some es => .ok es g1
    | none => .fail
  | none => .fail
theorem ri_enum {ta : TA} {sa : SA} (h : RA w W ta sa) : RI w W (iEnum w.K ta) (siV en1 sa) := fun π B Z g σ H R s q =>
  h π B Z g σ H _ s (Tail.bAI q fun rs g1 vs B1 H1 e1 s1 r1 q1 => by
    split at q1
    · rename_i ds hr
      have hd := r1.datas hr
      split at q1
      · rename_i es he
        unfold en1 at he
        split at he
        · rename_i ds
          cases he
          cases hd with
          | cons a t =>
            cases t
            cases a with
            | lst hb hx =>
              refine ⟨_, _, rfl, .inl (.inl (s1.sub.at hb rfl)), q1 _ B1 H1 (Ext.refl _) s1 ?_⟩
              refine walks_of walk_enum (by rw [enumD_len, hx.len]) (fun B2 H2 e2 s2 => .inl (.inl (s2.at (e2 _ _ hb) rfl))) fun B2 i d H2 x H3 e2 s2 q2 y => ?_
              obtain ⟨e, k1, rfl⟩ := enumD_get q2
              rw [Nat.zero_add]
              exact ypair (B := B1) (ds := fun i => some (.int (i : Nat))) (es := fun i => ds[i]?) (fun i d q => by cases q; exact ⟨_, rfl, .int _⟩) (fun i d q => hx.get q) B2 i _ e H2 x H3 e2 s2 rfl k1 y
        · cases he
      · exact q1.elim
    · exact q1.elim)
theorem di_enum {ι : Type} {XS : ι → Cx} {elts : List Expr} {kk : Nat} {tpos p pos : Pos} {e : Expr} {args : SA} (hm : ∀ i, (XS i).mg "enumerate" = none) (ha : DA XS w W [e] args) (hg : ∀ i, Gl (XS i) "enumerate" := by intro _; rfl) (hs : ∀ i, starEach [e] (XS i).env = [(false, eval e (XS i).env)] := by intro _; rfl) (hK : ∀ i, (XS i).K = w.K := by intro _; rfl) :
    DI XS w W (.Tuple elts kk tpos) (.Call (.Name "enumerate" p) [e] [] pos) (siV en1 args) := by
  obtain ⟨t, h1, h2⟩ := ha
  exact ⟨_, fun i => by rw [← hK i]; exact pi_enum (hg i) (hm i) (h1 i) (hs i), ri_enum h2⟩
/-- y[i] = v, y a name with a list of one's own -/
theorem ds_setL {ι : Type} {XS : ι → Cx} {ev ei : Expr} {y : Str} {pos pos' py : Pos} {sv si : SE} (k : Nat) (hv : DE XS w W ev sv) (hi : DE XS w W ei si) (hN : ∀ i, (XS i).N[k]? = some y := by intro _; rfl) (hvis : ∀ i, Vis (XS i).env.scope y := by intro _; first | exact Or.inl rfl | exact Or.inr (Or.inl rfl) | exact Or.inr (Or.inr rfl)) (hd : (y == ("__debug__" : Str)) = false := by decide) (hcd : (y == ("__classdict__" : Str)) = false := by decide)
    (ha : ∀ i v, assign (.Subscript (.Name y py) ei pos') (XS i).env v = (do
      let ov ← holding [v] (eval (.Name y py) (XS i).env)
      let iv ← holding [v, ov] (eval ei (XS i).env)
      standAt pos'
      holding [v, ov, iv] (setItem ov iv v)
      release [v, ov, iv] []) := by intro _ _; rfl)
    (hs : ∀ i, swapsWithSole [.Subscript (.Name y py) ei pos'] ev pos.line (XS i).env = pure false := by intro _; rfl) (hw : ∀ i, swappedStores [.Subscript (.Name y py) ei pos'] ev (XS i).env = pure none := by intro _; rfl) (h1 : ∀ i, (assignEach [.Subscript (.Name y py) ei pos'] (XS i).env).map (·.2) = [assign (.Subscript (.Name y py) ei pos') (XS i).env] := by intro _; rfl) :
    DS XS w W (.Assign [.Subscript (.Name y py) ei pos'] ev pos) (ssSetL k sv si) := by
  obtain ⟨t, k1, k2⟩ := hv
  obtain ⟨u, l1, l2⟩ := hi
  exact ⟨_, fun i => ps_asg (k1 i) (pg_sub (pe_var (hN i) (hvis i) hd hcd) (l1 i) set_list (ha i)) (hs i) (hw i) (h1 i), rs_setL k2 l2⟩
end
end M7
/-! Pieces at the library's level. -/
namespace R7
open PySem PySem.Spec PyProof.Rows L2
/-! ### a static method called off its class -/
structure SMet (K : PySem.W.Frag) (C : Addr) (mc : Value) (m : Str) (p g : Addr) : Prop where
  at_ : PySem.W.findCls K (.ref C) mc m = some (.get (.builtin "staticmethod.__get__") (.ref p) .none (.ref C))
  rc : ∃ rest, PySem.W.recIn K p "staticmethod" = some (.ref g :: rest)
  kp : PySem.W.keepIn K (.ref g) = true
/-- C.m(e, ..) -/
def tSMeth (C : Addr) (sp : Sp) (E : XK) (ta : TE) (t : TA) : TE := fun σ H Q => ta σ H fun x H1 => x = .ref C ∧ t σ H1 fun vs H2 => sp vs H2 Q E
section
variable {X : Cx} {CX : CXT} {k : Nat} {C p g : Addr} {mc : Value} {fd : FuncData} {ps : List Str} {sp : Sp} {E : XK} {o e : Expr} {es : List Expr} {m : Str} {pos apos : Pos} {ta : TE} {t : TA} {pl : Sem Bool}
theorem pe_smeth (he : PE X o ta) (r : ClX.CRead X.K C mc) (c : SMet X.K C mc m p g) (F : FnOk X.prog X.w X.K X.mg X.base CX k g fd ps sp) (hr : Room k X.A) (hb : Binds X.K fd ps []) (hx : Passes CX X E) (ha : PA X (e :: es) t)
    (hst : starEach (e :: es) X.env = (false, eval e X.env) :: starEach es X.env := by rfl) (hpl : (backTo pos (starEach es X.env)).any (·.1) = false := by rfl)
    (ht : eval (.Call (.Attribute o m apos) (e :: es) [] pos) X.env = (do
      let ov ← eval o X.env
      standAt apos.atName
      let (f, first) ← holding [ov] (getMethod ov m pl)
      callWith pos f first (backTo pos (starEach (e :: es) X.env)) (backToKw pos (keywordEach [] X.env))) := by rfl) :
    PE X (.Call (.Attribute o m apos) (e :: es) [] pos) (tSMeth C sp E ta t) := by
  constructor
  intro pins s σ H Q I h
  refine PySem.W.methodCall_KW (pl := pl) (thn (he.run pins s σ H _ I h) fun u s1 z => ?_) ht
  obtain ⟨x, H1, J, rx, ex, q⟩ := z
  subst ex
  obtain rfl : u = Value.ref C := rx
  obtain ⟨rest, hp⟩ := c.rc
  refine PySem.W.method_cls J.kIn r.ga ?_
  refine PySem.W.cls_bind J.kIn r.rd c.at_ (wpAny_call ?_)
  refine PySem.W.sm_get (s := { s1 with toks := s1.toks + 1 }) J.kIn hp (PySem.W.handed_on rfl ?_)
  have J2 : Inv X pins σ H1 { s1 with toks := s1.toks + 1 } := J.tok _
  refine PySem.W.callWith_K (first := []) (h₀ := X.base) I.ok.mod.kin c.kp ?_ hst hpl
  refine thn (ha.run pos pins _ σ H1 _ J2 q) fun us s3 z => ?_
  obtain ⟨vs, H3, J3, r3, q3⟩ := z
  exact ⟨J3.kIn, run_fn F hr hb .nil hx J3 r3 (by rw [List.append_nil]; exact q3)⟩
end
def gFld (K : PySem.W.Frag) (ta : TE) (f : Str) : TG := fun v σ H Q => ta σ H fun x H1 => ∃ a C dx fs, x = .ref a ∧ H1 a = some (.ins C dx fs) ∧ Cls K C ∧ NoAttr K C f ∧ fs.length < 1000 ∧ Q σ (upd H1 a (.ins C dx (putF f v fs)))
theorem pg_fld {X : Cx} {o : Expr} {ta : TE} {f : Str} {pos : Pos} (ha : PE X o ta) : PG X (.Attribute o f pos) (gFld X.K ta f) := by
  refine ⟨fun pins s σ H v u Q I r h => ?_⟩
  rw [arm_assign_Attribute]
  refine wpAny_bind (wpAny_holding (thn (ha.run pins s σ H _ I h) fun ov s1 ⟨x, H1, I1, rx, a, C, dx, fs, ex, ea, c, n, l, q⟩ => ?_))
  subst ex
  obtain rfl : ov = Value.ref a := rx
  refine wpAny_bind (wpAny_standAt (wpAny_bind (wpAny_holding (setattr_ok I1 ea c n l r fun s3 I3 => ?_))))
  exact wpAny_release ⟨σ, _, I3, q⟩
end R7
set_option maxHeartbeats 2000000
/-! defs `f(self, *rest, k = d, ..)`: a promise with keywords; a class called with keywords; `C.m(e, *y, k = v, ..)`. -/
namespace R7
open PySem PySem.Spec PyProof.Rows L2
/-! ### calls with a star and keywords -/
section
variable {M : Model} {A : Around} {E : Value → Shared → Prop} {s : Shared}
theorem ks_callKW {f : Value} {first : List Value} {pos : Pos} {Q : Value → Shared → Prop} {P : Heap → Prop} {args : List (Bool × Sem Value)} {kws : List (Option Str × Sem Value)} (hst : (args.any (·.1) || kws.any (·.1.isNone)) = true)
    (hk : ∀ h, P h → ∃ k, (k = Keeper.frame ∨ k = Keeper.machine ∨ k = Keeper.boundFrame) ∧ PySem.W.Looks M h (keeperOf f) k)
    (h : wpAny M A (evalArgs f true args kws) (fun a s₁ => P s₁.heap ∧ wpAny M A (call f (first ++ a.pos) a.kw) Q E s₁) E s) : wpAny M A (callWith pos f first args kws) Q E s := by
  unfold callWith
  refine wpAny_bind (wpAny_holding (wpAny_mono h (fun a s₁ h₁ => wpAny_bind (wpAny_standAt ?_)) fun _ _ x => x))
  obtain ⟨k, hk', L⟩ := hk _ h₁.1
  simp only [hst]
  refine wpAny_bind (L.here ?_)
  have tail : ∀ {t : Sem Value}, wpAny M A t Q E s₁ → wpAny M A (t >>= fun r => holding [r] point >>= fun _ => pure r) Q E s₁ :=
    fun ht => wpAny_bind (wpAny_mono ht (fun r s₂ hr => wpAny_bind (wpAny_holding (wpAny_point (wpAny_pure hr)))) fun _ _ x => x)
  have marked (mk : Value) : wpAny M A (callMarked mk f (first ++ a.pos) a.kw) Q E s₁ := by unfold callMarked; exact Calls.wpAny_keep h₁.2
  rcases hk' with rfl | rfl | rfl <;> dsimp only <;> first | exact tail (marked _) | exact tail (wpAny_operating h₁.2)
theorem starcallKW_of {env : Env} {o e1 e2 : Expr} {m : Str} {kws : List Keyword} {p apos pos : Pos} {Q : Value → Shared → Prop} (hbase : attributeBase o m env (eval o env) = eval o env)
    (hst : starEach [e1, .Starred e2 p] env = [(false, eval e1 env), (true, eval e2 env)])
    (h : wpAny M A (eval o env) (fun ov s₁ => wpAny M A (getAttr ov m true) (fun f s₂ => wpAny M A (callWith pos f [] (backTo pos [(false, eval e1 env), (true, eval e2 env)]) (backToKw pos (keywordEach kws env))) Q E s₂) E s₁) E s) :
    wpAny M A (eval (.Call (.Attribute o m apos) [e1, .Starred e2 p] kws pos) env) Q E s := by
  have hform : methodCallForm ([e1, Expr.Starred e2 p].length + kws.length) (backTo pos [(false, eval e1 env), (true, eval e2 env)]) (backToKw pos (keywordEach kws env)) = false := rfl
  have hpos : methodCallPos false o env apos pos = pure pos := rfl
  have hcal : ∀ ov, calleeOf false o env ov m = (getAttr ov m true >>= fun v => pure (v, [])) := fun _ => rfl
  rw [arm_eval_Call, hbase, hst]
  refine wpAny_bind (wpAny_mono h (fun ov s₁ h₁ => ?_) fun _ _ x => x)
  refine wpAny_bind (wpAny_standAt ?_)
  unfold methodCall
  rw [hform, hpos, hcal]
  refine wpAny_bind (wpAny_holding (wpAny_bind (wpAny_mono h₁ (fun f s₂ h₂ => wpAny_pure ?_) fun _ _ x => x)))
  exact wpAny_bind (wpAny_pure h₂)
end
/-! ### a promise with keywords -/
abbrev Sp2 : Type := List V → List V → Hp → VK → XK → Prop
def FnK (P : Program) (w : World) (K : PySem.W.Frag) (mg : Str → Option Value) (base : Heap) (CX : CXT) (k : Nat) (f : Addr) (ks : List Str) (sp : Sp2) : Prop :=
  ∀ (A : Around) (outer : List Env) (s : Shared) (H : Hp) (us ws : List Value) (vs zs : List V) (Q : VK) (E : XK), Room k A → Env0 P w K mg base A outer s H → Vals vs us → Vals zs ws → zs.length = ks.length → sp vs zs H Q E →
    codeAny (model P w) A (.call (.ref f) ⟨us, ks.zip ws⟩) (CR CX outer P w H s Q E) s
section
variable {P : Program} {w : World} {K : PySem.W.Frag} {mg : Str → Option Value} {base : Heap} {CX : CXT} {k : Nat} {f : Addr} {ks : List Str} {sp : Sp2}
theorem FnK.fnR (F : FnK P w K mg base CX k f [] sp) : FnR P w K mg base CX k f (fun vs H Q E => sp vs [] H Q E) :=
  fun A outer s H us vs Q E hr e0 r h => F A outer s H us [] vs [] Q E hr e0 r .nil rfl h
theorem FnR.fnK {sp : Sp} (F : FnR P w K mg base CX k f sp) : FnK P w K mg base CX k f [] (fun vs _ H Q E => sp vs H Q E) :=
  fun A outer s H us ws vs zs Q E hr e0 r _ _ h => by
    rw [List.zip_nil_left]
    exact F A outer s H us vs Q E hr e0 r h
end
/-! ### binding -/
/-- t looks names up in the dict at D, one behind another, and goes on as t' -/
def KwTo {α : Type} (D : Addr) : List (Str × Value) → Sem α → Sem α → Prop
  | [], t, t' => t = t'
  | q :: l, t, t' => ∃ (β γ : Type) (k1 : Option Value → Sem β) (k2 : β → Sem γ) (k3 : γ → Sem α) (a : β), t = ((nsGet D q.1 >>= k1) >>= k2) >>= k3 ∧ k1 (some q.2) = pure a ∧ KwTo D l (k2 a >>= k3) t'
theorem KwTo.run {α : Type} {K : PySem.W.Frag} {M : Model} {A : Around} {D : Addr} {E : Value → Shared → Prop} {Q : α → Shared → Prop} {s : Shared} (X : K.In s.heap) : ∀ {l : List (Str × Value)} {t t' : Sem α}, KwTo D l t t' →
    (∀ q ∈ l, PySem.W.nsIn K D q.1 = some (some q.2)) → wpAny M A t' Q E s → wpAny M A t Q E s
  | [], t, t', e, _, h => by
    obtain rfl : t = t' := e
    exact h
  | q :: l, t, t', e, hl, h => by
    obtain ⟨β, γ, k1, k2, k3, a, rfl, e2, e3⟩ := e
    have z := KwTo.run (M := M) (A := A) X e3 (fun p hp => hl p (List.mem_cons_of_mem _ hp)) h
    rw [bind_assoc, bind_assoc]
    refine wpAny_bind ((PySem.W.looks_nsIn X (hl q List.mem_cons_self)).here ?_)
    rw [e2, pure_bind]
    exact z
section
variable {P : Program} {w : World} {K : PySem.W.Frag} {mg : Str → Option Value} {base : Heap} {CX : CXT} {k : Nat} {f : Addr} {name qual : Str} {params : Arguments} {body : List Stmt} {scope : Scope} {dV kV doc pm cdv ct oc : Value} {an od : Option Addr}
  {osl : Array (Option Value)} {N opts ks : List Str} {sp : Sp} {p1 pv : Str} {g : List Value → List Value} {gV : List V → List V}
/-- def f(a, *v, k = d, ..), called with keywords ks -/
theorem fn_starK (lk : K.lookup f = some ⟨oc, od, .func (PySem.W.fnOf name qual params body scope dV kV doc pm an cdv ct), osl⟩) (hcd : PySem.W.codeIn K cdv qual = true) (S : FnScope N (p1 :: (opts ++ [pv])) scope) (hCX : StX.CXUp CX)
    (hrel : ∀ {zs : List V} {ws : List Value}, Vals zs ws → zs.length = ks.length → Vals (gV zs) (g ws)) (hlen : ∀ zs : List V, zs.length = ks.length → (gV zs).length = opts.length)
    (hb : ∀ (M : Model) (A : Around) (Q : List (Str × Value) → Shared → Prop) (Ex : Value → Shared → Prop) (s : Shared) (a : Value) (rest ws : List Value), K.In s.heap → ws.length = ks.length →
      wpAny M A (newTuple rest >>= fun t => pure ((p1 :: opts).zip (a :: g ws) ++ [(pv, t)])) Q Ex s → wpAny M A (bindArgs (PySem.W.fnOf name qual params body scope dV kV doc pm an cdv ct) ⟨a :: rest, ks.zip ws⟩) Q Ex s)
    (hbody : ∀ (A : Around) (outer : List Env) (s : Shared) (H : Hp) (vs : List V) (Q : VK) (E : XK), Room k (A.deeper (envOfC qual scope s.heap.objs.size f cdv)) → sp vs H Q E →
      ∃ t, PSs (cxOf CX P w K mg base N qual scope f cdv A outer s H E) body t ∧ t { nx := fun _ H' => Q .non H', rt := Q } (start N vs) H) :
    FnK P w K mg base CX (k + 1) f ks (fun vs zs H Q E => ∃ a rest, vs = a :: rest ∧ rest.length ≤ sizeLine ∧ ∀ p, H p = Option.none → sp (a :: (gV zs ++ [V.ref p])) (upd H p (.tup rest)) Q E) := by
  intro A outer s H us ws vs zs Q E hr e0 r rz lz hsp
  obtain ⟨a, rest, rfl, hz, hq⟩ := hsp
  obtain ⟨u, u2, rfl, ru, r2⟩ : ∃ u u2, us = u :: u2 ∧ RelV a u ∧ Vals rest u2 := by
    cases r with
    | cons h t => exact ⟨_, _, rfl, h, t⟩
  have hn : H s.heap.objs.size = Option.none := e0.hok.fresh (Nat.le_refl _)
  have hl2 : u2.length ≤ sizeLine := by rw [← r2.length]; exact hz
  have lw : ws.length = ks.length := rz.length.symm.trans lz
  have rg := hrel rz lz
  refine StX.run_bnd (ps := p1 :: (opts ++ [pv])) lk hcd S hr e0 (G := fun xs H2 => ∃ p, H p = Option.none ∧ xs = a :: (gV zs ++ [V.ref p]) ∧ H2 = upd H p (.tup rest)) (fun A' Ex Q' h => ?_) fun s2 H2 xs ⟨p, hp, ex, eH⟩ hr' => ?_
  · refine hb _ _ _ _ _ _ _ _ (e0.mod.kin.keeps fun b o e => (e0.bs b o e).1) lw ?_
    refine wpAny_bind (wpAny_newTuple (wpAny_pure ?_) hl2)
    have new : ObjOk P w (upd H s.heap.objs.size (.tup rest)) (s.heap.push ({ cls := .type "tuple", data := .seq u2.toArray } : Obj)) s.heap.objs.size (.tup rest) := ⟨hz, u2, r2, ⟨_, Heap.get?_push_size _ rfl, rfl, _, rfl⟩⟩
    have un := StX.un_laid (fs := frs outer) (s := s) (o := ({ cls := .type "tuple", data := .seq u2.toArray } : Obj)) (u := .tup rest) hn
    have z := h _ _ (a :: (gV zs ++ [V.ref s.heap.objs.size])) (u :: (g ws ++ [Value.ref s.heap.objs.size])) (StX.env0_laid e0 new) un rfl (fun e s' => hCX outer s H _ _ E e s' un (fun b o q => Heap.get?_push_of_some _ q) rfl) (.cons ru (rg.append (.cons rfl .nil)))
      (by rw [List.length_cons, List.length_cons, List.length_append, List.length_append, hlen zs lz] <;> rfl) ⟨_, hn, rfl, rfl⟩
    have hl1 : opts.length = (g ws).length := by rw [← rg.length, hlen zs lz]
    rw [List.zip_cons_cons, List.zip_append hl1] at z
    exact z
  · subst ex eH
    exact hbody A outer s2 _ _ Q E hr' (hq p hp)
end
/-- g puts the keywords' values in the parameters' order: binding needs the two cases (nothing left over; something) -/
theorem bind_starK {M : Model} {A : Around} {Q : List (Str × Value) → Shared → Prop} {Ex : Value → Shared → Prop} {s : Shared} {B : Value → List Value → Sem (List (Str × Value))} {G : Value → Value → List (Str × Value)}
    (h0 : ∀ a, B a [] = (newTuple [] >>= fun t => pure (G a t))) (h1 : ∀ a r rs, B a (r :: rs) = (newTuple (r :: rs) >>= fun t => pure (G a t))) (a : Value) (rest : List Value) (h : wpAny M A (newTuple rest >>= fun t => pure (G a t)) Q Ex s) : wpAny M A (B a rest) Q Ex s := by
  cases rest with
  | nil => rw [h0]; exact h
  | cons r rs => rw [h1]; exact h
/-! ### C(e, .., k = v, ..) and C.m(e, *y, k = v, ..) -/
def tMakeK (C : Addr) (sp : Sp2) (m : Nat) (E : L2.St → XK) (t tk : TA) : TE := fun σ H Q => t σ H fun vs H1 => tk σ H1 fun zs H2 => zs.length = m ∧
  ∀ x dx, H2 x = none → H2 dx = none → dx ≠ x → sp (.ref x :: vs) zs (upd (upd H2 dx (.own x)) x (.ins C dx [])) (fun v H3 => v = .non ∧ Q (.ref x) H3) (E σ)
def tClsS (K : PySem.W.Frag) (C : Addr) (sp : Sp2) (m : Nat) (E : L2.St → XK) (ta t1 t2 : TE) (tk : TA) : TE := fun σ H Q => ta σ H fun x H1 => x = .ref C ∧ t1 σ H1 fun y1 H2 => t2 σ H2 fun y2 H3 => ∃ b vs, y2 = .ref b ∧ (SqT K H3 b vs ∨ SqL K H3 b vs) ∧
  tk σ H3 fun zs H4 => zs.length = m ∧ sp (y1 :: vs) zs H4 Q (E σ)
section
variable {X : Cx} {CX : CXT} {k : Nat} {f g C : Addr} {ks : List Str} {sp : Sp2} {E : XK} {x m : Str} {mc : Value} {p apos pos : Pos} {o e e1 e2 : Expr} {es : List Expr} {kws : List Keyword} {ta t1 t2 : TE} {t tk : TA}
theorem run_fnK {pins : List (Addr × Obj)} {σ : L2.St} {H : Hp} {s : Shared} {Q : VK} {us ws : List Value} {vs zs : List V} (F : FnK X.prog X.w X.K X.mg X.base CX k f ks sp) (hr : Room k X.A) (hx : PassesAt CX X σ E) (I : Inv X pins σ H s) (r : Vals vs us) (rz : Vals zs ws) (l : zs.length = ks.length) (h : sp vs zs H Q E) :
    codeAny (model X.prog X.w) X.A (.call (.ref f) ⟨us, ks.zip ws⟩) (fun r s' => match r with | .ok (.ret v) => EP X pins σ Q v s' | .ok _ => False | .error e => X.xe e s') s := by
  refine codeAny_mono (F X.A X.stack s H us ws vs zs Q E hr I.env0 r rz l h) fun r s' hq => ?_
  cases r with
  | error e => exact hx pins H s e s' I hq
  | ok fl =>
    cases fl with
    | ret u => exact I.after hq
    | next => exact False.elim hq
    | brk => exact False.elim hq
    | cont => exact False.elim hq
theorem run_makeK {pins : List (Addr × Obj)} {σ : L2.St} {H : Hp} {s : Shared} {Q : VK} {us ws : List Value} {vs zs : List V} (M : Mk X.K C f) (F : FnK X.prog X.w X.K X.mg X.base CX k f ks sp) (hr : Room (k + 1) X.A)
    (hx : PassesAt CX X σ E) (I : Inv X pins σ H s) (r : Vals vs us) (rz : Vals zs ws) (l2 : zs.length = ks.length)
    (h : ∀ x dx, H x = none → H dx = none → dx ≠ x → sp (.ref x :: vs) zs (upd (upd H dx (.own x)) x (.ins C dx [])) (fun v H2 => v = .non ∧ Q (.ref x) H2) E) :
    wpAny (model X.prog X.w) X.A (call (.ref C) us (ks.zip ws)) (EP X pins σ Q) X.xe s := by
  have hq := h (s.heap.objs.size + 1) s.heap.objs.size (I.hok.fresh (Nat.le_succ _)) (I.hok.fresh (Nat.le_refl _)) (Nat.ne_of_lt (Nat.lt_succ_self _))
  have I2 := Inv.made (C := C) I
  have r1 : Vals (V.ref (s.heap.objs.size + 1) :: vs) (Value.ref (s.heap.objs.size + 1) :: us) := .cons rfl r
  refine wpAny_call (make_map (f := f) I.kIn M.makes M.init (beq_iff_eq.mp M.fn) (codeAny_mono (F _ X.stack _ _ (Value.ref (s.heap.objs.size + 1) :: us) ws _ zs _ E (hr.make C us (ks.zip ws))
    (I2.env0.make C us (ks.zip ws)) r1 rz l2 hq) fun r s' hq' => ?_))
  cases r with
  | error e => exact hx pins _ _ e s' I2 hq'
  | ok fl =>
    cases fl with
    | ret u =>
      obtain ⟨v, H', I3, rv, ev, q3⟩ := I2.after hq'
      subst ev
      exact ⟨rv, ⟨V.ref (s.heap.objs.size + 1), H', I3, rfl, q3⟩⟩
    | next => exact False.elim hq'
    | brk => exact False.elim hq'
    | cont => exact False.elim hq'
theorem pe_makeK (M : Mk X.K C f) (F : FnK X.prog X.w X.K X.mg X.base CX k f ks sp) (hr : Room (k + 1) X.A) (hg : Gl X x) (hm : X.mg x = some (.ref C)) {E : L2.St → XK} (hx : ∀ σ, PassesAt CX X σ (E σ))
    (ha : PA X (e :: es) t) (hkw : PK X kws tk) (hall : (backToKw pos (keywordEach kws X.env)).all (·.1.isSome) = true := by rfl) (hks : (backToKw pos (keywordEach kws X.env)).filterMap (·.1) = ks := by rfl)
    (hdb : (x == ("__debug__" : Str)) = false := by decide) (he : starEach (e :: es) X.env = (false, eval e X.env) :: starEach es X.env := by rfl)
    (hpl : ((backTo pos (starEach (e :: es) X.env)).any (·.1) || (backToKw pos (keywordEach kws X.env)).any (·.1.isNone)) = false := by rfl) :
    PE X (.Call (.Name x p) (e :: es) kws pos) (tMakeK C sp ks.length E t tk) := by
  refine ⟨fun pins s σ H Q I h => ?_⟩
  refine wpAny_Call_Name_kw (ld_glob I hg hm ?_ hdb)
  refine PySem.W.callWith_KW (h₀ := X.base) I.ok.mod.kin M.kp hall (thn (ha.run pos pins s σ H _ I h) fun us s1 ⟨vs, H1, I1, r, q⟩ => ?_) hpl he
  refine thn (hkw.run pos pins s1 σ H1 _ I1 q) fun ws s2 ⟨zs, H2, I2, rz, l2, q2⟩ => ⟨I2.kIn, ?_⟩
  rw [hks]
  exact run_makeK M F hr (hx σ) I2 r rz l2 q2
theorem pe_clsS (he : PE X o ta) (rd : ClX.CRead X.K C mc) (at_ : PySem.W.findCls X.K (.ref C) mc m = some (.val (.ref g))) (kg : PySem.W.keepIn X.K (.ref g) = true) (F : FnK X.prog X.w X.K X.mg X.base CX k g ks sp) (hr : Room k X.A)
    {E : L2.St → XK} (hx : ∀ σ, PassesAt CX X σ (E σ)) (h1 : PE X e1 t1) (h2 : PE X e2 t2) (hkw : PK X kws tk) (hall : (backToKw pos (keywordEach kws X.env)).all (·.1.isSome) = true := by rfl) (hks : (backToKw pos (keywordEach kws X.env)).filterMap (·.1) = ks := by rfl)
    (hbase : attributeBase o m X.env (eval o X.env) = eval o X.env := by rfl) (hst : starEach [e1, .Starred e2 p] X.env = [(false, eval e1 X.env), (true, eval e2 X.env)] := by rfl) :
    PE X (.Call (.Attribute o m apos) [e1, .Starred e2 p] kws pos) (tClsS X.K C sp ks.length E ta t1 t2 tk) := by
  refine ⟨fun pins s σ H Q I h => ?_⟩
  refine starcallKW_of hbase hst (thn (he.run pins s σ H _ I h) fun u s1 ⟨x, H1, I1, rx, ex, q⟩ => ?_)
  subst ex
  obtain rfl : u = Value.ref C := rx
  refine PySem.W.cls_value I1.kIn rd.rd at_ (handed_of (v := V.ref g) rfl) ?_
  have I1' := I1.tok (s1.toks + 1)
  refine ks_callKW (P := fun h => X.K.In h) rfl (PySem.W.keeps_K kg) ?_
  refine evalArgs_kw hall ?_
  refine Calls.spliced_cons (thn (h1.run pins _ σ _ _ I1' q) fun v1 s3 ⟨y1, H2, I3, ry1, q2⟩ =>
    PySem.W.ks_spliced (thn (h2.run pins s3 σ H2 _ I3 q2) fun v2 s4 ⟨y2, H3, I4, ry2, t, vs, ey, ht, q3⟩ => ?_))
  subst ey
  obtain rfl : v2 = Value.ref t := ry2
  refine StX.star_any I4 ht fun us s5 I5 rv => Calls.spliced_nil ?_
  refine thn (hkw.run pos pins s5 σ H3 _ I5 q3) fun ws s6 ⟨zs, H4, I6, rz, l, q4⟩ => ⟨I6.kIn, ?_⟩
  rw [hks]
  have := wpAny_call (run_fnK (us := v1 :: us) (vs := y1 :: vs) F hr (hx σ) I6 (.cons ry1 rv) rz l q4)
  simpa using this
end
end R7

set_option maxHeartbeats 2000000
/-! enumerate of a tuple -/
namespace PySem
open Sem (wp)
open AutoSeq1 (wpAny_loadPart')
theorem meets_enumerate_newT (l : Addr) (items : Array Value) (n : Nat) (dct : Option Addr) (sl : Array (Option Value)) :
    Meets (Builtin.«enumerate.__new__» ⟨[.type "enumerate", .ref l], []⟩) (fun _ R s => s.heap.get? l = some { cls := .type "tuple", dict := dct, data := .seq items n, slots := sl } ∧
      R (.ok (.ret (.ref (s.heap.push { cls := .type "tuple_iterator", data := .fields #[.ref l, .int 0 0] }).objs.size)))
        { s with heap := (s.heap.push { cls := .type "tuple_iterator", data := .fields #[.ref l, .int 0 0] }).push { cls := .type "enumerate", data := .fields #[.none, .bool false, .ref s.heap.objs.size, rawInt 0, .none, .none] } }) :=
  .of_wp fun prog w A R s h => by
    obtain ⟨hp, g, d, tk, os⟩ := s; obtain ⟨hl, h⟩ := h
    have hsub := sub_enumerate
    have hL : Heap.IsTuple (Shared.heap ⟨hp, g, d, tk, os⟩) l items := ⟨_, hl, rfl, n, rfl⟩
    wp_walk using wpAny_loadPart' hl
    refine wpAny_stack_any fun st => wpAny_pure ?_
    split
    · rename_i c _ _ _ _ _
      cases (c == Value.type "enumerate")
      · wp_walk using wpAny_loadPart' hl, wpAny_pyIter_tuple hL
        exact ⟨_, rfl, h⟩
      · wp_walk using wpAny_loadPart' hl, wpAny_pyIter_tuple hL
        exact ⟨_, rfl, h⟩
    · wp_walk using wpAny_loadPart' hl, wpAny_pyIter_tuple hL
      exact ⟨_, rfl, h⟩
theorem call_enumerate_tuple {prog : Program} {w : World} {A : Around} {E : Value → Shared → Prop} {s : Shared} {l : Addr} {items : Array Value} {Q : Value → Shared → Prop} (hL : s.heap.IsTuple l items)
    (h : ∀ h', IsEnum h' (s.heap.objs.size + 1) s.heap.objs.size 0 .none → h'.IsTupleIter s.heap.objs.size l 0 → h'.objs.size = s.heap.objs.size + 2 →
      (∀ b o, s.heap.get? b = some o → h'.get? b = some o) → Q (.ref (s.heap.objs.size + 1)) { s with heap := h' }) :
    wpAny (model prog w) A (call (.type "enumerate") [.ref l]) Q E s := by
  obtain ⟨⟨c, dct, dt, sl⟩, hl, hc, n, hd⟩ := hL
  replace hc : c = .type "tuple" := hc
  replace hd : dt = .seq items n := hd
  subst hc hd
  refine callType_new F.called_enumerate (by decide) (F.typeCall_enumerate_1 _) (F.newCall_enumerate_1 _) (fun obj => F.args_object_init_2 obj _) F.entry_enumerate_new
    (meets_enumerate_newT l items n dct sl) ⟨hl, ?_⟩
  have hz : (s.heap.push { cls := .type "tuple_iterator", data := .fields #[.ref l, .int 0 0] }).objs.size = s.heap.objs.size + 1 := Heap.size_push ..
  show _ ∧ _
  rw [hz]
  have he : IsEnum ((s.heap.push { cls := .type "tuple_iterator", data := .fields #[.ref l, .int 0 0] }).push
      { cls := .type "enumerate", data := .fields #[.none, .bool false, .ref s.heap.objs.size, rawInt 0, .none, .none] }) (s.heap.objs.size + 1) s.heap.objs.size 0 .none := by
    have := Heap.get?_push_size (s.heap.push { cls := .type "tuple_iterator", data := .fields #[.ref l, .int 0 0] })
      (o := { cls := .type "enumerate", data := .fields #[.none, .bool false, .ref s.heap.objs.size, rawInt 0, .none, .none] }) rfl
    rw [hz] at this; exact this
  refine ⟨⟨_, he, rfl⟩, h _ he ⟨_, Heap.get?_push_of_some _ (Heap.get?_push_size _ rfl), rfl, rfl⟩ (by rw [Heap.size_push, hz]) fun b o x => Heap.get?_push_of_some _ (Heap.get?_push_of_some _ x)⟩
end PySem
namespace R7
open PySem PySem.Spec PyProof.Rows L2
def Iet (K : PySem.W.Frag) (a : Addr) : It :=
  ⟨fun i H => ∃ (xs : List V) (x : V), SqT K H a xs ∧ xs[i]? = some x, fun i H v H' => ∃ T x, v = .ref T ∧ H T = none ∧ H' = upd H T (.tup [.int (i : Nat), x]) ∧ ∀ xs, SqT K H a xs → xs[i]? = some x, fun i H => ∃ xs : List V, SqT K H a xs ∧ xs.length ≤ i⟩
theorem apart_of {h : Heap} {a b : Addr} {o u : Obj} (e : h.get? a = some o) (e' : h.get? b = some u) (n : o.cls ≠ u.cls) : a ≠ b := fun z => by
  subst z
  rw [e] at e'
  injection e' with e'
  exact n (by rw [e'])
theorem turn_enumT {P : Program} {w : World} {K : PySem.W.Frag} {elts : List Expr} {kk : Nat} {tpos : Pos} (a e it : Addr) :
    Turn P w K (.Tuple elts kk tpos) (Iet K a) [e, it] e (fun i h => (∃ old, IsEnum h e it ((i : Nat) : Int) old) ∧ h.IsTupleIter it a i ∧ e ≠ it) where
  mem := by simp
  obj := fun i h st b hb => by
    obtain ⟨⟨old, he⟩, ⟨o, ho, hc, hd⟩, _⟩ := st
    have e' : b = e ∨ b = it := by simpa using hb
    rcases e' with z | z
    · rw [z]; exact ⟨_, he, fun v q => nomatch q⟩
    · rw [z]; exact ⟨o, ho, fun v q => by rw [hd] at q; cases q⟩
  keep := fun i h h' st k => let ⟨⟨old, he⟩, hi, hne⟩ := st; ⟨⟨old, k e (by simp) _ he⟩, hi.at fun o q => k it (by simp) o q, hne⟩
  item := by
    intro X hP hw hK hc i pins s σ H E I hf st hg
    subst hP hw hK
    obtain ⟨⟨old, he⟩, hit, hne⟩ := st
    obtain ⟨xs, x, hq, hx⟩ := hg
    obtain ⟨its, rv, p, hz⟩ := I.tuple hq
    obtain ⟨u, hu, ru⟩ := rv.get hx
    have hel : e < s.heap.objs.size := Heap.lt_size he
    have hil : it < s.heap.objs.size := by obtain ⟨_, q, _⟩ := hit; exact Heap.lt_size q
    obtain ⟨ot, hot, hct, nt, hdt⟩ := p
    obtain ⟨oi, hoi, hci, hdi⟩ := id hit
    have nai : a ≠ it := apart_of hot hoi (by rw [hct, hci]; intro z; injection z with z; exact absurd z (by decide))
    have nae : a ≠ e := apart_of hot he (by rw [hct]; intro z; injection z with z; exact absurd z (by decide))
    have hi : i < its.toArray.size := by
      rw [List.size_toArray]
      exact (List.getElem?_eq_some_iff.mp hu).1
    refine wpAny_pyNext_enum_itemD (Draws.tuple (by show X.A.in1.handled = none; exact I.ok.hd hc) it a nai its.toArray) he ⟨hit, ⟨ot, hot, hct, nt, hdt⟩⟩ hi hne (by simp [Ne.symm nae, hne]) fun x' h' tk hx' ho hst' hT hsz hk => ?_
    obtain rfl : u = x' := by
      have : its[i]? = some x' := by simpa using hx'
      rw [hu] at this
      exact Option.some.inj this
    obtain ⟨hit', _⟩ := hst'
    refine ⟨_, rfl, wpAny_letOwnedTupleGo_enum (s := { s with heap := h', toks := tk + 1 }) ho fun h'' he' sb => ?_⟩
    have hT2 : h''.get? s.heap.objs.size = some { cls := .type "tuple", data := .seq #[.int i tk, u] } := (sb.2 _ (Nat.ne_of_gt hel)).trans hT
    have new : ObjOk X.prog X.w (upd H s.heap.objs.size (.tup [.int (i : Nat), x])) h'' s.heap.objs.size (.tup [.int (i : Nat), x]) :=
      ⟨by show 2 ≤ sizeLine; decide, [.int i tk, u], .cons ⟨_, rfl⟩ (.cons ru .nil), ⟨_, hT2, rfl, _, rfl⟩⟩
    have I1 : Inv X pins σ (upd H s.heap.objs.size (.tup [.int (i : Nat), x])) { s with heap := h'', toks := tk + 1 } :=
      I.turnedNew (ch := [e, it]) (fun b ob hb q => (sb.2 b (fun z => hb (by simp [z]))).trans (hk b ob (fun z => hb (by simp [z])) (fun z => hb (by simp [z])) q)) hf (Nat.le_refl _) new
    refine ⟨.ref s.heap.objs.size, _, I1, rfl, ⟨_, x, rfl, I.hok.fresh (Nat.le_refl _), rfl, fun ys hy => by rw [I.tuple_inj hy hq]; exact hx⟩, ⟨⟨u, ?_⟩, hit'.at fun o q => (sb.2 it (Ne.symm hne)).trans q, hne⟩, fun b hb => ?_⟩
    · have e1 : ((i + 1 : Nat) : Int) = (i : Int) + 1 := by omega
      rw [e1]; exact he'
    · have hb' : b < s.heap.objs.size := by
        have e' : b = e ∨ b = it := by simpa using hb
        rcases e' with z | z
        · rw [z]; exact hel
        · rw [z]; exact hil
      rw [upd_ne (Nat.ne_of_lt hb')]
      exact (hf b hb).1
  done := by
    intro X hP hw hK hc i pins s σ H E I hf st hg
    subst hP hw hK
    obtain ⟨⟨old, he⟩, hit, hne⟩ := st
    obtain ⟨xs, hq, hx⟩ := hg
    obtain ⟨its, rv, p, hz⟩ := I.tuple hq
    obtain ⟨f0, f1, f2, f3, f4, f5⟩ := hf it (by simp)
    have hl := rv.length
    have hT : s.TypeIs (.ref e) "enumerate" := ⟨_, he, rfl⟩
    unfold pyNext
    refine wpAny_bind (wpAny_attempt (wpAny_callSpecial?_slot (name := Str.ofString "__next__") hT F.slot_enumerate_next
      (wpAny_call_entry F.slot_enumerate_next hT F.entry_enumerate_next ?_ (F.args_enumerate_next_1 _))))
    show wpAny _ _ (field (.ref e) 2 >>= _) _ _ _
    refine wpAny_bind (wpAny_field he rfl (x := .ref it) rfl ?_)
    refine wpAny_bind (wpAny_nextOf_tuple_end (i := i) (I.ok.hd hc) hit p (by simp; omega) fun h' x he' hx' => ?_)
    obtain ⟨o, ho, hc'⟩ := hx'
    refine wpAny_bind (wpAny_isInstance (T := "StopIteration") (b := true) ⟨o, ho, hc'⟩ isSubtype_stop ?_)
    exact wpAny_pure ⟨rfl, I.turned (t' := s.toks) (fun b o hb q => he' b o hb q) f0 f1 f3 f4 f5⟩
  self := fun A i s Q E st h => let ⟨⟨_, he⟩, _⟩ := st; wpAny_pyIter_enum he h
def iEnumT (K : PySem.W.Frag) (ta : TA) : TI := fun σ H R => ta σ H fun vs H1 => ∃ a xs, vs = [.ref a] ∧ SqT K H1 a xs ∧ R (Iet K a) H1
theorem pi_enumT {X : Cx} {e : Expr} {ta : TA} {p pos tpos : Pos} {elts : List Expr} {kk : Nat} (hg : Gl X "enumerate") (hm : X.mg "enumerate" = none) (ha : PA X [e] ta) (hs : starEach [e] X.env = [(false, eval e X.env)] := by rfl) :
    PI X (.Tuple elts kk tpos) (.Call (.Name "enumerate" p) [e] [] pos) (iEnumT X.K ta) := by
  refine ⟨fun pins s σ H R I h => ?_⟩
  refine Call_ (ld_blt I hg hm boot_enumerate (PyProof.Rows.callWith_type1 (thn (ha.run pos pins s σ H _ I h) fun us s1 ⟨vs, H1, I1, r1, q1⟩ => ?_) hs rfl))
  obtain ⟨a, xs, ex, hq, q⟩ := q1
  subst ex
  cases r1 with
  | cons r rr =>
    cases rr
    cases r
    obtain ⟨its, rv, p', hz⟩ := I1.tuple hq
    refine call_enumerate_tuple p' fun h' he hit hsz hk => wpAny_pyIter_enum he ?_
    have I2 : Inv X pins σ H1 { s1 with heap := h' } := I1.kept (t' := s1.toks) hk
    refine ⟨s1.heap.objs.size + 1, [s1.heap.objs.size + 1, s1.heap.objs.size], _, _, H1, rfl, I2, turn_enumT a (s1.heap.objs.size + 1) s1.heap.objs.size, ⟨⟨.none, he⟩, hit, Nat.succ_ne_self _⟩, fun b hb => ?_, q⟩
    have e' : b = s1.heap.objs.size + 1 ∨ b = s1.heap.objs.size := by simpa using hb
    have hle : s1.heap.objs.size ≤ b := by
      rcases e' with z | z
      · rw [z]; exact Nat.le_add_right _ _
      · rw [z]; exact Nat.le_refl _
    exact I1.fpOk hle (I1.hok.fresh hle)
theorem walk_enumT {K : PySem.W.Frag} {a : Addr} {xs : List V} : Walk (Iet K a) xs.length (fun H => SqT K H a xs) (YPair (fun i => some (.int (i : Nat))) (fun i => xs[i]?)) := by
  refine ⟨fun i _ hi q => ⟨xs, xs[i], q, by simp [hi]⟩, fun _ q => ⟨xs, q, Nat.le_refl _⟩, fun i H v H' _ q y => ?_⟩
  obtain ⟨T, x, h1, h2, h3, h4⟩ := y
  exact ⟨T, .int (i : Nat), x, h1, h2, h3, rfl, h4 xs q⟩
end R7
/-! Instances, their fields; raising; isinstance; constants and static methods of a class. -/
namespace M7
open PySem PySem.Spec PyProof.Rows L2
def putFD (f : Str) (v : D) : List (Str × D) → List (Str × D)
  | [] => [(f, v)]
  | (g, x) :: r => if g = f then (g, v) :: r else (g, x) :: putFD f v r
section
variable {w : WD} {W : WX} {π : Nat → V} {B B' B1 Z : Hp} {g : G} {σ : L2.St} {H H' : Hp} {v : V}
theorem lk_obj {c : CN} {fs : List (Str × D)} (s : Sub B H) (h : Lk w B H v (.obj c fs)) : ∃ (a dx : Addr) (ns : List Str) (vs : List V) (ds : List D), v = .ref a ∧ H a = some (.ins (w.cls c) dx (ns.zip vs)) ∧ ns.length = vs.length ∧ Dens w B vs ds ∧ fs = ns.zip ds := by
  cases h with
  | den h =>
    cases h with
    | obj e l r => exact ⟨_, _, _, _, _, rfl, s.at e rfl, l, r, rfl⟩
  | own _ h =>
    cases h with
    | obj e l r => exact ⟨_, _, _, _, _, rfl, e, l, r, rfl⟩
theorem zip_lookup {f : Str} {d : D} : ∀ {ns : List Str} {vs : List V} {ds : List D}, ns.length = vs.length → Dens w B vs ds → (ns.zip ds).lookup f = some d → ∃ v, (ns.zip vs).lookup f = some v ∧ Den w B v d
  | [], _, _, _, _, e => by cases e
  | n :: ns, [], _, l, _, _ => by cases l
  | n :: ns, v :: vs, _, l, .cons r t, e => by
    simp only [List.zip_cons_cons, List.lookup] at e ⊢
    split at e
    · cases e
      exact ⟨v, rfl, r⟩
    · exact zip_lookup (by simpa using l) t e
theorem zip_lookup_none {f : Str} : ∀ {ns : List Str} {vs : List V} {ds : List D}, ns.length = vs.length → Dens w B vs ds → (ns.zip ds).lookup f = none → (ns.zip vs).lookup f = none
  | [], _, _, _, _, _ => rfl
  | n :: ns, [], _, l, _, _ => by cases l
  | n :: ns, v :: vs, _, l, .cons r t, e => by
    simp only [List.zip_cons_cons, List.lookup] at e ⊢
    split at e
    · cases e
    · exact zip_lookup_none (by simpa using l) t e
theorem zip_putF {f : Str} {v : V} {d : D} (hv : Den w B v d) : ∀ {ns : List Str} {vs : List V} {ds : List D}, ns.length = vs.length → Dens w B vs ds → ∃ (ns' : List Str) (vs' : List V) (ds' : List D), putF f v (ns.zip vs) = ns'.zip vs' ∧ putFD f d (ns.zip ds) = ns'.zip ds' ∧ ns'.length = vs'.length ∧ Dens w B vs' ds'
  | [], _, _, l, .nil => ⟨[f], [v], [d], rfl, rfl, rfl, .cons hv .nil⟩
  | [], _, _, l, .cons _ _ => by cases l
  | n :: ns, [], _, l, _ => by cases l
  | n :: ns, u :: vs, _, l, .cons (d := e) (ds := ds) r t => by
    by_cases h : n = f
    · refine ⟨n :: ns, v :: vs, d :: ds, ?_, ?_, l, .cons hv t⟩
      · show (if n = f then (n, v) :: ns.zip vs else (n, u) :: putF f v (ns.zip vs)) = _
        rw [if_pos h]
        rfl
      · show (if n = f then (n, d) :: ns.zip ds else (n, e) :: putFD f d (ns.zip ds)) = _
        rw [if_pos h]
        rfl
    · obtain ⟨ns', vs', ds', h1, h2, h3, h4⟩ := zip_putF (f := f) hv (ns := ns) (by simpa using l) t
      refine ⟨n :: ns', u :: vs', e :: ds', ?_, ?_, by simpa using h3, .cons r h4⟩
      · show (if n = f then (n, v) :: ns.zip vs else (n, u) :: putF f v (ns.zip vs)) = _
        rw [if_neg h, h1]
        rfl
      · show (if n = f then (n, d) :: ns.zip ds else (n, e) :: putFD f d (ns.zip ds)) = _
        rw [if_neg h, h2]
        rfl
/-- the classes cs have no attribute f of their own -/
def NoA (w : WD) (cs : CN → Bool) (f : Str) : Prop := ∀ c, cs c = true → Cls w.K (w.cls c) ∧ NoAttr w.K (w.cls c) f
def fieldD (cs : CN → Bool) (f : Str) : D → Option D
  | .obj c fs => if cs c = true then fs.lookup f else none
  | _ => none
def seFld (cs : CN → Bool) (f : Str) (sb : SB) : SE := fun g => (sb g).bind fun r g1 => match (r.get g1).bind (fieldD cs f) with
  | some d => .ok (false, d) g1
  | none => .fail
theorem re_fld {cs : CN → Bool} {f : Str} {ta : TE} {sb : SB} (hn : NoA w cs f) (h : RB w W ta sb) : RE w W (tFld w.K ta f) (seFld cs f sb) := fun π B Z g σ H Q s q =>
  h π B Z g σ H _ s (tailE.bB q fun r g1 v B1 H1 e1 s1 r1 q1 => by
    split at q1
    · rename_i d hd
      cases hr : r.get g1 with
      | none => rw [hr] at hd; cases hd
      | some o =>
        rw [hr] at hd
        have hd : fieldD cs f o = some d := hd
        cases o with
        | obj c fs =>
          have hd : (if cs c = true then fs.lookup f else none) = some d := hd
          split at hd
          · rename_i hc
            obtain ⟨a, dx, ns, vs, ds, rfl, ha, hl, hx, rfl⟩ := lk_obj s1.sub (s1.lk r1 hr)
            obtain ⟨v, hv, dv⟩ := zip_lookup hl hx hd
            exact ⟨a, w.cls c, dx, _, v, rfl, ha, (hn c hc).1, (hn c hc).2, hv, q1 v B1 H1 (Ext.refl _) s1 dv⟩
          · cases hd
        | _ => cases hd
    · exact q1.elim)
theorem de_fld {ι : Type} {XS : ι → Cx} {cs : CN → Bool} {f : Str} {e : Expr} {pos : Pos} {sb : SB} (hn : NoA w cs f) (h : DB XS w W e sb) (hb : ∀ i, attributeBase e f (XS i).env (eval e (XS i).env) = eval e (XS i).env := by intro _; rfl) (hK : ∀ i, (XS i).K = w.K := by intro _; rfl) : DE XS w W (.Attribute e f pos) (seFld cs f sb) := by
  obtain ⟨t, h1, h2⟩ := h
  refine ⟨_, fun i => ?_, re_fld hn h2⟩
  have z := pe_fld (f := f) (pos := pos) (h1 i) (hb i)
  rw [hK i] at z
  exact z
/-- name.f = e, the name an instance of one's own -/
def ssSetF (cs : CN → Bool) (k : Nat) (f : Str) (se : SE) : SS := fun g => ofO (se g) fun r g1 => match ownAt g1 k with
  | some (c, .obj cn fs) => if cs cn = true ∧ fs.length < 1000 then .nx (g1.set k (some (c, .obj cn (putFD f r.2 fs)))) else .fail
  | _ => .fail
theorem rs_setF {cs : CN → Bool} {k : Nat} {f : Str} {tv : TE} {se : SE} (hn : NoA w cs f) (h : RE w W tv se) : RS w W (sFld w.K (tVar k) tv f) (ssSetF cs k f se) := fun π B Z g σ H D s q =>
  h π B Z g σ H _ s (postS_E q fun o d g1 v B1 H1 e1 s1 r q1 => by
    obtain ⟨B2, e2, s2, hd⟩ := r.freeze s1
    split at q1
    · rename_i c cn fs e0
      split at q1
      · rename_i hc
        obtain ⟨e0, o0⟩ := ownAt_some e0
        obtain ⟨a, h1, h2, h3, h4⟩ := s2.ow k c _ e0 o0
        obtain ⟨a', dx, ns, vs, ds, z, ha, hl, hx, rfl⟩ := lk_obj s2.sub (.own h2 h4)
        cases z
        obtain ⟨ns', vs', ds', k1, k2, k3, k4⟩ := zip_putF (f := f) hd hl hx
        have hlen : (ns.zip vs).length < 1000 := by
          have := hc.2
          rw [List.length_zip] at this ⊢
          rw [hx.len]
          exact this
        refine ⟨.ref a, h1, a, w.cls cn, dx, _, rfl, ha, (hn cn hc.1).1, (hn cn hc.1).2, hlen, ?_⟩
        rw [k1]
        refine q1 B2 _ σ e2 (s2.write e0 o0 h1 ?_)
        simp only
        rw [k2]
        exact .obj upd_same k3 k4
      · exact q1.elim
    · exact q1.elim)
theorem ds_setF {ι : Type} {XS : ι → Cx} {cs : CN → Bool} {f y : Str} {ev : Expr} {pos pos' py : Pos} {se : SE} (k : Nat) (hn : NoA w cs f) (h : DE XS w W ev se) (hN : ∀ i, (XS i).N[k]? = some y := by intro _; rfl) (hv : ∀ i, Vis (XS i).env.scope y := by intro _; first | exact Or.inl rfl | exact Or.inr (Or.inl rfl) | exact Or.inr (Or.inr rfl)) (hd : (y == ("__debug__" : Str)) = false := by decide) (hcd : (y == ("__classdict__" : Str)) = false := by decide)
    (hs : ∀ i, swapsWith ev (some (.Attribute (.Name y py) f pos')) pos.line (XS i).env = pure false := by intro _; rfl) (hK : ∀ i, (XS i).K = w.K := by intro _; rfl) : DS XS w W (.Assign [.Attribute (.Name y py) f pos'] ev pos) (ssSetF cs k f se) := by
  obtain ⟨t, h1, h2⟩ := h
  refine ⟨_, fun i => ?_, rs_setF hn h2⟩
  have z := ps_fld (f := f) (pos := pos) (pos' := pos') (pe_var (pos := py) (hN i) (hv i) hd hcd) (h1 i) (hs i)
  rw [hK i] at z
  exact z
/-- .. as a target -/
def sgFld (cs : CN → Bool) (k : Nat) (f : Str) : SG := fun r g => match ownAt g k with
  | some (c, .obj cn fs) => if cs cn = true ∧ fs.length < 1000 then some (g.set k (some (c, .obj cn (putFD f r.2 fs)))) else none
  | _ => none
theorem rg_fld {cs : CN → Bool} {k : Nat} {f : Str} (hn : NoA w cs f) : RG w (R7.gFld w.K (tVar k) f) (sgFld cs k f) := fun π B Z g σ H v o d Q s r q => by
  obtain ⟨B2, e2, s2, hd⟩ := r.freeze s
  unfold sgFld at q
  split at q
  · rename_i c cn fs e0
    split at q
    · rename_i hc
      obtain ⟨e0, o0⟩ := ownAt_some e0
      obtain ⟨a, h1, h2, h3, h4⟩ := s2.ow k c _ e0 o0
      obtain ⟨a', dx, ns, vs, ds, z, ha, hl, hx, rfl⟩ := lk_obj s2.sub (.own h2 h4)
      cases z
      obtain ⟨ns', vs', ds', k1, k2, k3, k4⟩ := zip_putF (f := f) hd hl hx
      have hlen : (ns.zip vs).length < 1000 := by
        have := hc.2
        rw [List.length_zip] at this ⊢
        rw [hx.len]
        exact this
      refine ⟨.ref a, h1, a, w.cls cn, dx, _, rfl, ha, (hn cn hc.1).1, (hn cn hc.1).2, hlen, ?_⟩
      rw [k1]
      refine q B2 _ σ e2 (s2.write e0 o0 h1 ?_)
      simp only
      rw [k2]
      exact .obj upd_same k3 k4
    · exact q.elim
  · exact q.elim
theorem wipes_fld {K : PySem.W.Frag} {k : Nat} {f : Str} {vs : List Nat} : Wipes (R7.gFld K (tVar k) f) vs := fun v σ σ0 H Q e q => by
  obtain ⟨x, hx, a, C, dx, fs, h1, h2, h3, h4, h5, q⟩ := q
  exact ⟨x, hx, a, C, dx, fs, h1, h2, h3, h4, h5, e, q e⟩
theorem wipes_consF {K : PySem.W.Frag} {k : Nat} {f : Str} {b : TGs} {vs : List Nat} (t : WipesS b vs) : WipesS (gCons (R7.gFld K (tVar k) f) b) vs := fun v σ σ0 H Q e q => by
  obtain ⟨x, r, rfl, y, hy, a, C, dx, fs, h1, h2, h3, h4, h5, q⟩ := q
  exact ⟨x, r, rfl, y, hy, a, C, dx, fs, h1, h2, h3, h4, h5, t r σ σ0 _ Q e q⟩
theorem dgs_consF {ι : Type} {XS : ι → Cx} {vs : List Nat} {sg : SGs} {cs : CN → Bool} {y f : Str} {py pos : Pos} {es : List Expr} (k : Nat) (hn : NoA w cs f) (t : DGs XS w vs es sg) (hN : ∀ i, (XS i).N[k]? = some y := by intro _; rfl) (hv : ∀ i, Vis (XS i).env.scope y := by intro _; first | exact Or.inl rfl | exact Or.inr (Or.inl rfl) | exact Or.inr (Or.inr rfl)) (hd : (y == ("__debug__" : Str)) = false := by decide) (hcd : (y == ("__classdict__" : Str)) = false := by decide)
    (hs : ∀ i, (assignEach (.Attribute (.Name y py) f pos :: es) (XS i).env).map (·.2) = assign (.Attribute (.Name y py) f pos) (XS i).env :: (assignEach es (XS i).env).map (·.2) := by intro _; rfl) (hl : ∀ i, (assignEach (.Attribute (.Name y py) f pos :: es) (XS i).env).length = (assignEach es (XS i).env).length + 1 := by intro _; rfl) (hK : ∀ i, (XS i).K = w.K := by intro _; rfl) :
    DGs XS w vs (.Attribute (.Name y py) f pos :: es) (sgCons (sgFld cs k f) sg) := by
  obtain ⟨u, k1, k2, k3, k4⟩ := t
  refine ⟨gCons (R7.gFld w.K (tVar k) f) u, fun i => ?_, rg_cons (rg_fld hn) k2, wipes_consF k3, fun i => by rw [hl i, k4 i]; rfl⟩
  have z := pgs_cons (R7.pg_fld (f := f) (pos := pos) (pe_var (X := XS i) (pos := py) (hN i) (hv i) hd hcd)) (k1 i) (hs i)
  rw [hK i] at z
  exact z
/-! ### raising -/
def ssRaise (x : XN) (se : SE) : SS := fun g => ofO (se g) fun _ g1 => .ex x none g1
/-- an exception class without __init__, by its name -/
structure Exn (w : WD) (mg : Str → Option Value) (y : Str) (x : XN) : Prop where
  ex : ∃ bm, PySem.W.excIn w.K (w.exc x) bm "ValueError.__new__" = true
  at_ : mg y = some (.ref (w.exc x))
  kp : PySem.W.keepIn w.K (.ref (w.exc x)) = true
  rs : PySem.W.subIn w.K (.ref (w.exc x)) (.type "BaseException") = some true ∧ PySem.W.typeIn w.K (.ref (w.exc x)) = some (.type "type")
  has : w.has x
theorem rs_raise {x : XN} {ta : TE} {se : SE} (hx : w.has x) (h : RE w W ta se) : RS w W (fun _ σ H => (fun σ H (Q : XK) => ta σ H fun _ H1 => Q (.ref (w.exc x)) none H1) σ H fun cls d H' => W cls d σ H') (ssRaise x se) := fun π B Z g σ H D s q =>
  h π B Z g σ H _ s (postS_E q fun o d g1 v B1 H1 e1 s1 r q1 => q1 hx none B1 H1 σ (Ext.refl _) s1 rfl)
/-! ### constants of a class, static methods -/
theorem re_cval {c : CN} {mc : Value} {f : Str} {v : V} {u : Value} {d : D} (rd : ClX.CRead w.K (w.cls c) mc) (k : ClX.CVal w.K (w.cls c) mc f v u) (hd : ∀ B, Den w B v d) : RE w W (ClX.tCVal w.K (tC (.ref (w.cls c))) f) (seC d) := fun π B Z g σ H Q s q =>
  ⟨w.cls c, mc, v, u, rfl, rd, k, q v B H (Ext.refl _) s (hd B)⟩
/-- a class's constant, read off it by name -/
structure CVl (w : WD) (mg : Str → Option Value) (x : Str) (c : CN) (f : Str) (d : D) : Prop where
  ex : ∃ (mc : Value) (v : V) (u : Value), mg x = some (.ref (w.cls c)) ∧ ClX.CRead w.K (w.cls c) mc ∧ ClX.CVal w.K (w.cls c) mc f v u ∧ ∀ B, Den w B v d
theorem de_cval {ι : Type} {XS : ι → Cx} {mg : Str → Option Value} {x f : Str} {c : CN} {d : D} {p pos : Pos} (h : CVl w mg x c f d) (hm : ∀ i, (XS i).mg = mg := by intro _; rfl) (hK : ∀ i, (XS i).K = w.K := by intro _; rfl) (hg : ∀ i, Gl (XS i) x := by intro _; rfl) (hdb : (x == ("__debug__" : Str)) = false := by decide)
    (hb : ∀ i, attributeBase (.Name x p) f (XS i).env (eval (.Name x p) (XS i).env) = eval (.Name x p) (XS i).env := by intro _; rfl) : DE XS w W (.Attribute (.Name x p) f pos) (seC d) := by
  obtain ⟨mc, v, u, h1, h2, h3, h4⟩ := h.ex
  refine ⟨_, fun i => ?_, re_cval h2 h3 h4⟩
  have z := ClX.pe_cval (f := f) (pos := pos) (pe_glob (X := XS i) (v := .ref (w.cls c)) (pos := p) (hg i) (by rw [hm i]; exact h1) rfl hdb) (hb i)
  rw [hK i] at z
  exact z
/-- C.m(..), m a static method that is the def φ -/
structure Stc (P : Program) (wl : World) (mg : Str → Option Value) (base : Heap) (w : WD) (b : Bool) (k : Nat) (x m : Str) (c : CN) (φ : Fn) : Prop where
  ex : ∃ (mc : Value) (p g : Addr), mg x = some (.ref (w.cls c)) ∧ ClX.CRead w.K (w.cls c) mc ∧ R7.SMet w.K (w.cls c) mc m p g ∧ Def P wl mg base w false b k g φ
theorem re_scall {C : Addr} {φ : Fn} {E : XK} {ta : TA} {sa : SA} (hE : ∀ σ cls d H', W cls d σ H' → E cls d H') (h : RA w W ta sa) : RE w W (R7.tSMeth C (spD w φ) E (tC (.ref C)) ta) (seCall φ sa) := fun π B Z g σ H Q s q =>
  ⟨rfl, h π B Z g σ H _ s (tailE.bA q fun rs g1 vs B1 H1 e1 s1 r1 q1 => call_D s1 r1 (hE σ) q1)⟩
theorem de_scall {ι : Type} {XS : ι → Cx} {P : Program} {wl : World} {mg : Str → Option Value} {base : Heap} {gb : Bool} {n k : Nat} {x m : Str} {c : CN} {φ : Fn} {e : Expr} {es : List Expr} {args : SA} {p apos pos : Pos} {pl : ι → Sem Bool} (F : Fam P wl mg base w gb n XS) (h : Stc P wl mg base w false k x m c φ) (ha : DA XS w W (e :: es) args) (hk : k ≤ n := by decide) (hg : ∀ i, Gl (XS i) x := by intro _; rfl) (hdb : (x == ("__debug__" : Str)) = false := by decide)
    (hst : ∀ i, starEach (e :: es) (XS i).env = (false, eval e (XS i).env) :: starEach es (XS i).env := by intro _; rfl) (hpl : ∀ i, (backTo pos (starEach es (XS i).env)).any (·.1) = false := by intro _; rfl)
    (ht : ∀ i, eval (.Call (.Attribute (.Name x p) m apos) (e :: es) [] pos) (XS i).env = (do
      let ov ← eval (.Name x p) (XS i).env
      standAt apos.atName
      let (f, first) ← holding [ov] (getMethod ov m (pl i))
      callWith pos f first (backTo pos (starEach (e :: es) (XS i).env)) (backToKw pos (keywordEach [] (XS i).env))) := by intro _; rfl) : DE XS w W (.Call (.Attribute (.Name x p) m apos) (e :: es) [] pos) (seCall φ args) := by
  obtain ⟨t, h1, h2⟩ := ha
  obtain ⟨mc, q, f, k1, k2, k3, fd, ps, k4, k5, k6⟩ := h.ex
  refine ⟨_, fun i => ?_, re_scall (C := w.cls c) (E := fun _ _ _ => True) (fun _ _ _ _ _ => trivial) h2⟩
  exact R7.pe_smeth (CX := CXb false P wl) (pe_glob (X := XS i) (v := .ref (w.cls c)) (pos := p) (hg i) (by rw [F.mg i]; exact k1) rfl hdb) (by rw [F.K i]; exact k2) (by rw [F.K i]; exact k3) (by rw [F.prog i, F.wl i, F.K i, F.mg i, F.base i]; exact k4.ok) ((F.room i).mono hk) (by rw [F.K i]; exact k5) (fun _ _ _ _ _ _ _ z => z.elim) (h1 i) (hst i) (hpl i) (ht i)
end
end M7
/-! f-strings, raise, isinstance. -/
namespace M7
open PySem PySem.Spec PyProof.Rows L2
section
variable {w : WD} {W : WX} {π : Nat → V} {B B' B1 Z : Hp} {g : G} {σ : L2.St} {H H' : Hp} {v : V}
theorem res_str {o : Bool} {x : Str} (r : Res w B Z g σ H v o (.str x)) : v = .str x := by
  cases o with
  | false =>
    have r : Den w B v (.str x) := r
    cases r
    rfl
  | true =>
    obtain ⟨a, _, _, _, ho, _⟩ := r
    cases ho
/-- {e} -/
def seFmt (se : SE) : SE := fun g => (se g).bind fun r g1 => match r.2 with
  | .str y => if y.length ≤ sizeLine then .ok (false, .str y) g1 else .fail
  | .int i => if i.natAbs.log2 < 1920 then .ok (false, .str (toString i)) g1 else .fail
  | _ => .fail
theorem re_fmt {te : TE} {se : SE} (h : RE w W te se) : RE w W (tFmt te) (seFmt se) := fun π B Z g σ H Q s q =>
  h π B Z g σ H _ s (tailE.bE q fun o d g1 v B1 H1 e s1 r q1 => by
    cases d with
    | str y =>
      simp only at q1
      split at q1
      · rename_i hz
        exact .inl ⟨y, res_str r, hz, q1 _ B1 H1 (Ext.refl _) s1 (.str y)⟩
      · exact q1.elim
    | int i =>
      simp only at q1
      split at q1
      · rename_i hz
        exact .inr ⟨i, res_int r, hz, q1 _ B1 H1 (Ext.refl _) s1 (.str _)⟩
      · exact q1.elim
    | _ => exact q1.elim)
def jsL : List SE → Str → G → O (Bool × D)
  | [], acc, g => .ok (false, .str acc) g
  | s :: ss, acc, g => (s g).bind fun r g1 => match r.2 with
    | .str y => if (acc ++ y).length ≤ sizeLine then jsL ss (acc ++ y) g1 else .fail
    | _ => .fail
inductive RJ (w : WD) (W : WX) : List TE → List SE → Prop where
  | nil : RJ w W [] []
  | cons {t : TE} {s : SE} {ts : List TE} {ss : List SE} : RE w W t s → RJ w W ts ss → RJ w W (t :: ts) (s :: ss)
theorem rj_run {ts : List TE} {ss : List SE} (h : RJ w W ts ss) : ∀ (π : Nat → V) (B Z : Hp) (g : G) (σ : L2.St) (H : Hp) (Q : VK) (acc : Str), Sat w π B Z g σ H → PostE w W π B Z σ Q (jsL ss acc g) → tJs ts acc σ H fun out H1 => Q (.str out) H1 := by
  induction h with
  | nil => exact fun π B Z g σ H Q acc s q => q _ B H (Ext.refl _) s (.str acc)
  | cons h t ih =>
    intro π B Z g σ H Q acc s q
    refine h π B Z g σ H _ s (tailE.bE q fun o d g1 v B1 H1 e s1 r q1 => ?_)
    cases d with
    | str y =>
      simp only at q1
      split at q1
      · rename_i hz
        exact ⟨y, res_str r, hz, ih π B1 Z g1 σ H1 Q _ s1 q1⟩
      · exact q1.elim
    | _ => exact q1.elim
def DJ {ι : Type} (XS : ι → Cx) (w : WD) (W : WX) (es : List Expr) (ss : List SE) : Prop := ∃ ts, (∀ i, PJ (XS i) es ts) ∧ RJ w W ts ss
variable {ι : Type} {XS : ι → Cx} {e a : Expr} {es : List Expr} {se : SE} {ss : List SE} {pos p pos' : Pos}
theorem dj_nil : DJ XS w W [] [] := ⟨[], fun _ => .nil, .nil⟩
theorem dj_str {x j} (t : DJ XS w W es ss) : DJ XS w W (.Constant (.str x) j pos :: es) (seC (.str x) :: ss) := let ⟨ts, h1, h2⟩ := t; ⟨_, fun i => .cons pe_str (h1 i), .cons re_str h2⟩
theorem dj_fmt (h : DE XS w W e se) (t : DJ XS w W es ss) : DJ XS w W (.FormattedValue e (-1) none pos :: es) (seFmt se :: ss) := by
  obtain ⟨u, k1, k2⟩ := h
  obtain ⟨ts, h1, h2⟩ := t
  exact ⟨_, fun i => .cons (pe_fmt (k1 i)) (h1 i), .cons (re_fmt k2) h2⟩
theorem de_js {v1 v2 : Expr} (h : DJ XS w W (v1 :: v2 :: es) ss) : DE XS w W (.JoinedStr (v1 :: v2 :: es) pos) (jsL ss Str.empty) := by
  obtain ⟨ts, h1, h2⟩ := h
  exact ⟨_, fun i => pe_joined (h1 i), fun π B Z g σ H Q s q => rj_run h2 π B Z g σ H Q _ s q⟩
theorem de_js1 (h : DE XS w W e se) : DE XS w W (.JoinedStr [e] pos) se := let ⟨t, h1, h2⟩ := h; ⟨t, fun i => pe_joined1 (h1 i), h2⟩
theorem de_fmt (h : DE XS w W e se) : DE XS w W (.FormattedValue e (-1) none pos) (seFmt se) := let ⟨t, h1, h2⟩ := h; ⟨_, fun i => pe_fmt (h1 i), re_fmt h2⟩
/-! ### raise X(e) -/
/-- an exception class without __init__, by its name -/
structure ExnF (w : WD) (mg : Str → Option Value) (y : Str) (x : XN) : Prop where
  ex : PySem.W.excIn w.K (w.exc x) [.type "ValueError", .type "Exception", .type "BaseException", .type "object"] "ValueError.__new__" = true
  at_ : mg y = some (.ref (w.exc x))
  kp : PySem.W.keepIn w.K (.ref (w.exc x)) = true
  sb : PySem.W.subIn w.K (.ref (w.exc x)) (.type "BaseException") = some true
  ty : PySem.W.typeIn w.K (.ref (w.exc x)) = some (.type "type")
  has : w.has x
theorem ds_raise {mg : Str → Option Value} {y : Str} {x : XN} (F : ExnF w mg y x) (tk : ∀ i, Takes (XS i) W) (h : DE XS w W e se) (hm : ∀ i, (XS i).mg = mg := by intro _; rfl) (hK : ∀ i, (XS i).K = w.K := by intro _; rfl) (hc : ∀ i, (XS i).calm = true := by intro _; rfl) (hg : ∀ i, Gl (XS i) y := by intro _; rfl)
    (hs : ∀ i, starEach [e] (XS i).env = (false, eval e (XS i).env) :: starEach [] (XS i).env := by intro _; rfl) (hdb : (y == ("__debug__" : Str)) = false := by decide) : DS XS w W (.Raise (some (.Call (.Name y p) [e] [] pos)) none pos') (ssRaise x se) := by
  obtain ⟨t, h1, h2⟩ := h
  refine ⟨_, fun i => ?_, rs_raise F.has h2⟩
  exact ps_raise (hc i) (tk i) (SkE.pmk_own1 PySem.F.excBase_ValueError (by rw [hK i]; exact F.ex) (by rw [hm i]; exact F.at_) (by rw [hK i]; exact F.kp) (raises_own (by rw [hK i]; exact F.sb) (by rw [hK i]; exact F.ty)) (hg i) (h1 i) (hs i) hdb)
/-! ### isinstance -/
/-- the kind of a datum's type -/
inductive TK where
  | non | bl | int | str | lst | tup | dct | obj (c : CN)
def tkD : D → Option TK
  | .non => some .non
  | .bl _ => some .bl
  | .int _ => some .int
  | .str _ => some .str
  | .lst _ => some .lst
  | .tup _ => some .tup
  | .dct _ => some .dct
  | .obj c _ => some (.obj c)
  | _ => none
def tkV (w : WD) : TK → Value
  | .non => .type "NoneType"
  | .bl => .type "bool"
  | .int => .type "int"
  | .str => .type "str"
  | .lst => .type "list"
  | .tup => .type "tuple"
  | .dct => .type "dict"
  | .obj c => .ref (w.cls c)
/-- an instance of the class tells its class -/
structure ClsI (K : PySem.W.Frag) (C : Addr) : Prop where
  cl : Cls K C
  ha : PySem.W.findIn K (.ref C) "__class__" = some (some (.builtin "object.__class__"))
  hn : PySem.W.specialIn K (.builtin "object.__class__") "__get__" = some (some (.builtin "getset_descriptor.__get__"))
  htk : PySem.W.takesIn K (.builtin "object.__class__") = some true
  hm : PySem.W.mroIn K C (.type "object") = some true
/-- what isinstance tells of the class u -/
def IsiF (w : WD) (u : Value) (tst : TK → Option Bool) : Prop := ∀ k b, tst k = some b → PySem.W.kitOne w.K (tkV w k) u = some b ∧ ∀ c, k = .obj c → ClsI w.K (w.cls c)
theorem lk_ty {d : D} {k : TK} (s : Sub B H) (h : Lk w B H v d) (e : tkD d = some k) (hc : ∀ c, k = .obj c → ClsI w.K (w.cls c)) : TyX w.K H v (tkV w k) := by
  cases d <;> first | (cases e; done) | skip
  · cases e; rw [lk_non h]; exact .base .non
  · cases e; rw [lk_bl h]; exact .base (.bl _)
  · cases e; rw [lk_int h]; exact .base (.int _)
  · cases e; rw [lk_str h]; exact .base (.str _)
  · cases e
    obtain ⟨a, xs, rfl, ha, _⟩ := lk_lst s h
    exact .base (.lst ha)
  · cases e
    obtain ⟨a, xs, rfl, ha, _⟩ := lk_tup s h
    rcases ha with (ha | ⟨o, ha⟩) | ⟨o, its, n, h1, h2, _⟩
    · exact .base (.tup ha)
    · exact .fTuple ha
    · exact .kTuple h1 h2
  · cases e
    cases h with
    | den h =>
      cases h with
      | dct e l r =>
        rcases (s _ _ e).2 with z | ⟨_, ob, z⟩
        · exact .base (.dK z)
        · exact .fDict z
    | own _ h =>
      cases h with
      | dct e l r => exact .base (.dK e)
  · rename_i c fs
    cases e
    obtain ⟨a, dx, ns, vs, ds, rfl, ha, _⟩ := lk_obj s h
    have f := hc c rfl
    exact .base (.ins ha f.cl f.ha f.hn f.htk f.hm)
def seIsi (tst : TK → Option Bool) (sb : SB) : SE := fun g => (sb g).bind fun r g1 => match ((r.get g1).bind tkD).bind tst with
  | some b => .ok (false, .bl b) g1
  | none => .fail
theorem re_isi {u : Value} {c : V} {tst : TK → Option Bool} {tx : TE} {sb : SB} (hc : ClsV c u) (F : IsiF w u tst) (h : RB w W tx sb) : RE w W (tCB (rIsi w.K) (tCons tx (tCons (tC c) tNil))) (seIsi tst sb) := fun π B Z g σ H Q s q =>
  h π B Z g σ H _ s (tailE.bB q fun r g1 v B1 H1 e1 s1 r1 q1 => by
    split at q1
    · rename_i b hb
      cases h1 : r.get g1 with
      | none => rw [h1] at hb; cases hb
      | some d =>
        rw [h1] at hb
        have hb : (tkD d).bind tst = some b := hb
        cases h2 : tkD d with
        | none => rw [h2] at hb; cases hb
        | some k =>
          rw [h2] at hb
          obtain ⟨f1, f2⟩ := F k b hb
          exact ⟨v, c, _, u, b, rfl, hc, lk_ty s1.sub (s1.lk r1 h1) h2 f2, f1, q1 _ B1 H1 (Ext.refl _) s1 (.bl b)⟩
    · exact q1.elim)
/-- isinstance(x, T), T a built-in type -/
theorem de_isiT {mg : Str → Option Value} {T : String} {y : Str} {tst : TK → Option Bool} {p2 : Pos} {sb : SB} (hm : mg "isinstance" = none) (hy : mg y = none) (hv : bootBuiltins y = some (.type T)) (F : IsiF w (.type T) tst) (h : DB XS w W e sb) (hmg : ∀ i, (XS i).mg = mg := by intro _; rfl) (hK : ∀ i, (XS i).K = w.K := by intro _; rfl) (hg : ∀ i, Gl (XS i) "isinstance" := by intro _; rfl) (hg2 : ∀ i, Gl (XS i) y := by intro _; rfl)
    (hn : y ≠ "__name__" := by decide) (hdb : (y == ("__debug__" : Str)) = false := by decide) (he : ∀ i, starEach [e, .Name y p2] (XS i).env = (false, eval e (XS i).env) :: starEach [.Name y p2] (XS i).env := by intro _; rfl) (he2 : ∀ i, starEach [.Name y p2] (XS i).env = (false, eval (.Name y p2) (XS i).env) :: starEach [] (XS i).env := by intro _; rfl)
    (hpl : ∀ i, (backTo pos (starEach [.Name y p2] (XS i).env)).any (·.1) = false := by intro _; rfl) : DE XS w W (.Call (.Name "isinstance" p) [e, .Name y p2] [] pos) (seIsi tst sb) := by
  obtain ⟨t, h1, h2⟩ := h
  refine ⟨_, fun i => ?_, re_isi (.ty T) F h2⟩
  have z := pe_callB (X := XS i) (p := p) (pos := pos) call_isi (hg i) (by rw [hmg i]; exact hm) boot_isinstance (pa_cons (h1 i) (pa_cons (pe_bltn (v := .ty T) (pos := p2) (hg2 i) (by rw [hmg i]; exact hy) hv rfl hn hdb) pa_nil (he2 i)) (he i)) (by decide) (by decide) (he i) (hpl i)
  rw [hK i] at z
  exact z
/-- .., an own class -/
theorem de_isiC {mg : Str → Option Value} {C : Addr} {y : Str} {tst : TK → Option Bool} {p2 : Pos} {sb : SB} (hm : mg "isinstance" = none) (hy : mg y = some (.ref C)) (F : IsiF w (.ref C) tst) (h : DB XS w W e sb) (hmg : ∀ i, (XS i).mg = mg := by intro _; rfl) (hK : ∀ i, (XS i).K = w.K := by intro _; rfl) (hg : ∀ i, Gl (XS i) "isinstance" := by intro _; rfl) (hg2 : ∀ i, Gl (XS i) y := by intro _; rfl)
    (hdb : (y == ("__debug__" : Str)) = false := by decide) (he : ∀ i, starEach [e, .Name y p2] (XS i).env = (false, eval e (XS i).env) :: starEach [.Name y p2] (XS i).env := by intro _; rfl) (he2 : ∀ i, starEach [.Name y p2] (XS i).env = (false, eval (.Name y p2) (XS i).env) :: starEach [] (XS i).env := by intro _; rfl)
    (hpl : ∀ i, (backTo pos (starEach [.Name y p2] (XS i).env)).any (·.1) = false := by intro _; rfl) : DE XS w W (.Call (.Name "isinstance" p) [e, .Name y p2] [] pos) (seIsi tst sb) := by
  obtain ⟨t, h1, h2⟩ := h
  refine ⟨_, fun i => ?_, re_isi (.own C) F h2⟩
  have z := pe_callB (X := XS i) (p := p) (pos := pos) call_isi (hg i) (by rw [hmg i]; exact hm) boot_isinstance (pa_cons (h1 i) (pa_cons (pe_glob (v := .ref C) (pos := p2) (hg2 i) (by rw [hmg i]; exact hy) rfl hdb) pa_nil (he2 i)) (he i)) (by decide) (by decide) (he i) (hpl i)
  rw [hK i] at z
  exact z
/-- int, bool, str, tuple, dict, list, of data -/
def tInt : TK → Option Bool
  | .obj _ => none
  | .int => some true
  | .bl => some true
  | _ => some false
def tBool : TK → Option Bool
  | .obj _ => none
  | .bl => some true
  | _ => some false
def tStr : TK → Option Bool
  | .obj _ => none
  | .str => some true
  | _ => some false
def tTuple : TK → Option Bool
  | .obj _ => none
  | .tup => some true
  | _ => some false
def tDict : TK → Option Bool
  | .obj _ => none
  | .dct => some true
  | _ => some false
theorem isi_int : IsiF w (.type "int") tInt := fun k b h => by
  cases k <;> cases h <;> refine ⟨kit_ty (by decide +kernel), fun c z => nomatch z⟩
theorem isi_bool : IsiF w (.type "bool") tBool := fun k b h => by
  cases k <;> cases h <;> refine ⟨kit_ty (by decide +kernel), fun c z => nomatch z⟩
theorem isi_str : IsiF w (.type "str") tStr := fun k b h => by
  cases k <;> cases h <;> refine ⟨kit_ty (by decide +kernel), fun c z => nomatch z⟩
theorem isi_tuple : IsiF w (.type "tuple") tTuple := fun k b h => by
  cases k <;> cases h <;> refine ⟨kit_ty (by decide +kernel), fun c z => nomatch z⟩
theorem isi_dict : IsiF w (.type "dict") tDict := fun k b h => by
  cases k <;> cases h <;> refine ⟨kit_ty (by decide +kernel), fun c z => nomatch z⟩
end
end M7
/-! Instances are made; C.m(self, *rods, k = v). -/
namespace M7
open PySem PySem.Spec PyProof.Rows L2
section
variable {w : WD} {W : WX} {π : Nat → V} {B B' B1 Z : Hp} {g : G} {σ : L2.St} {H H' : Hp} {v : V}
theorem app_last {α : Type} {l : List α} {x y : α} {i : Nat} (h : (l ++ [x])[i]? = some y) : (i < l.length ∧ l[i]? = some y) ∨ (i = l.length ∧ y = x) := by
  by_cases hi : i < l.length
  · rw [List.getElem?_append_left hi] at h
    exact .inl ⟨hi, h⟩
  · rw [List.getElem?_append_right (by omega)] at h
    have : i - l.length = 0 := by
      have := (List.getElem?_eq_some_iff.mp h).1
      simp at this
      omega
    rw [this] at h
    simp at h
    exact .inr ⟨by omega, h.symm⟩
theorem app_at {α : Type} {l : List α} {x : α} : (l ++ [x])[l.length]? = some x := by simp
theorem app_lt {α : Type} {l : List α} {x : α} {i : Nat} (h : i < l.length) : (l ++ [x])[i]? = l[i]? := List.getElem?_append_left h
/-- one more slot -/
theorem Sat.push {o : Bool} {d : D} (s : Sat w π B Z g σ H) (r : Res w B Z g σ H v o d) : Sat w π B Z (g ++ [some (if o = true then Fl.o else Fl.f, d)]) (σ ++ [some v]) H := by
  have lo : ∀ {i x}, i < g.length → g[i]? = some x → (σ ++ [some v])[i]? = σ[i]? := fun h _ => app_lt (by rw [← s.len]; exact h)
  have at_ : (σ ++ [some v])[g.length]? = some (some v) := by rw [s.len]; exact app_at
  refine ⟨s.sub, s.keep, s.dis, by rw [List.length_append, List.length_append, s.len] <;> rfl, fun i c e q z => ?_, fun i c e q z => ?_, fun i j c c' d1 d2 a q1 q2 z1 z2 t1 t2 => ?_, fun i c e q z => ?_, s.tz⟩
  · rcases app_last q with ⟨hi, q'⟩ | ⟨rfl, q'⟩
    · rw [lo hi q']
      exact s.fz i c e q' z
    · cases q'
      cases o with
      | true => cases z
      | false => exact ⟨v, at_, r⟩
  · rcases app_last q with ⟨hi, q'⟩ | ⟨rfl, q'⟩
    · rw [lo hi q']
      exact s.ow i c e q' z
    · cases q'
      cases o with
      | false => cases z
      | true =>
        obtain ⟨a, rfl, h1, h2, h3, _⟩ := r
        exact ⟨a, at_, h1, h2, h3⟩
  · rcases app_last q1 with ⟨hi, q1'⟩ | ⟨rfl, q1'⟩
    · rcases app_last q2 with ⟨hj, q2'⟩ | ⟨rfl, q2'⟩
      · rw [lo hi q1'] at t1
        rw [lo hj q2'] at t2
        exact s.dj i j c c' d1 d2 a q1' q2' z1 z2 t1 t2
      · cases q2'
        cases o with
        | false => cases z2
        | true =>
          obtain ⟨a', rfl, _, _, _, hn⟩ := r
          rw [at_] at t2
          cases t2
          rw [lo hi q1'] at t1
          exact absurd t1 (hn i c d1 q1' z1)
    · rcases app_last q2 with ⟨hj, q2'⟩ | ⟨rfl, q2'⟩
      · cases q1'
        cases o with
        | false => cases z1
        | true =>
          obtain ⟨a', rfl, _, _, _, hn⟩ := r
          rw [at_] at t1
          cases t1
          rw [lo hj q2'] at t2
          exact absurd t2 (hn j c' d2 q2' z2)
      · rfl
  · rcases app_last q with ⟨hi, q'⟩ | ⟨rfl, q'⟩
    · rw [lo hi q']
      exact s.pin i c e q' z
    · cases q'
      cases o <;> cases z
theorem Sat.pop {c : Fl} {d : D} {x : Option V} (s : Sat w π B Z (g ++ [some (c, d)]) (σ ++ [x]) H) (hp : c.pin = false) : Sat w π B Z g σ H ∧ ∀ v, x = some v → Res w B Z g σ H v c.own d := by
  have hl : g.length = σ.length := by
    have := s.len
    rw [List.length_append, List.length_append] at this
    simpa using this
  have lg : ∀ {i y}, g[i]? = some y → (g ++ [some (c, d)])[i]? = some y := fun {i y} q => by
    rw [app_lt (List.getElem?_eq_some_iff.mp q).1]
    exact q
  have lσ : ∀ {i : Nat} {y : Option (Fl × D)}, g[i]? = some y → (σ ++ [x])[i]? = σ[i]? := fun {i y} q => app_lt (by rw [← hl]; exact (List.getElem?_eq_some_iff.mp q).1)
  have la : (g ++ [some (c, d)])[g.length]? = some (some (c, d)) := app_at
  have lx : (σ ++ [x])[g.length]? = some x := by rw [hl]; exact app_at
  refine ⟨⟨s.sub, s.keep, s.dis, hl, fun i c e q z => ?_, fun i c e q z => ?_, fun i j c c' d1 d2 a q1 q2 z1 z2 t1 t2 => ?_, fun i c e q z => ?_, s.tz⟩, fun v hv => ?_⟩
  · have := s.fz i c e (lg q) z
    rw [lσ q] at this
    exact this
  · have := s.ow i c e (lg q) z
    rw [lσ q] at this
    exact this
  · exact s.dj i j c c' d1 d2 a (lg q1) (lg q2) z1 z2 (by rw [lσ q1]; exact t1) (by rw [lσ q2]; exact t2)
  · have := s.pin i c e (lg q) z
    rw [lσ q] at this
    exact this
  · cases ho : c.own with
    | false =>
      obtain ⟨u, h1, h2⟩ := s.fz g.length c d la ho
      rw [lx, hv] at h1
      cases h1
      exact h2
    | true =>
      obtain ⟨a, h1, h2, h3, h4⟩ := s.ow g.length c d la ho
      have h1' := h1
      rw [lx, hv] at h1
      cases h1
      refine ⟨a, rfl, h2, h3, h4, fun i c' e q z t => ?_⟩
      have := s.dj i g.length c' c e d a (lg q) la z ho (by rw [lσ q]; exact t) h1'
      have hi := (List.getElem?_eq_some_iff.mp q).1
      omega
theorem Res.carry {o : Bool} {d : D} (r : Res w B Z g σ H v o d) (e : Ext B B') (k : Ext H H') (hB : ∀ a u, H a = some u → B a = none → B' a = none) : Res w B' Z g σ H' v o d := by
  cases o with
  | false => exact Den.mono e r
  | true =>
    obtain ⟨a, rfl, h1, h2, h3, h4⟩ := r
    obtain ⟨u, hu⟩ := h3.there
    exact ⟨a, rfl, hB a u hu h1, h2, (h3.mono e).at ((k _ _ hu).trans hu.symm), h4⟩
theorem res_non {o : Bool} (r : Res w B Z g σ H v o .non) : v = .non := by
  cases o with
  | false =>
    have r : Den w B v .non := r
    cases r
    rfl
  | true =>
    obtain ⟨a, _, _, _, ho, _⟩ := r
    cases ho
/-- arguments that are data -/
def dts (ds : List D) : List Ref := ds.map Ref.dt
theorem dens_refs {vs : List V} {ds : List D} (h : Dens w B vs ds) : RefsOk w B σ vs (dts ds) := by
  induction ds generalizing vs with
  | nil => cases h; exact .nil
  | cons d ds ih =>
    cases h with
    | cons r t => exact .cons r (ih t)
theorem lent_dts (g : G) (ds : List D) : lentOf g (dts ds) = [] := by
  induction ds with
  | nil => rfl
  | cons d ds ih => exact ih
theorem args_dts (g : G) (ds : List D) : argsOf g (dts ds) = some (ds.map fun d => (false, d)) := by
  induction ds with
  | nil => rfl
  | cons d ds ih =>
    show (match argOf g (.dt d), argsOf g (dts ds) with
      | some a, some as => some (a :: as)
      | _, _ => none) = _
    rw [ih]
    rfl
theorem give_dts (g : G) : ∀ (ds : List D) (bk : List (Bool × D)), giveBack g (dts ds) bk = g
  | [], _ => by unfold dts giveBack; rfl
  | d :: ds, [] => by
    show giveBack g (.dt d :: dts ds) [] = g
    unfold giveBack
    rfl
  | d :: ds, b :: bk => by
    show giveBack g (.dt d :: dts ds) (b :: bk) = g
    unfold giveBack
    exact give_dts g ds bk
/-- the promise of a def f(self, *rest, k = d, ..) behind the binding: self, the options, the tuple -/
def spStar (w : WD) (φ : Fn) (gV : List V → List V) : R7.Sp2 := fun vs zs H Q E => ∃ a rest, vs = a :: rest ∧ rest.length ≤ sizeLine ∧ ∀ p, H p = Option.none → spD w φ (a :: (gV zs ++ [V.ref p])) (upd H p (.tup rest)) Q E
/-- how the options' values come to the parameters -/
def GV (w : WD) (m : Nat) (gV : List V → List V) (gD : List D → List D) : Prop := ∀ B zs es, Dens w B zs es → zs.length = m → Dens w B (gV zs) (gD es)
/-- from the arguments' data -/
def mkO (c : CN) (φ : Fn) (m : Nat) (gD : List D → List D) (ds es : List D) (g : G) : O (Bool × D) := if ds.length ≤ sizeLine ∧ es.length = m then match φ ((true, .obj c []) :: (gD es ++ [M7.D.tup ds]).map fun d => (false, d)) with
    | .ret _ .non (b :: _) => .ok b g
    | .ex x f (_ :: _) => .ex x f g
    | _ => .fail else .fail
/-- what a list of frozen data does as arguments -/
theorem re_mkO {c : CN} {φ : Fn} {m : Nat} {gV : List V → List V} {gD : List D → List D} {E : XK} {vs zs : List V} {ds es : List D} {Q : VK} {g2 : G} {H2 B2 : Hp} (hE : ∀ cls d H', W cls d σ H' → E cls d H') (hG : GV w m gV gD) (s2 : Sat w π B2 Z g2 σ H2) (dd : Dens w B2 vs ds) (de : Dens w B2 zs es)
    (q2 : PostE w W π B2 Z σ Q (mkO c φ m gD ds es g2)) : zs.length = m ∧ ∀ x dx, H2 x = none → H2 dx = none → dx ≠ x → spStar w φ gV (.ref x :: vs) zs (upd (upd H2 dx (.own x)) x (.ins (w.cls c) dx [])) (fun v H3 => v = .non ∧ Q (.ref x) H3) E := by
  unfold mkO at q2
  split at q2
  · rename_i hc
    refine ⟨de.len.trans hc.2, fun x dx hx hdx hne => ⟨.ref x, vs, rfl, by rw [dd.len]; exact hc.1, fun p hp => ?_⟩⟩
    -- the new instance, one's own
    have hx' : upd H2 dx (.own x) x = none := by rw [upd_ne (Ne.symm hne)]; exact hx
    have s3 := s2.grow (Ext.new hdx (o := .own x))
    have r3 : Res w B2 Z g2 σ (upd (upd H2 dx (.own x)) x (.ins (w.cls c) dx [])) (.ref x) true (.obj c []) := s3.new_res hx' (.obj (ns := []) (vs := []) (ds := []) upd_same rfl .nil)
    have s4 := s3.grow (Ext.new hx' (o := .ins (w.cls c) dx []))
    have s5 := s4.newB (o := .tup vs) hp
    have hpB : B2 p = none := s4.sub.none hp
    have e5 : Ext B2 (upd B2 p (.tup vs)) := Ext.new hpB
    have r5 : Res w (upd B2 p (.tup vs)) Z g2 σ (upd (upd (upd H2 dx (.own x)) x (.ins (w.cls c) dx [])) p (.tup vs)) (.ref x) true (.obj c []) := r3.carry e5 (Ext.new hp) fun a u ha hB => by rw [upd_ne (ne_of_none ha hp)]; exact hB
    have s6 : Sat w π (upd B2 p (.tup vs)) Z (g2 ++ [some (Fl.o, M7.D.obj c [])]) (σ ++ [some (.ref x)]) _ := s5.push r5
    have hl : σ.length = g2.length := s2.len.symm
    have rf : RefsOk w (upd B2 p (.tup vs)) (σ ++ [some (.ref x)]) (.ref x :: (gV zs ++ [.ref p])) (.sl g2.length :: dts (gD es ++ [M7.D.tup ds])) := by
      refine .cons ?_ (dens_refs (((hG _ _ _ de (de.len.trans hc.2)).mono e5).app (.cons (.tup (.inl (.inl upd_same)) (dd.mono e5)) .nil)))
      show (σ ++ [some (V.ref x)])[g2.length]? = _
      rw [← hl]
      exact app_at
    have gl : (g2 ++ [some (Fl.o, M7.D.obj c [])])[g2.length]? = some (some (.o, .obj c [])) := app_at
    refine call_D (W := fun cls d τ H' => τ = σ ++ [some (.ref x)] → W cls d σ H') s6 rf (fun cls d H' z => hE cls d H' (z rfl)) ?_
    have hd1 : distinct (lentOf (g2 ++ [some (Fl.o, M7.D.obj c [])]) (.sl g2.length :: dts (gD es ++ [M7.D.tup ds]))) = true := by
      unfold lentOf
      rw [gl]
      simp only
      rw [if_pos (by rfl), lent_dts]
      rfl
    have ha1 : argsOf (g2 ++ [some (Fl.o, M7.D.obj c [])]) (.sl g2.length :: dts (gD es ++ [M7.D.tup ds])) = some ((true, .obj c []) :: (gD es ++ [M7.D.tup ds]).map fun d => (false, d)) := by
      have a0 : argOf (g2 ++ [some (Fl.o, M7.D.obj c [])]) (.sl g2.length) = some (true, .obj c []) := by
        unfold argOf
        simp only
        rw [gl]
        rfl
      unfold argsOf
      rw [a0, args_dts]
    rw [if_pos hd1, ha1]
    simp only
    have gb : ∀ (b : Bool × D) (bk : List (Bool × D)), giveBack (g2 ++ [some (Fl.o, M7.D.obj c [])]) (.sl g2.length :: dts (gD es ++ [M7.D.tup ds])) (b :: bk) = g2 ++ [some (if b.1 = true then Fl.o else Fl.f, b.2)] := fun b bk => by
      unfold giveBack
      rw [gl]
      simp only
      rw [if_pos (by rfl), give_dts, List.set_append_right _ _ (Nat.le_refl _), Nat.sub_self]
      rfl
    have pin : ∀ b : Bool, (if b = true then Fl.o else Fl.f).pin = false := fun b => by cases b <;> rfl
    have own : ∀ b : Bool, (if b = true then Fl.o else Fl.f).own = b := fun b => by cases b <;> rfl
    split at q2
    · rename_i b bk hφ
      rw [hφ]
      intro v B' H' e' t rv
      rw [gb] at t
      obtain ⟨t1, t2⟩ := t.pop (pin b.1)
      have vn : v = .non := res_non rv
      refine ⟨vn, ?_⟩
      have rr := t2 _ rfl
      rw [own] at rr
      exact q2 _ B' H' (e5.trans e') t1 rr
    · rename_i y f b bk hφ
      rw [hφ]
      intro hx dd B' H' σ' e' t xo
      intro hσ
      subst hσ
      rw [gb] at t
      obtain ⟨t1, _⟩ := t.pop (pin b.1)
      exact q2 hx dd B' H' σ (e5.trans e') t1 xo
    · exact q2.elim
  · exact q2.elim
/-- a class is called: a new instance, __init__ makes φ of it -/
def seMake (c : CN) (φ : Fn) (m : Nat) (gD : List D → List D) (sa sk : SA) : SE := fun g => (sa g).bind fun rs g1 => (sk g1).bind fun ks g2 => match datas rs, datas ks with
  | some ds, some es => mkO c φ m gD ds es g2
  | _, _ => .fail
theorem re_make {c : CN} {φ : Fn} {m : Nat} {gV : List V → List V} {gD : List D → List D} {E : L2.St → XK} {ta tk : TA} {sa sk : SA} (hE : ∀ σ cls d H', W cls d σ H' → E σ cls d H') (hG : GV w m gV gD) (h : RA w W ta sa) (k : RA w W tk sk) :
    RE w W (R7.tMakeK (w.cls c) (spStar w φ gV) m E ta tk) (seMake c φ m gD sa sk) := fun π B Z g σ H Q s q =>
  h π B Z g σ H _ s (tailE.bA q fun rs g1 vs B1 H1 e1 s1 r1 q1 => k π B1 Z g1 σ H1 _ s1 (tailE.bA q1 fun ks g2 zs B2 H2 e2 s2 r2 q2 => by
    split at q2
    · rename_i ds es hd he
      exact re_mkO (hE σ) hG s2 ((r1.datas hd).mono e2) (r2.datas he) q2
    · exact q2.elim))
/-- C.m(e, *rest, k = v, ..) -/
def seqOf : D → Option (List D)
  | .tup ds => some ds
  | .lst ds => some ds
  | _ => none
def seClsS (φ : Fn) (m : Nat) (gD : List D → List D) (sb1 : SB) (se2 : SE) (sk : SA) : SE := fun g => (sb1 g).bind fun r1 g1 => (se2 g1).bind fun r2 g2 => match seqOf r2.2 with
  | some ds => (sk g2).bind fun ks g3 => match datas ks with
    | some es => if ds.length ≤ sizeLine ∧ es.length = m then (if distinct (lentOf g3 (r1 :: dts (gD es ++ [M7.D.tup ds]))) = true then match argsOf g3 (r1 :: dts (gD es ++ [M7.D.tup ds])) with
      | some as => match φ as with
        | .ret o d bk => .ok (o, d) (giveBack g3 (r1 :: dts (gD es ++ [M7.D.tup ds])) bk)
        | .ex x f bk => .ex x f (giveBack g3 (r1 :: dts (gD es ++ [M7.D.tup ds])) bk)
        | .fail => .fail
      | none => .fail else .fail) else .fail
    | none => .fail
  | none => .fail
theorem lk_seq {d : D} {ds : List D} (s : Sub B H) (h : Den w B v d) (e : seqOf d = some ds) : ∃ b vs, v = .ref b ∧ (SqT w.K H b vs ∨ SqL w.K H b vs) ∧ Dens w B vs ds := by
  cases d with
  | tup es =>
    cases e
    obtain ⟨a, xs, rfl, ha, hx⟩ := lk_tup s (.den h)
    exact ⟨a, xs, rfl, .inl ha, hx⟩
  | lst es =>
    cases e
    obtain ⟨a, xs, rfl, ha, hx⟩ := lk_lst s (.den h)
    exact ⟨a, xs, rfl, .inr (.inl (.inl ha)), hx⟩
  | _ => cases e
theorem re_clsS {C : Addr} {φ : Fn} {m : Nat} {gV : List V → List V} {gD : List D → List D} {E : L2.St → XK} {t1 t2 : TE} {tk : TA} {sb1 : SB} {se2 : SE} {sk : SA} (hE : ∀ σ cls d H', W cls d σ H' → E σ cls d H') (hG : GV w m gV gD) (h1 : RB w W t1 sb1) (h2 : RE w W t2 se2) (h3 : RA w W tk sk) :
    RE w W (R7.tClsS w.K C (spStar w φ gV) m E (tC (.ref C)) t1 t2 tk) (seClsS φ m gD sb1 se2 sk) := fun π B Z g σ H Q s q =>
  ⟨rfl, h1 π B Z g σ H _ s (tailE.bB q fun r1 g1 v1 B1 H1 e1 s1 rv1 q1 => h2 π B1 Z g1 σ H1 _ s1 (tailE.bE q1 fun o d g2 v2 B2 H2 e2 s2 rv2 q2 => by
    split at q2
    · rename_i ds hi
      obtain ⟨B3, e3, s3, dn⟩ := rv2.freeze s2
      obtain ⟨b, vs, rfl, hb, hx⟩ := lk_seq s3.sub dn hi
      refine ⟨b, vs, rfl, hb, h3 π B3 Z g2 σ H2 _ s3 (tailE.bA (q2.mono e3) fun ks g3 zs B4 H4 e4 s4 r4 q4 => ?_)⟩
      split at q4
      · rename_i es he
        split at q4
        · rename_i hc
          have de := r4.datas he
          have dv := hx.mono e4
          refine ⟨de.len.trans hc.2, v1, vs, rfl, by rw [dv.len]; exact hc.1, fun p hp => ?_⟩
          have s5 := s4.newB (o := .tup vs) hp
          have e5 : Ext B4 (upd B4 p (.tup vs)) := Ext.new (s4.sub.none hp)
          have rf : RefsOk w (upd B4 p (.tup vs)) σ (v1 :: (gV zs ++ [.ref p])) (r1 :: dts (gD es ++ [M7.D.tup ds])) :=
            .cons (rv1.mono (e2.trans (e3.trans (e4.trans e5)))) (dens_refs (((hG _ _ _ de (de.len.trans hc.2)).mono e5).app (.cons (.tup (.inl (.inl upd_same)) (dv.mono e5)) .nil)))
          exact call_D s5 rf (hE σ) (q4.mono e5)
        · exact q4.elim
      · exact q4.elim
    · exact q2.elim))⟩
/-- C(*y, k = v, ..) -/
def seMakeS (c : CN) (φ : Fn) (m : Nat) (gD : List D → List D) (se : SE) (sk : SA) : SE := fun g => (se g).bind fun r g1 => match seqOf r.2 with
  | some ds => (sk g1).bind fun ks g2 => match datas ks with
    | some es => mkO c φ m gD ds es g2
    | none => .fail
  | none => .fail
end
end M7
namespace R7
open PySem PySem.Spec PyProof.Rows L2
section
variable {M : Model} {A : Around} {E : Value → Shared → Prop} {s : Shared}
theorem ks_loneKW {f : Value} {x : Sem Value} {pos : Pos} {Q : Args → Shared → Prop} {keywords : List (Option Str × Sem Value)} (hall : keywords.all (·.1.isSome) = true)
    (h : wpAny M A x (fun v s₁ => wpAny M A (evalAll (keywords.map (·.2))) (fun ks s₂ => PySem.W.StarOf M A E v (fun vs s₃ => Q ⟨vs, (keywords.filterMap (·.1)).zip ks⟩ s₃) s₂) E s₁) E s) :
    wpAny M A (evalArgs f true [(true, (do let v ← x; standAt pos; pure v))] keywords) Q E s := by
  unfold evalArgs
  refine wpAny_bind (wpAny_bind (wpAny_mono h (fun v s₁ h₁ => wpAny_bind (wpAny_standAt (wpAny_pure ?_))) fun _ _ x => x))
  refine wpAny_holding ?_
  simp only [hall, if_true]
  refine wpAny_bind (wpAny_mono h₁ (fun ks s₂ h₂ => ?_) fun _ _ x => x)
  unfold PySem.W.StarOf at h₂
  refine wpAny_bind (wpAny_bind (wpAny_mono h₂ (fun b s₃ h₃ => ?_) fun _ _ x => x))
  obtain ⟨rfl, h₃⟩ := h₃
  have z := wpAny_holding (vs := (((keywords.filterMap (·.1)).zip ks).map (·.2))) (wpAny_mono h₃ (fun vs s₃ h₃ => (wpAny_pure h₃ : wpAny M A (pure (⟨vs, (keywords.filterMap (·.1)).zip ks⟩ : Args)) Q E s₃)) fun _ _ x => x)
  try simp only [Bool.false_eq_true, if_false]
  first
    | exact z
    | exact wpAny_bind (wpAny_pure z)
end
/-- C(*y, k = v, ..) -/
def tMakeS (K : PySem.W.Frag) (C : Addr) (sp : Sp2) (m : Nat) (E : L2.St → XK) (te : TE) (tk : TA) : TE := fun σ H Q => te σ H fun y H1 => tk σ H1 fun zs H2 => ∃ b vs, y = .ref b ∧ (SqT K H2 b vs ∨ SqL K H2 b vs) ∧ zs.length = m ∧
  ∀ x dx, H2 x = none → H2 dx = none → dx ≠ x → sp (.ref x :: vs) zs (upd (upd H2 dx (.own x)) x (.ins C dx [])) (fun v H3 => v = .non ∧ Q (.ref x) H3) (E σ)
theorem pe_makeS {X : Cx} {CX : CXT} {k : Nat} {f C : Addr} {ks : List Str} {sp : Sp2} {E : L2.St → XK} {x : Str} {p pos p2 : Pos} {e : Expr} {kws : List Keyword} {te : TE} {tk : TA} (M : Mk X.K C f) (F : FnK X.prog X.w X.K X.mg X.base CX k f ks sp) (hr : Room (k + 1) X.A) (hg : Gl X x) (hm : X.mg x = some (.ref C)) (hx : ∀ σ, PassesAt CX X σ (E σ))
    (he : PE X e te) (hkw : PK X kws tk) (hall : (backToKw pos (keywordEach kws X.env)).all (·.1.isSome) = true) (hks : (backToKw pos (keywordEach kws X.env)).filterMap (·.1) = ks)
    (hdb : (x == ("__debug__" : Str)) = false) (hst : starEach [.Starred e p2] X.env = [(true, eval e X.env)]) : PE X (.Call (.Name x p) [.Starred e p2] kws pos) (tMakeS X.K C sp ks.length E te tk) := by
  refine ⟨fun pins s σ H Q I h => ?_⟩
  refine wpAny_Call_Name_kw (ld_glob I hg hm ?_ hdb)
  rw [hst]
  refine ks_callKW (P := fun h => X.K.In h) rfl (PySem.W.keeps_K M.kp) ?_
  refine ks_loneKW hall (thn (he.run pins s σ H _ I h) fun v2 s4 ⟨y2, H3, I4, ry2, q3⟩ => ?_)
  refine thn (hkw.run pos pins s4 σ H3 _ I4 q3) fun ws s6 ⟨zs, H4, I6, rz, t, vs, ey, ht, l, q5⟩ => ?_
  subst ey
  obtain rfl : v2 = Value.ref t := ry2
  refine StX.star_any I6 ht fun us s5 I5 rv => ⟨I5.kIn, ?_⟩
  rw [hks]
  have := run_makeK (us := us) (vs := vs) M F hr (hx σ) I5 rv rz l q5
  simpa using this
end R7
namespace M7
open PySem PySem.Spec PyProof.Rows L2
section
variable {w : WD} {W : WX} {π : Nat → V} {B B' B1 Z : Hp} {g : G} {σ : L2.St} {H H' : Hp} {v : V}
theorem re_makeS {c : CN} {φ : Fn} {m : Nat} {gV : List V → List V} {gD : List D → List D} {E : L2.St → XK} {te : TE} {tk : TA} {se : SE} {sk : SA} (hE : ∀ σ cls d H', W cls d σ H' → E σ cls d H') (hG : GV w m gV gD) (h : RE w W te se) (k : RA w W tk sk) :
    RE w W (R7.tMakeS w.K (w.cls c) (spStar w φ gV) m E te tk) (seMakeS c φ m gD se sk) := fun π B Z g σ H Q s q =>
  h π B Z g σ H _ s (tailE.bE q fun o d g1 v B1 H1 e1 s1 r1 q1 => by
    split at q1
    · rename_i ds hi
      obtain ⟨B3, e3, s3, dn⟩ := r1.freeze s1
      refine k π B3 Z g1 σ H1 _ s3 (tailE.bA (q1.mono e3) fun ks g2 zs B4 H4 e4 s4 r4 q4 => ?_)
      obtain ⟨b, vs, rfl, hb, hx⟩ := lk_seq s4.sub (dn.mono e4) hi
      refine ⟨b, vs, rfl, hb, ?_⟩
      split at q4
      · rename_i es he
        exact re_mkO (hE σ) hG s4 hx (r4.datas he) q4
      · exact q4.elim
    · exact q1.elim)
end
end M7
/-! Classes called, methods, properties, class methods. -/
namespace M7
open PySem PySem.Spec PyProof.Rows L2
abbrev callO (φ : Fn) (rs : List Ref) (g1 : G) : O (Bool × D) := if distinct (lentOf g1 rs) = true then match argsOf g1 rs with
  | some as => match φ as with
    | .ret o d bk => .ok (o, d) (giveBack g1 rs bk)
    | .ex x f bk => .ex x f (giveBack g1 rs bk)
    | .fail => .fail
  | none => .fail else .fail
section
variable {w : WD} {W : WX} {π : Nat → V} {B B' B1 Z : Hp} {g : G} {σ : L2.St} {H H' : Hp} {v : V}
/-- o.m(..): the def found by the object's class -/
def tMethM (w : WD) (tb : Addr → Fn → Prop) (m : Str) (E : L2.St → XK) (ta : TE) (t : TA) : TE := fun σ H Q => ta σ H fun x H1 => ∃ a C dx fs φ, x = .ref a ∧ H1 a = some (.ins C dx fs) ∧ tb C φ ∧ fs.lookup m = none ∧ t σ H1 fun vs H2 => spD w φ (x :: vs) H2 Q (E σ)
def tPropM (w : WD) (tb : Addr → Fn → Prop) (ta : TE) : TE := fun σ H Q => ta σ H fun x H1 => ∃ a C dx fs φ, x = .ref a ∧ H1 a = some (.ins C dx fs) ∧ tb C φ ∧ spD w φ [x] H1 Q fun _ _ _ => True
def seMeth (m : Str) (tb : CN → Option Fn) (sb : SB) (sa : SA) : SE := fun g => (sb g).bind fun r g1 => match r.get g1 with
  | some (.obj c fs) => match tb c with
    | some φ => if fs.lookup m = none then (sa g1).bind fun rs g2 => callO φ (r :: rs) g2 else .fail
    | none => .fail
  | _ => .fail
def seProp (tb : CN → Option Fn) (sb : SB) : SE := fun g => (sb g).bind fun r g1 => match r.get g1 with
  | some (.obj c _) => match tb c with
    | some φ => callO φ [r] g1
    | none => .fail
  | _ => .fail
theorem re_meth {m : Str} {tb : CN → Option Fn} {tB : Addr → Fn → Prop} {E : L2.St → XK} {ta : TE} {t : TA} {sb : SB} {sa : SA} (hE : ∀ σ cls d H', W cls d σ H' → E σ cls d H') (ht : ∀ c φ, tb c = some φ → tB (w.cls c) φ) (h : RB w W ta sb) (k : RA w W t sa) :
    RE w W (tMethM w tB m E ta t) (seMeth m tb sb sa) := fun π B Z g σ H Q s q =>
  h π B Z g σ H _ s (tailE.bB q fun r g1 v B1 H1 e1 s1 r1 q1 => by
    split at q1
    · rename_i c fs hr
      split at q1
      · rename_i φ hφ
        split at q1
        · rename_i hl
          obtain ⟨a, dx, ns, vs, ds, rfl, ha, hn, hx, rfl⟩ := lk_obj s1.sub (s1.lk r1 hr)
          exact ⟨a, w.cls c, dx, _, φ, rfl, ha, ht c φ hφ, zip_lookup_none hn hx hl, k π B1 Z g1 σ H1 _ s1 (tailE.bA q1 fun rs g2 us B2 H2 e2 s2 r2 q2 => call_D s2 (.cons (r1.mono e2) r2) (hE σ) q2)⟩
        · exact q1.elim
      · exact q1.elim
    · exact q1.elim)
theorem re_prop {tb : CN → Option Fn} {tB : Addr → Fn → Prop} {ta : TE} {sb : SB} (ht : ∀ c φ, tb c = some φ → tB (w.cls c) φ) (h : RB w W ta sb) : RE w W (tPropM w tB ta) (seProp tb sb) := fun π B Z g σ H Q s q =>
  h π B Z g σ H _ s (tailE.bB q fun r g1 v B1 H1 e1 s1 r1 q1 => by
    split at q1
    · rename_i c fs hr
      split at q1
      · rename_i φ hφ
        obtain ⟨a, dx, ns, vs, ds, rfl, ha, hn, hx, rfl⟩ := lk_obj s1.sub (s1.lk r1 hr)
        exact ⟨a, w.cls c, dx, _, φ, rfl, ha, ht c φ hφ, call_D s1 (.cons r1 .nil) (fun _ _ _ _ => trivial) q1⟩
      · exact q1.elim
    · exact q1.elim)
/-! the rules -/
theorem run_X {X : Cx} {gb : Bool} {CX : CXT} {k : Nat} {f : Addr} {fd : FuncData} {ps : List Str} {sp : Sp} {E : XK} {pins : List (Addr × Obj)} {s : Shared} {Q : VK} {us : List Value} {vs : List V} (F : FnX gb X.prog X.w X.K X.mg X.base CX k f fd ps sp) (hgd : Gd gb X.A) (hr : Room k X.A) (hb : Binds X.K fd ps [])
    (hx : PassesAt CX X σ E) (I : Inv X pins σ H s) (r : Vals vs us) (h : sp vs H Q E) : wpAny (model X.prog X.w) X.A (call (.ref f) us) (EP X pins σ Q) X.xe s := by
  have hl : (us ++ []).length = ps.length := by rw [List.append_nil, ← r.length]; exact F.len _ _ _ _ h
  refine wpAny_call (codeAny_mono (F.go X.A X.stack s H ⟨us, []⟩ us vs Q E hgd hr I.env0 ?_ r h) fun res s2 hq => ?_)
  · have := hb s us I.kIn hl
    rwa [List.append_nil] at this
  · cases res with
    | error e => exact hx pins H s e s2 I hq
    | ok fl =>
      cases fl with
      | ret u => exact I.after hq
      | next => exact hq.elim
      | brk => exact hq.elim
      | cont => exact hq.elim
/-- what stands behind a method's table -/
def MtOk (gb : Bool) (P : Program) (wl : World) (mg : Str → Option Value) (base : Heap) (w : WD) (CX : CXT) (k : Nat) (m : Str) (tB : Addr → Fn → Prop) : Prop :=
  ∀ C φ, tB C φ → Cls w.K C ∧ ∃ f fd ps, Meth w.K C m f ∧ FnX gb P wl w.K mg base CX k f fd ps (spD w φ) ∧ Binds w.K fd ps []
theorem pe_methM {X : Cx} {gb : Bool} {CX : CXT} {k : Nat} {m : Str} {tB : Addr → Fn → Prop} {E : L2.St → XK} {o e : Expr} {es : List Expr} {ta : TE} {t : TA} {apos pos : Pos} {pl : Sem Bool} (hK : X.K = w.K) (he : PE X o ta) (M : MtOk gb X.prog X.w X.mg X.base w CX k m tB) (hgd : Gd gb X.A) (hr : Room k X.A) (hx : ∀ σ, PassesAt CX X σ (E σ)) (ha : PA X (e :: es) t)
    (hst : starEach (e :: es) X.env = (false, eval e X.env) :: starEach es X.env) (hpl : (backTo pos (starEach es X.env)).any (·.1) = false)
    (ht : eval (.Call (.Attribute o m apos) (e :: es) [] pos) X.env = (do
      let ov ← eval o X.env
      standAt apos.atName
      let (f, first) ← holding [ov] (getMethod ov m pl)
      callWith pos f first (backTo pos (starEach (e :: es) X.env)) (backToKw pos (keywordEach [] X.env)))) :
    PE X (.Call (.Attribute o m apos) (e :: es) [] pos) (tMethM w tB m E ta t) := by
  refine ⟨fun pins s σ H Q I h => ?_⟩
  refine PySem.W.methodCall_KW (pl := pl) (thn (he.run pins s σ H _ I h) fun u s1 ⟨x, H1, I1, rx, a, C, dx, fs, φ, ex, ea, hb, l, q⟩ => ?_) ht
  subst ex
  obtain rfl : u = Value.ref a := rx
  obtain ⟨c, f, fd, ps, hm, F, hbd⟩ := M C φ hb
  rw [← hK] at c hm F hbd
  refine getmeth_ok I1 ea c hm l ?_
  refine PySem.W.callWith_K (first := [.ref a]) (h₀ := X.base) I.ok.mod.kin hm.kp (thn (ha.run pos pins s1 σ H1 _ I1 q) fun us s2 ⟨vs, H2, I2, r, q2⟩ => ⟨I2.kIn, ?_⟩) hst hpl
  exact run_X (us := .ref a :: us) (vs := .ref a :: vs) F hgd hr hbd (hx σ) I2 (.cons rfl r) q2
theorem pe_methM0 {X : Cx} {gb : Bool} {CX : CXT} {k : Nat} {m : Str} {tB : Addr → Fn → Prop} {E : L2.St → XK} {o : Expr} {ta : TE} {apos pos : Pos} {pl : Sem Bool} (hK : X.K = w.K) (he : PE X o ta) (M : MtOk gb X.prog X.w X.mg X.base w CX k m tB) (hgd : Gd gb X.A) (hr : Room k X.A) (hx : ∀ σ, PassesAt CX X σ (E σ))
    (ht : eval (.Call (.Attribute o m apos) [] [] pos) X.env = (do
      let ov ← eval o X.env
      standAt apos.atName
      let (f, first) ← holding [ov] (getMethod ov m pl)
      callWith pos f first (backTo pos (starEach [] X.env)) (backToKw pos (keywordEach [] X.env)))) :
    PE X (.Call (.Attribute o m apos) [] [] pos) (tMethM w tB m E ta tNil) := by
  refine ⟨fun pins s σ H Q I h => ?_⟩
  refine PySem.W.methodCall_KW (pl := pl) (thn (he.run pins s σ H _ I h) fun u s1 ⟨x, H1, I1, rx, a, C, dx, fs, φ, ex, ea, hb, l, q⟩ => ?_) ht
  subst ex
  obtain rfl : u = Value.ref a := rx
  obtain ⟨c, f, fd, ps, hm, F, hbd⟩ := M C φ hb
  rw [← hK] at c hm F hbd
  refine getmeth_ok I1 ea c hm l ?_
  exact PySem.W.callWith_K0 (first := [.ref a]) I1.kIn hm.kp (run_X (us := [.ref a]) (vs := [.ref a]) F hgd hr hbd (hx σ) I1 (.cons rfl .nil) q)
def PrOk (P : Program) (wl : World) (mg : Str → Option Value) (base : Heap) (w : WD) (k : Nat) (f : Str) (tB : Addr → Fn → Prop) : Prop :=
  ∀ C φ, tB C φ → Cls w.K C ∧ ∃ p gt fd ps, PropOf w.K C f p gt ∧ FnOk P wl w.K mg base CX0 k gt fd ps (spD w φ) ∧ Binds w.K fd ps []
theorem pe_propM {X : Cx} {k : Nat} {f : Str} {tB : Addr → Fn → Prop} {e : Expr} {ta : TE} {pos : Pos} (hK : X.K = w.K) (he : PE X e ta) (M : PrOk X.prog X.w X.mg X.base w k f tB) (hr : Room (k + 1) X.A) (hab : attributeBase e f X.env (eval e X.env) = eval e X.env) : PE X (.Attribute e f pos) (tPropM w tB ta) := by
  refine ⟨fun pins s σ H Q I h => ?_⟩
  refine attr_of hab (thn (he.run pins s σ H _ I h) fun u s1 ⟨x, H1, I1, rx, a, C, dx, fs, φ, ex, ea, hb, q⟩ => ?_)
  subst ex
  obtain rfl : u = Value.ref a := rx
  obtain ⟨c, p, gt, fd, ps, hp, F, hbd⟩ := M C φ hb
  rw [← hK] at c hp F hbd
  exact getprop_ok (dvs := []) I1 ea c hp F hr hbd .nil (fun _ _ _ _ _ _ _ z => z.elim) q
/-! the judgements -/
/-- a method's defs by classes; b: they may raise -/
structure Mets (P : Program) (wl : World) (mg : Str → Option Value) (base : Heap) (w : WD) (gb b : Bool) (k : Nat) (m : Str) (tb : CN → Option Fn) : Prop where
  ex : ∀ c φ, tb c = some φ → Cls w.K (w.cls c) ∧ ∃ f, Meth w.K (w.cls c) m f ∧ Def P wl mg base w gb b k f φ
structure Prps (P : Program) (wl : World) (mg : Str → Option Value) (base : Heap) (w : WD) (k : Nat) (m : Str) (tb : CN → Option Fn) : Prop where
  ex : ∀ c φ, tb c = some φ → Cls w.K (w.cls c) ∧ ∃ p f, PropOf w.K (w.cls c) m p f ∧ Def P wl mg base w false false k f φ
variable {ι : Type} {XS : ι → Cx} {P : Program} {wl : World} {mg : Str → Option Value} {base : Heap} {gb gb' b : Bool} {n k : Nat} {m x : Str} {e o : Expr} {es : List Expr} {kws : List Keyword} {sb : SB} {se : SE} {args sk : SA} {p p2 apos pos kpos : Pos}
def tbOf (w : WD) (tb : CN → Option Fn) : Addr → Fn → Prop := fun C φ => ∃ c, C = w.cls c ∧ tb c = some φ
theorem Mets.ok {tb : CN → Option Fn} (M : Mets P wl mg base w gb b k m tb) : MtOk gb P wl mg base w (CXb b P wl) k m (tbOf w tb) := fun C φ ⟨c, e, h⟩ => by
  subst e
  obtain ⟨h1, f, h2, fd, ps, h3, h4, _⟩ := M.ex c φ h
  exact ⟨h1, f, fd, ps, h2, h3, h4⟩
theorem de_meth {tb : CN → Option Fn} {pl : ι → Sem Bool} (F : Fam P wl mg base w gb n XS) (tk : Tk b XS W) (M : Mets P wl mg base w gb' b k m tb) (h : DB XS w W o sb) (ha : DA XS w W (e :: es) args) (hgb : gb' = true → gb = true := by decide) (hk : k ≤ n := by decide)
    (hst : ∀ i, starEach (e :: es) (XS i).env = (false, eval e (XS i).env) :: starEach es (XS i).env := by intro _; rfl) (hpl : ∀ i, (backTo pos (starEach es (XS i).env)).any (·.1) = false := by intro _; rfl)
    (ht : ∀ i, eval (.Call (.Attribute o m apos) (e :: es) [] pos) (XS i).env = (do
      let ov ← eval o (XS i).env
      standAt apos.atName
      let (f, first) ← holding [ov] (getMethod ov m (pl i))
      callWith pos f first (backTo pos (starEach (e :: es) (XS i).env)) (backToKw pos (keywordEach [] (XS i).env))) := by intro _; rfl) : DE XS w W (.Call (.Attribute o m apos) (e :: es) [] pos) (seMeth m tb sb args) := by
  obtain ⟨t, h1, h2⟩ := h
  obtain ⟨u, k1, k2⟩ := ha
  refine ⟨_, fun i => ?_, re_meth (E := WEb b W) (tB := tbOf w tb) WEb.of (fun c φ z => ⟨c, rfl, z⟩) h2 k2⟩
  have t1 := tk.at i
  rw [F.prog i, F.wl i] at t1
  exact pe_methM (F.K i) (h1 i) (by rw [F.prog i, F.wl i, F.mg i, F.base i]; exact M.ok) (fun z => F.gd i (hgb z)) ((F.room i).mono hk) t1 (k1 i) (hst i) (hpl i) (ht i)
theorem de_meth0 {tb : CN → Option Fn} {pl : ι → Sem Bool} (F : Fam P wl mg base w gb n XS) (tk : Tk b XS W) (M : Mets P wl mg base w gb' b k m tb) (h : DB XS w W o sb) (hgb : gb' = true → gb = true := by decide) (hk : k ≤ n := by decide)
    (ht : ∀ i, eval (.Call (.Attribute o m apos) [] [] pos) (XS i).env = (do
      let ov ← eval o (XS i).env
      standAt apos.atName
      let (f, first) ← holding [ov] (getMethod ov m (pl i))
      callWith pos f first (backTo pos (starEach [] (XS i).env)) (backToKw pos (keywordEach [] (XS i).env))) := by intro _; rfl) : DE XS w W (.Call (.Attribute o m apos) [] [] pos) (seMeth m tb sb saNil) := by
  obtain ⟨t, h1, h2⟩ := h
  refine ⟨_, fun i => ?_, re_meth (E := WEb b W) (tB := tbOf w tb) WEb.of (fun c φ z => ⟨c, rfl, z⟩) h2 ra_nil⟩
  have t1 := tk.at i
  rw [F.prog i, F.wl i] at t1
  exact pe_methM0 (F.K i) (h1 i) (by rw [F.prog i, F.wl i, F.mg i, F.base i]; exact M.ok) (fun z => F.gd i (hgb z)) ((F.room i).mono hk) t1 (ht i)
theorem de_prop {tb : CN → Option Fn} (F : Fam P wl mg base w gb n XS) (M : Prps P wl mg base w k m tb) (h : DB XS w W o sb) (hk : k + 1 ≤ n := by decide) (hab : ∀ i, attributeBase o m (XS i).env (eval o (XS i).env) = eval o (XS i).env := by intro _; rfl) : DE XS w W (.Attribute o m pos) (seProp tb sb) := by
  obtain ⟨t, h1, h2⟩ := h
  refine ⟨_, fun i => ?_, re_prop (tB := tbOf w tb) (fun c φ z => ⟨c, rfl, z⟩) h2⟩
  refine pe_propM (F.K i) (h1 i) ?_ ((F.room i).mono hk) (hab i)
  rw [F.prog i, F.wl i, F.mg i, F.base i]
  rintro C φ ⟨c, rfl, z⟩
  obtain ⟨q1, p, f, q2, fd, ps, q3, q4, _⟩ := M.ex c φ z
  exact ⟨q1, p, f, fd, ps, q2, q3.ok, q4⟩
end
end M7
/-! Keywords, classes called, class methods, global constants. -/
namespace R7
open PySem PySem.Spec PyProof.Rows L2
/-- c(*y), c a local name that holds the class at C -/
def tMakeSv (K : PySem.W.Frag) (C : Addr) (sp : Sp2) (i : Nat) (E : L2.St → XK) (te : TE) : TE := fun σ H Q => σ[i]? = some (some (.ref C)) ∧ te σ H fun y H1 => ∃ b vs, y = .ref b ∧ (SqT K H1 b vs ∨ SqL K H1 b vs) ∧
  ∀ x dx, H1 x = none → H1 dx = none → dx ≠ x → sp (.ref x :: vs) [] (upd (upd H1 dx (.own x)) x (.ins C dx [])) (fun v H3 => v = .non ∧ Q (.ref x) H3) (E σ)
theorem pe_makeSv {X : Cx} {CX : CXT} {k i : Nat} {f C : Addr} {sp : Sp2} {E : L2.St → XK} {x : Str} {p pos p2 : Pos} {e : Expr} {te : TE} (M : Mk X.K C f) (F : FnK X.prog X.w X.K X.mg X.base CX k f [] sp) (hr : Room (k + 1) X.A) (hN : X.N[i]? = some x) (hv : Vis X.env.scope x) (hx : ∀ σ, PassesAt CX X σ (E σ))
    (he : PE X e te) (hdb : (x == ("__debug__" : Str)) = false) (hcd : (x == ("__classdict__" : Str)) = false) (hst : starEach [.Starred e p2] X.env = [(true, eval e X.env)]) : PE X (.Call (.Name x p) [.Starred e p2] [] pos) (tMakeSv X.K C sp i E te) := by
  refine ⟨fun pins s σ H Q I h => ?_⟩
  obtain ⟨hσ, h⟩ := h
  refine wpAny_Call_Name_kw (raw_name hN hv I hσ (fun u r => ?_) hdb hcd)
  obtain rfl : u = Value.ref C := r
  rw [hst]
  refine PySem.W.ks_call (P := fun h => X.K.In h) rfl (PySem.W.keeps_K M.kp) ?_
  refine PySem.W.ks_lone (thn (he.run pins s σ H _ I h) fun v2 s4 ⟨y2, H3, I4, ry2, t, vs, ey, ht, q5⟩ => ?_)
  subst ey
  obtain rfl : v2 = Value.ref t := ry2
  refine StX.star_any I4 ht fun us s5 I5 rv => ⟨I5.kIn, ?_⟩
  have := run_makeK (us := us) (ws := []) (vs := vs) (zs := []) M F hr (hx σ) I5 rv .nil rfl q5
  simpa using this
/-- e.m(..), e the class at C, m a class method -/
def tCMethS (C : Addr) (sp : Sp) (E : L2.St → XK) (ta : TE) (t : TA) : TE := fun σ H Q => ta σ H fun x H1 => x = .ref C ∧ t σ H1 fun vs H2 => sp (.ref C :: vs) H2 Q (E σ)
theorem pe_cmethS {X : Cx} {C p g : Addr} {mc : Value} {sp : Sp} {E : L2.St → XK} {o e : Expr} {es : List Expr} {m : Str} {pos apos : Pos} {ta : TE} {t : TA} {pl : Sem Bool} (he : PE X o ta) (r : ClX.CRead X.K C mc) (c : ClX.CMet X.K C mc m p g)
    (F : ∀ {pins : List (Addr × Obj)} {σ : L2.St} {H : Hp} {s : Shared} {Q : VK} {us : List Value} {vs : List V}, Inv X pins σ H s → Vals vs us → sp vs H Q (E σ) → codeAny (model X.prog X.w) X.A (.call (.ref g) ⟨us, []⟩) (fun r s' => match r with | .ok (.ret v) => EP X pins σ Q v s' | .ok _ => False | .error e => X.xe e s') s) (ha : PA X (e :: es) t)
    (hst : starEach (e :: es) X.env = (false, eval e X.env) :: starEach es X.env) (hpl : (backTo pos (starEach es X.env)).any (·.1) = false)
    (ht : eval (.Call (.Attribute o m apos) (e :: es) [] pos) X.env = (do
      let ov ← eval o X.env
      standAt apos.atName
      let (f, first) ← holding [ov] (getMethod ov m pl)
      callWith pos f first (backTo pos (starEach (e :: es) X.env)) (backToKw pos (keywordEach [] X.env)))) :
    PE X (.Call (.Attribute o m apos) (e :: es) [] pos) (tCMethS C sp E ta t) := by
  refine ⟨fun pins s σ H Q I h => ?_⟩
  refine PySem.W.methodCall_KW (pl := pl) (thn (he.run pins s σ H _ I h) fun u s1 ⟨x, H1, I1, rx, ex, q⟩ => ?_) ht
  subst ex
  obtain rfl : u = Value.ref C := rx
  refine ClX.getmethcm_ok I1 r c fun s2 I2 => ?_
  refine ClX.callwith_cm I2 (ClX.base_none I1 (Nat.le_refl _)) c.fi (thn (ha.run pos _ s2 σ H1 _ I2 q) fun us s3 ⟨vs, H2, I3, rv, q2⟩ => ⟨⟨ClX.pin_at I3, I3.kIn⟩, ?_⟩) hst hpl
  have z := wpAny_call (PySem.W.method_call (ClX.pin_at I3) (F I3 (us := .ref C :: us) (vs := .ref C :: vs) (.cons rfl rv) q2))
  exact thn z fun _ _ y => ClX.unpinE y
end R7
namespace M7
open PySem PySem.Spec PyProof.Rows L2
section
variable {w : WD} {W : WX} {π : Nat → V} {B B' B1 Z : Hp} {g : G} {σ : L2.St} {H H' : Hp} {v : V}
def seMakeSv (c : CN) (φ : Fn) (gD : List D → List D) (i : Nat) (se : SE) : SE := fun g => match g[i]? with
  | some (some (.f, .cls c')) => if c' = c then (se g).bind fun r g1 => match seqOf r.2 with
    | some ds => mkO c φ 0 gD ds [] g1
    | none => .fail else .fail
  | _ => .fail
theorem re_makeSv {c : CN} {φ : Fn} {i : Nat} {gV : List V → List V} {gD : List D → List D} {E : L2.St → XK} {te : TE} {se : SE} (hE : ∀ σ cls d H', W cls d σ H' → E σ cls d H') (hG : GV w 0 gV gD) (h : RE w W te se) :
    RE w W (R7.tMakeSv w.K (w.cls c) (spStar w φ gV) i E te) (seMakeSv c φ gD i se) := fun π B Z g σ H Q s q => by
  unfold seMakeSv at q
  split at q
  · rename_i c' hi
    split at q
    · rename_i hc
      subst hc
      obtain ⟨v, h1, h2⟩ := s.fz i .f _ hi rfl
      cases h2
      refine ⟨h1, h π B Z g σ H _ s (tailE.bE q fun o d g1 v B1 H1 e1 s1 r1 q1 => ?_)⟩
      split at q1
      · rename_i ds hd
        obtain ⟨B3, e3, s3, dn⟩ := r1.freeze s1
        obtain ⟨b, vs, rfl, hb, hx⟩ := lk_seq s3.sub dn hd
        exact ⟨b, vs, rfl, hb, (re_mkO (hE σ) hG s3 hx .nil (q1.mono e3)).2⟩
      · exact q1.elim
    · exact q.elim
  · exact q.elim
def saD (d : D) (sa : SA) : SA := fun g => (sa g).bind fun rs g1 => .ok (.dt d :: rs) g1
theorem re_cmeth {c : CN} {φ : Fn} {E : L2.St → XK} {ta : TA} {sa : SA} (hE : ∀ σ cls d H', W cls d σ H' → E σ cls d H') (h : RA w W ta sa) : RE w W (R7.tCMethS (w.cls c) (spD w φ) E (tC (.ref (w.cls c))) ta) (seCall φ (saD (.cls c) sa)) := fun π B Z g σ H Q s q => by
  refine ⟨rfl, h π B Z g σ H _ s (tailE.bA (k := fun rs g1 => callO φ (.dt (.cls c) :: rs) g1) ?_ fun rs g1 vs B1 H1 e1 s1 r1 q1 => call_D s1 (.cons (show RefOk w B1 σ _ (.dt (.cls c)) from Den.cls c) r1) (hE σ) q1)⟩
  unfold seCall saD at q
  cases hs : sa g with
  | ok rs g1 => rw [hs] at q; exact q
  | ex x f g1 => rw [hs] at q; exact q
  | fail => rw [hs] at q; exact q
end
section
variable {w : WD} {W : WX} {ι : Type} {XS : ι → Cx} {P : Program} {wl : World} {mg : Str → Option Value} {base : Heap} {gb gb' b : Bool} {n k : Nat} {m x : Str} {e o : Expr} {es : List Expr} {kws : List Keyword} {sb : SB} {se : SE} {args sk : SA} {p p2 apos pos kpos : Pos}
def DK (XS : ι → Cx) (w : WD) (W : WX) (kws : List Keyword) (sa : SA) : Prop := ∃ t, (∀ i, PK (XS i) kws t) ∧ RA w W t sa
theorem dk_nil : DK XS w W [] saNil := ⟨_, fun _ => pk_nil, ra_nil⟩
theorem dk_cons {nm : Option Str} (h : DB XS w W e sb) (k : DK XS w W kws args) : DK XS w W (⟨nm, e, kpos⟩ :: kws) (saCons sb args) := by
  obtain ⟨t, h1, h2⟩ := h
  obtain ⟨u, k1, k2⟩ := k
  exact ⟨_, fun i => pk_cons (h1 i) (k1 i), ra_cons h2 k2⟩
/-- a class whose __init__ takes a star and the keywords ks -/
structure Mak (P : Program) (wl : World) (mg : Str → Option Value) (base : Heap) (w : WD) (b : Bool) (k : Nat) (c : CN) (ks : List Str) (φ : Fn) (gD : List D → List D) : Prop where
  ex : ∃ (f : Addr) (gV : List V → List V), Mk w.K (w.cls c) f ∧ R7.FnK P wl w.K mg base (CXb b P wl) k f ks (spStar w φ gV) ∧ GV w ks.length gV gD
theorem de_make {c : CN} {ks : List Str} {φ : Fn} {gD : List D → List D} (F : Fam P wl mg base w gb n XS) (tk : Tk b XS W) (M : Mak P wl mg base w b k c ks φ gD) (hm : mg x = some (.ref (w.cls c))) (ha : DA XS w W (e :: es) args) (hkw : DK XS w W kws sk) (hk : k + 1 ≤ n := by decide) (hg : ∀ i, Gl (XS i) x := by intro _; rfl)
    (hall : ∀ i, (backToKw pos (keywordEach kws (XS i).env)).all (·.1.isSome) = true := by intro _; rfl) (hks : ∀ i, (backToKw pos (keywordEach kws (XS i).env)).filterMap (·.1) = ks := by intro _; rfl)
    (hdb : (x == ("__debug__" : Str)) = false := by decide) (he : ∀ i, starEach (e :: es) (XS i).env = (false, eval e (XS i).env) :: starEach es (XS i).env := by intro _; rfl)
    (hpl : ∀ i, ((backTo pos (starEach (e :: es) (XS i).env)).any (·.1) || (backToKw pos (keywordEach kws (XS i).env)).any (·.1.isNone)) = false := by intro _; rfl) :
    DE XS w W (.Call (.Name x p) (e :: es) kws pos) (seMake c φ ks.length gD args sk) := by
  obtain ⟨t, h1, h2⟩ := ha
  obtain ⟨u, k1, k2⟩ := hkw
  obtain ⟨f, gV, q1, q2, q3⟩ := M.ex
  refine ⟨_, fun i => ?_, re_make (E := WEb b W) WEb.of q3 h2 k2⟩
  have t1 := tk.at i
  rw [F.prog i, F.wl i] at t1
  exact R7.pe_makeK (CX := CXb b P wl) (by rw [F.K i]; exact q1) (by rw [F.prog i, F.wl i, F.K i, F.mg i, F.base i]; exact q2) ((F.room i).mono hk) (hg i) (by rw [F.mg i]; exact hm) t1 (h1 i) (k1 i) (hall i) (hks i) hdb (he i) (hpl i)
theorem de_makeS {c : CN} {ks : List Str} {φ : Fn} {gD : List D → List D} (F : Fam P wl mg base w gb n XS) (tk : Tk b XS W) (M : Mak P wl mg base w b k c ks φ gD) (hm : mg x = some (.ref (w.cls c))) (ha : DE XS w W e se) (hkw : DK XS w W kws sk) (hk : k + 1 ≤ n := by decide) (hg : ∀ i, Gl (XS i) x := by intro _; rfl)
    (hall : ∀ i, (backToKw pos (keywordEach kws (XS i).env)).all (·.1.isSome) = true := by intro _; rfl) (hks : ∀ i, (backToKw pos (keywordEach kws (XS i).env)).filterMap (·.1) = ks := by intro _; rfl)
    (hdb : (x == ("__debug__" : Str)) = false := by decide) (hst : ∀ i, starEach [.Starred e p2] (XS i).env = [(true, eval e (XS i).env)] := by intro _; rfl) :
    DE XS w W (.Call (.Name x p) [.Starred e p2] kws pos) (seMakeS c φ ks.length gD se sk) := by
  obtain ⟨t, h1, h2⟩ := ha
  obtain ⟨u, k1, k2⟩ := hkw
  obtain ⟨f, gV, q1, q2, q3⟩ := M.ex
  refine ⟨_, fun i => ?_, re_makeS (E := WEb b W) WEb.of q3 h2 k2⟩
  have t1 := tk.at i
  rw [F.prog i, F.wl i] at t1
  have z := R7.pe_makeS (CX := CXb b P wl) (ks := ks) (sp := spStar w φ gV) (x := x) (p := p) (pos := pos) (p2 := p2) (by rw [F.K i]; exact q1) (by rw [F.prog i, F.wl i, F.K i, F.mg i, F.base i]; exact q2) ((F.room i).mono hk) (hg i) (by rw [F.mg i]; exact hm) t1 (h1 i) (k1 i) (hall i) (hks i) hdb (hst i)
  rw [F.K i] at z
  exact z
theorem de_makeSv {c : CN} {φ : Fn} {gD : List D → List D} (j : Nat) (F : Fam P wl mg base w gb n XS) (tk : Tk b XS W) (M : Mak P wl mg base w b k c [] φ gD) (ha : DE XS w W e se) (hk : k + 1 ≤ n := by decide) (hN : ∀ i, (XS i).N[j]? = some x := by intro _; rfl) (hv : ∀ i, Vis (XS i).env.scope x := by intro _; first | exact Or.inl rfl | exact Or.inr (Or.inl rfl) | exact Or.inr (Or.inr rfl))
    (hdb : (x == ("__debug__" : Str)) = false := by decide) (hcd : (x == ("__classdict__" : Str)) = false := by decide) (hst : ∀ i, starEach [.Starred e p2] (XS i).env = [(true, eval e (XS i).env)] := by intro _; rfl) :
    DE XS w W (.Call (.Name x p) [.Starred e p2] [] pos) (seMakeSv c φ gD j se) := by
  obtain ⟨t, h1, h2⟩ := ha
  obtain ⟨f, gV, q1, q2, q3⟩ := M.ex
  refine ⟨_, fun i => ?_, re_makeSv (E := WEb b W) WEb.of q3 h2⟩
  have t1 := tk.at i
  rw [F.prog i, F.wl i] at t1
  have z := R7.pe_makeSv (CX := CXb b P wl) (sp := spStar w φ gV) (x := x) (p := p) (pos := pos) (p2 := p2) (by rw [F.K i]; exact q1) (by rw [F.prog i, F.wl i, F.K i, F.mg i, F.base i]; exact q2) ((F.room i).mono hk) (hN i) (hv i) t1 (h1 i) hdb hcd (hst i)
  rw [F.K i] at z
  exact z
/-- C.m(e, *y, k = v), __init__ of a base -/
structure Bas (P : Program) (wl : World) (mg : Str → Option Value) (base : Heap) (w : WD) (b : Bool) (k : Nat) (c : CN) (m : Str) (ks : List Str) (φ : Fn) (gD : List D → List D) : Prop where
  ex : ∃ (mc : Value) (f : Addr) (gV : List V → List V), ClX.CRead w.K (w.cls c) mc ∧ PySem.W.findCls w.K (.ref (w.cls c)) mc m = some (.val (.ref f)) ∧ PySem.W.keepIn w.K (.ref f) = true ∧ R7.FnK P wl w.K mg base (CXb b P wl) k f ks (spStar w φ gV) ∧ GV w ks.length gV gD
theorem de_clsS {e2 : Expr} {se2 : SE} {c : CN} {ks : List Str} {φ : Fn} {gD : List D → List D} (F : Fam P wl mg base w gb n XS) (tk : Tk b XS W) (M : Bas P wl mg base w b k c m ks φ gD) (hm : mg x = some (.ref (w.cls c))) (ha : DB XS w W e sb) (hb : DE XS w W e2 se2) (hkw : DK XS w W kws sk) (hk : k ≤ n := by decide) (hg : ∀ i, Gl (XS i) x := by intro _; rfl)
    (hall : ∀ i, (backToKw pos (keywordEach kws (XS i).env)).all (·.1.isSome) = true := by intro _; rfl) (hks : ∀ i, (backToKw pos (keywordEach kws (XS i).env)).filterMap (·.1) = ks := by intro _; rfl) (hdb : (x == ("__debug__" : Str)) = false := by decide)
    (hbase : ∀ i, attributeBase (.Name x p) m (XS i).env (eval (.Name x p) (XS i).env) = eval (.Name x p) (XS i).env := by intro _; rfl) (hst : ∀ i, starEach [e, .Starred e2 p2] (XS i).env = [(false, eval e (XS i).env), (true, eval e2 (XS i).env)] := by intro _; rfl) :
    DE XS w W (.Call (.Attribute (.Name x p) m apos) [e, .Starred e2 p2] kws pos) (seClsS φ ks.length gD sb se2 sk) := by
  obtain ⟨t, h1, h2⟩ := ha
  obtain ⟨t2, l1, l2⟩ := hb
  obtain ⟨u, k1, k2⟩ := hkw
  obtain ⟨mc, f, gV, q1, q2, q3, q4, q5⟩ := M.ex
  refine ⟨_, fun i => ?_, re_clsS (C := w.cls c) (E := WEb b W) WEb.of q5 h2 l2 k2⟩
  have t1 := tk.at i
  rw [F.prog i, F.wl i] at t1
  have z := R7.pe_clsS (CX := CXb b P wl) (ks := ks) (sp := spStar w φ gV) (p := p2) (apos := apos) (pos := pos) (pe_glob (X := XS i) (v := .ref (w.cls c)) (pos := p) (hg i) (by rw [F.mg i]; exact hm) rfl hdb) (by rw [F.K i]; exact q1) (by rw [F.K i]; exact q2) (by rw [F.K i]; exact q3) (by rw [F.prog i, F.wl i, F.K i, F.mg i, F.base i]; exact q4) ((F.room i).mono hk) t1 (h1 i) (l1 i) (k1 i) (hall i) (hks i) (hbase i) (hst i)
  rw [F.K i] at z
  exact z
/-- C.m(..), m a class method -/
structure Cmt (P : Program) (wl : World) (mg : Str → Option Value) (base : Heap) (w : WD) (b : Bool) (k : Nat) (c : CN) (m : Str) (φ : Fn) : Prop where
  ex : ∃ (mc : Value) (p f : Addr), ClX.CRead w.K (w.cls c) mc ∧ ClX.CMet w.K (w.cls c) mc m p f ∧ Def P wl mg base w false b k f φ
theorem de_cmeth {c : CN} {φ : Fn} {pl : ι → Sem Bool} (F : Fam P wl mg base w gb n XS) (tk : Tk b XS W) (M : Cmt P wl mg base w b k c m φ) (hm : mg x = some (.ref (w.cls c))) (ha : DA XS w W (e :: es) args) (hk : k ≤ n := by decide) (hg : ∀ i, Gl (XS i) x := by intro _; rfl) (hdb : (x == ("__debug__" : Str)) = false := by decide)
    (hst : ∀ i, starEach (e :: es) (XS i).env = (false, eval e (XS i).env) :: starEach es (XS i).env := by intro _; rfl) (hpl : ∀ i, (backTo pos (starEach es (XS i).env)).any (·.1) = false := by intro _; rfl)
    (ht : ∀ i, eval (.Call (.Attribute (.Name x p) m apos) (e :: es) [] pos) (XS i).env = (do
      let ov ← eval (.Name x p) (XS i).env
      standAt apos.atName
      let (f, first) ← holding [ov] (getMethod ov m (pl i))
      callWith pos f first (backTo pos (starEach (e :: es) (XS i).env)) (backToKw pos (keywordEach [] (XS i).env))) := by intro _; rfl) : DE XS w W (.Call (.Attribute (.Name x p) m apos) (e :: es) [] pos) (seCall φ (saD (.cls c) args)) := by
  obtain ⟨t, h1, h2⟩ := ha
  obtain ⟨mc, q, f, k1, k2, fd, ps, k4, k5, k6⟩ := M.ex
  refine ⟨_, fun i => ?_, re_cmeth (c := c) (E := WEb b W) WEb.of h2⟩
  have t1 := tk.at i
  rw [F.prog i, F.wl i] at t1
  refine R7.pe_cmethS (pe_glob (X := XS i) (v := .ref (w.cls c)) (pos := p) (hg i) (by rw [F.mg i]; exact hm) rfl hdb) (by rw [F.K i]; exact k1) (by rw [F.K i]; exact k2) (fun {pins σ H s Q us vs} I r h => ?_) (h1 i) (hst i) (hpl i) (ht i)
  have hl : (us ++ []).length = ps.length := by rw [List.append_nil, ← r.length]; exact k4.len _ _ _ _ h
  have k4' : FnX false (XS i).prog (XS i).w (XS i).K (XS i).mg (XS i).base (CXb b P wl) k f fd ps (spD w φ) := by rw [F.prog i, F.wl i, F.K i, F.mg i, F.base i]; exact k4
  have k5' : Binds (XS i).K fd ps [] := by rw [F.K i]; exact k5
  refine codeAny_mono (k4'.go (XS i).A (XS i).stack s H ⟨us, []⟩ us vs Q _ (fun z => nomatch z) ((F.room i).mono hk) I.env0 ?_ r h) fun res s2 hq => ?_
  · have := k5' s us I.kIn hl
    rwa [List.append_nil] at this
  · cases res with
    | error er => exact t1 σ pins H s er s2 I hq
    | ok fl =>
      cases fl with
      | ret u => exact I.after hq
      | next => exact hq.elim
      | brk => exact hq.elim
      | cont => exact hq.elim
/-- a constant of a module -/
structure Gcn (w : WD) (mg : Str → Option Value) (x : Str) (d : D) : Prop where
  ex : ∃ (v : V) (u : Value), mg x = some u ∧ RelV v u ∧ ∀ B, Den w B v d
theorem re_gc {v : V} {d : D} (hd : ∀ B, Den w B v d) : RE w W (tC v) (seC d) := fun π B Z g σ H Q s q => q v B H (Ext.refl _) s (hd B)
theorem de_gc {d : D} (h : Gcn w mg x d) (hm : ∀ i, (XS i).mg = mg := by intro _; rfl) (hg : ∀ i, Gl (XS i) x := by intro _; rfl) (hdb : (x == ("__debug__" : Str)) = false := by decide) : DE XS w W (.Name x pos) (seC d) := by
  obtain ⟨v, u, h1, h2, h3⟩ := h.ex
  exact ⟨_, fun i => pe_glob (hg i) (by rw [hm i]; exact h1) h2 hdb, re_gc h3⟩
end
end M7
/-! Dicts. -/
namespace M7
open PySem PySem.Spec PyProof.Rows L2
def valD (kvs : List (Key × D)) (k : Key) : Option D := (kvs.find? fun kv => decide (kv.1 = k)).map (·.2)
def keyD : D → Option Key
  | .int i => some (.inl i)
  | .str x => some (.inr x)
  | _ => none
def putKD (kvs : List (Key × D)) (k : Key) (v : D) : List (Key × D) :=
  if (kvs.any fun kv => decide (kv.1 = k)) = true then kvs.map (fun kv => if kv.1 = k then (kv.1, v) else kv) else kvs ++ [(k, v)]
def dDGet : D → D → Option (Bool × D)
  | .dct kvs, k => (keyD k).bind fun q => (valD kvs q).map fun d => (false, d)
  | _, _ => none
def dDIn (neg : Bool) : D → D → Option (Bool × D)
  | k, .dct kvs => (keyD k).map fun q => (false, .bl (if neg = true then !(valD kvs q).isSome else (valD kvs q).isSome))
  | _, _ => none
section
variable {w : WD} {W : WX} {π : Nat → V} {B B' B1 Z : Hp} {g : G} {σ : L2.St} {H H' : Hp} {v : V}
theorem zip_val {k : Key} : ∀ {ks : List Key} {vs : List V} {ds : List D}, ks.length = vs.length → Dens w B vs ds → (valD (ks.zip ds) k = none → valV (ks.zip vs) k = none) ∧ ∀ d, valD (ks.zip ds) k = some d → ∃ v, valV (ks.zip vs) k = some v ∧ Den w B v d
  | [], _, _, _, _ => ⟨fun _ => rfl, fun d e => by cases e⟩
  | n :: ns, [], _, l, _ => by cases l
  | n :: ns, v :: vs, _, l, .cons (d := d) (ds := ds) r t => by
    have ih := zip_val (k := k) (ks := ns) (by simpa using l) t
    rw [List.zip_cons_cons, List.zip_cons_cons]
    by_cases e : n = k
    · rw [valV_pos (p := (n, v)) e]
      have : valD ((n, d) :: ns.zip ds) k = some d := by simp [valD, List.find?_cons, e]
      rw [this]
      exact ⟨fun z => by (cases z), fun d' z => by
        cases z
        exact ⟨v, rfl, r⟩⟩
    · rw [valV_neg (p := (n, v)) e]
      have : valD ((n, d) :: ns.zip ds) k = valD (ns.zip ds) k := by simp [valD, List.find?_cons, e]
      rw [this]
      exact ih
theorem lk_dct {kvs : List (Key × D)} (s : Sub B H) (h : Lk w B H v (.dct kvs)) : ∃ (a : Addr) (ks : List Key) (vs : List V) (ds : List D), v = .ref a ∧ Rd H a (.dK (ks.zip vs)) ∧ ks.length = vs.length ∧ Dens w B vs ds ∧ kvs = ks.zip ds := by
  cases h with
  | den h =>
    cases h with
    | dct e l r => exact ⟨_, _, _, _, rfl, s.rd (.inl e), l, r, rfl⟩
  | own _ h =>
    cases h with
    | dct e l r => exact ⟨_, _, _, _, rfl, .inl e, l, r, rfl⟩
theorem lk_key {d : D} {k : Key} (h : Lk w B H v d) (e : keyD d = some k) : v = kV k := by
  cases d with
  | int i => cases e; exact lk_int h
  | str x => cases e; exact lk_str h
  | _ => cases e
def rDGet : R2 := fun x y H Q => ∃ a v, x = .ref a ∧ DGet H a y (some v) ∧ Q v H
def rDIn (neg : Bool) : R2 := fun y x H Q => ∃ a o, x = .ref a ∧ DGet H a y o ∧ Q (.bl (if neg = true then !o.isSome else o.isSome)) H
theorem od_dget : OpD w rDGet dDGet := fun π B Z g σ H Q v u d e s h1 h2 q => by
  cases d <;> first | exact q.elim | skip
  rename_i kvs
  have q : PostF w π B Z g σ Q ((keyD e).bind fun q => (valD kvs q).map fun d => (false, d)) := q
  cases hk : keyD e with
  | none => rw [hk] at q; exact q.elim
  | some k =>
    rw [hk, Option.bind_some] at q
    obtain ⟨a, ks, vs, ds, rfl, ha, hl, hx, rfl⟩ := lk_dct s.sub h1
    cases hv : valD (ks.zip ds) k with
    | none => rw [hv] at q; exact q.elim
    | some d =>
      rw [hv] at q
      obtain ⟨x, hx1, hx2⟩ := (zip_val hl hx).2 d hv
      exact ⟨a, x, rfl, .inl ⟨_, k, ha, lk_key h2 hk, hx1.symm⟩, fin_d s q hx2⟩
theorem od_din {neg : Bool} : OpD w (rDIn neg) (dDIn neg) := fun π B Z g σ H Q v u d e s h1 h2 q => by
  cases e <;> first | (cases d <;> exact q.elim) | skip
  rename_i kvs
  have q : PostF w π B Z g σ Q ((keyD d).map fun q => (false, .bl (if neg = true then !(valD kvs q).isSome else (valD kvs q).isSome))) := by cases d <;> exact q
  cases hk : keyD d with
  | none => rw [hk] at q; exact q.elim
  | some k =>
    rw [hk, Option.map_some] at q
    obtain ⟨a, ks, vs, ds, rfl, ha, hl, hx, rfl⟩ := lk_dct s.sub h2
    refine ⟨a, valV (ks.zip vs) k, rfl, .inl ⟨_, k, ha, lk_key h1 hk, rfl⟩, ?_⟩
    have e : (valV (ks.zip vs) k).isSome = (valD (ks.zip ds) k).isSome := by
      cases hv : valD (ks.zip ds) k with
      | none =>
        rw [(zip_val hl hx).1 hv]
        rfl
      | some d =>
        obtain ⟨x, hx1, _⟩ := (zip_val hl hx).2 d hv
        rw [hx1]
        rfl
    rw [e]
    exact fin_d s q (.bl _)
/-- d.get(k, x) -/
def seDGet2 (sb1 sb2 sb3 : SB) : SE := fun g => (sb1 g).bind fun r1 g1 => match r1.get g1 with
  | some (.dct _) => (sb2 g1).bind fun r2 g2 => (sb3 g2).bind fun r3 g3 => match r1.get g3, (r2.get g3).bind keyD, r3.get g3 with
    | some (.dct kvs), some k, some z => match valD kvs k, r3 with
      | some d, _ => .ok (false, d) g3
      | none, .dt z => .ok (false, z) g3
      | none, _ => .fail
    | _, _, _ => .fail
  | _ => .fail
theorem re_dget2 {t1 t2 t3 : TE} {sb1 sb2 sb3 : SB} (h1 : RB w W t1 sb1) (h2 : RB w W t2 sb2) (h3 : RB w W t3 sb3) : RE w W (tDGet2 t1 t2 t3) (seDGet2 sb1 sb2 sb3) := fun π B Z g σ H Q s q =>
  h1 π B Z g σ H _ s (tailE.bB q fun r1 g1 v1 B1 H1 e1 s1 k1 q1 => by
    split at q1
    · rename_i kv0 hr0
      obtain ⟨a, ks, vs, ds, rfl, ha, hl, hx, _⟩ := lk_dct s1.sub (s1.lk k1 hr0)
      refine ⟨a, rfl, .inl ⟨_, ha⟩, h2 π B1 Z g1 σ H1 _ s1 (tailE.bB q1 fun r2 g2 v2 B2 H2 e2 s2 k2 q2 => h3 π B2 Z g2 σ H2 _ s2 (tailE.bB q2 fun r3 g3 v3 B3 H3 e3 s3 k3 q3 => ?_))⟩
      split at q3
      · rename_i kvs k z hr1 hr2 hr3
        obtain ⟨a', ks', vs', ds', za, ha', hl', hx', rfl⟩ := lk_dct s3.sub (s3.lk (k1.mono (e2.trans e3)) hr1)
        cases za
        cases hr2' : r2.get g3 with
        | none => rw [hr2'] at hr2; cases hr2
        | some d2 =>
          rw [hr2'] at hr2
          have hk : v2 = kV k := lk_key (s3.lk (k2.mono e3) hr2') hr2
          refine ⟨valV (ks'.zip vs') k, .inl ⟨_, k, ha', hk, rfl⟩, ?_⟩
          split at q3
          · rename_i d hv
            obtain ⟨x, hx1, hx2⟩ := (zip_val hl' hx').2 d hv
            rw [hx1]
            exact q3 x B3 H3 (Ext.refl _) s3 hx2
          · rename_i z' hv
            rw [(zip_val hl' hx').1 hv]
            exact q3 v3 B3 H3 (Ext.refl _) s3 k3
          · exact q3.elim
      · exact q3.elim
    · exact q1.elim)
end
section
variable {w : WD} {W : WX} {ι : Type} {XS : ι → Cx} {P : Program} {wl : World} {mg : Str → Option Value} {base : Heap} {gb gb' b : Bool} {n k : Nat} {m x : Str} {e a o c : Expr} {es : List Expr} {sa sb sc : SB} {p p2 apos pos cpos : Pos}
theorem de_dget (F : Fam P wl mg base w gb n XS) (ha : DB XS w W o sa) (hb : DB XS w W e sb) (hs : NoSl e) : DE XS w W (.Subscript o e pos) (seOp dDGet sa sb) := by
  obtain ⟨t, h1, h2⟩ := ha
  obtain ⟨u, k1, k2⟩ := hb
  exact ⟨_, fun i => pe_dget (by have := (F.room i).units; omega) (h1 i) (k1 i) hs, re_op od_dget h2 k2⟩
theorem de_din (F : Fam P wl mg base w gb n XS) (ha : DB XS w W e sa) (hb : DB XS w W o sb) (hm : behindInMarks .In o = false := by rfl) : DE XS w W (.Compare e [.In] [o] pos) (seOp (dDIn false) sa sb) := by
  obtain ⟨t, h1, h2⟩ := ha
  obtain ⟨u, k1, k2⟩ := hb
  exact ⟨_, fun i => pe_cmp (pc_din (by have := (F.room i).units; omega) (h1 i) (k1 i)) hm, re_op (od_din (neg := false)) h2 k2⟩
theorem dt_din (F : Fam P wl mg base w gb n XS) (ha : DB XS w W e sa) (hb : DB XS w W o sb) (hm : behindInMarks .In o = false := by rfl) : DT XS w W (.Compare e [.In] [o] pos) (stB (seOp (dDIn false) sa sb)) := by
  obtain ⟨t, h1, h2⟩ := ha
  obtain ⟨u, k1, k2⟩ := hb
  exact ⟨_, fun i => pt_cmp (pc_din (by have := (F.room i).units; omega) (h1 i) (k1 i)) hm, rt_b (re_op (od_din (neg := false)) h2 k2)⟩
theorem de_dget2 (F : Fam P wl mg base w gb n XS) (ha : DB XS w W o sa) (hb : DB XS w W e sb) (hc : DB XS w W c sc) (hm : ∀ i, M2 (XS i) o "get" apos e c cpos := by intro _; exact ⟨rfl, rfl, rfl, rfl⟩) : DE XS w W (.Call (.Attribute o "get" apos) [e, c] [] cpos) (seDGet2 sa sb sc) := by
  obtain ⟨t, h1, h2⟩ := ha
  obtain ⟨u, k1, k2⟩ := hb
  obtain ⟨z, l1, l2⟩ := hc
  exact ⟨_, fun i => pe_dget2 (by have := (F.room i).units; omega) (h1 i) (k1 i) (l1 i) (hm i), re_dget2 h2 k2 l2⟩
end
end M7
/-! Dict displays, dict comprehensions. -/
namespace M7
open PySem PySem.Spec PyProof.Rows L2
section
variable {w : WD} {W : WX} {π : Nat → V} {B B' B1 Z : Hp} {g : G} {σ : L2.St} {H H' : Hp} {v : V}
theorem Tail.cA {α : Type} {P : Hp → O α → Prop} {Z' : Hp} (T : Tail w W π Z P) {x : O (List Ref)} {k : List Ref → G → O α} {Q1 : List V → Hp → Prop} (h : P B (x.bind k))
    (K : ∀ r g1 v B1 H1, Ext B B1 → Sat w π B1 Z' g1 σ H1 → RefsOk w B1 σ v r → P B1 (k r g1) → Q1 v H1) : PostA w WT π B Z' σ Q1 x := by
  cases x with
  | ok a g1 => exact fun v B1 H1 e s r => K a g1 v B1 H1 e s r (T.mono e h)
  | ex x f g => exact fun _ _ _ _ _ _ _ _ => trivial
  | fail => exact T.no h
theorem putK_new {kvs : List (Key × V)} {k : Key} {v : V} (h : ∀ p ∈ kvs, p.1 ≠ k) : putK kvs k v = kvs ++ [(k, v)] := by
  unfold putK
  have : (kvs.any fun kv => decide (kv.1 = k)) = false := by
    rw [List.any_eq_false]
    intro p hp
    simp [h p hp]
  rw [this]
  rfl
theorem merge_app : ∀ (more kvs : List (Key × V)), (more.map (·.1)).Nodup → (∀ p ∈ more, ∀ q ∈ kvs, q.1 ≠ p.1) → mergeK kvs more = kvs ++ more
  | [], kvs, _, _ => by simp [mergeK]
  | p :: r, kvs, n, h => by
    rw [List.map_cons, List.nodup_cons] at n
    show mergeK (putK kvs p.1 p.2) r = _
    rw [putK_new (h p List.mem_cons_self), merge_app r _ n.2 fun q hq z hz => ?_]
    · simp
    · rw [List.mem_append, List.mem_singleton] at hz
      rcases hz with hz | rfl
      · exact h q (List.mem_cons_of_mem _ hq) z hz
      · intro e
        exact n.1 (List.mem_map.mpr ⟨q, hq, e.symm⟩)
theorem merge_zip {ks : List Key} {vs : List V} (n : ks.Nodup) (l : ks.length = vs.length) : mergeK [] (ks.zip vs) = ks.zip vs := by
  have hn : ((ks.zip vs).map (·.1)).Nodup := by
    have e : (ks.zip vs).map (·.1) = ks := List.map_fst_zip (Nat.le_of_eq l)
    rw [e]
    exact n
  rw [merge_app _ _ hn fun _ _ q hq => by cases hq]
  rfl
theorem kv_zip : ∀ {ks : List Key} {vs : List V}, (ks.map kV).zip vs = (ks.zip vs).map fun kv => (kV kv.1, kv.2)
  | [], _ => rfl
  | _ :: _, [] => rfl
  | k :: ks, v :: vs => congrArg (List.cons (kV k, v)) kv_zip
/-- the pairs of a display -/
def RP (w : WD) (W : WX) (trs : List (TE × TE)) (ks : List Key) (sa : SA) : Prop := ∀ π B Z g σ H (Q : List (V × V) → Hp → Prop), Sat w π B Z g σ H → PostA w W π B Z σ (fun vs H' => Q ((ks.map kV).zip vs) H') (sa g) → tPairs trs σ H Q
theorem rp_nil : RP w W [] [] saNil := fun π B Z g σ H Q s q => q [] B H (Ext.refl B) s .nil
theorem rp_cons {k : Key} {ks : List Key} {tv : TE} {trs : List (TE × TE)} {sb : SB} {sa : SA} (h : RB w W tv sb) (t : RP w W trs ks sa) : RP w W ((tC (kV k), tv) :: trs) (k :: ks) (saCons sb sa) := fun π B Z g σ H Q s q =>
  h π B Z g σ H _ s (tailA.bB q fun r g1 v B1 H1 e s1 r1 q1 => t π B1 Z g1 σ H1 _ s1 (tailA.bA q1 fun rs g2 vs B2 H2 e2 s2 r2 q2 => q2 _ B2 H2 (Ext.refl _) s2 (.cons (r1.mono e2) r2)))
def seDisp (ks : List Key) (sa : SA) : SE := fun g => (sa g).bind fun rs g1 => match datas rs with
  | some ds => if ks.length = ds.length ∧ ks.length ≤ 15 ∧ ks.Nodup then .ok (true, .dct (ks.zip ds)) g1 else .fail
  | none => .fail
theorem re_disp {ks : List Key} {trs : List (TE × TE)} {sa : SA} (h : RP w WT trs ks sa) : RE w W (tDisp trs) (seDisp ks sa) := fun π B Z g σ H Q s q p hp => by
  have hZ : Z p = none := s.keep.no hp
  refine h π B (upd Z p (.dK [])) g σ _ _ (s.aside hp) (tailE.cA q fun rs g1 vs B1 H1 e1 s1 r1 q1 => ?_)
  split at q1
  · rename_i ds hd
    split at q1
    · rename_i hc
      obtain ⟨h1, h2, h3⟩ := hc
      have dn := r1.datas hd
      have hl : ks.length = vs.length := by rw [h1, dn.len]
      refine ⟨s1.keep.at (s.tn0 hZ) upd_same, ks.zip vs, kv_zip, by rw [List.length_zip]; omega, ?_⟩
      · rw [merge_zip h3 hl]
        obtain ⟨s8, hn8⟩ := (s1.acc (u := .dK (ks.zip vs)) (s.tn0 hZ)).unside hZ s.tz
        exact q1 _ B1 _ (Ext.refl _) s8 ⟨p, rfl, s1.dis p _ upd_same, hZ, .dct upd_same hl dn, hn8⟩
    · exact q1.elim
  · exact q1.elim
/-! comprehensions -/
def repK {α : Type} (ks : List Key) (k : Key) (vs : List α) (v : α) : List α := List.zipWith (fun q x => if q = k then v else x) ks vs
theorem map_rep {α : Type} {k : Key} {z : α} : ∀ {ks : List Key} {vs : List α}, (ks.zip vs).map (fun kv => if kv.1 = k then (kv.1, z) else kv) = ks.zip (repK ks k vs z)
  | [], _ => rfl
  | _ :: _, [] => rfl
  | q :: ks, v :: vs => by
    show (if q = k then (q, z) else (q, v)) :: (ks.zip vs).map (fun kv => if kv.1 = k then (kv.1, z) else kv) = (q, if q = k then z else v) :: ks.zip (repK ks k vs z)
    rw [map_rep]
    split <;> rfl
theorem any_zip {α : Type} {k : Key} : ∀ {ks : List Key} {vs : List α}, ks.length = vs.length → ((ks.zip vs).any fun kv => decide (kv.1 = k)) = ks.any fun q => decide (q = k)
  | [], _, _ => rfl
  | _ :: _, [], l => by cases l
  | q :: ks, v :: vs, l => by
    show (decide (q = k) || (ks.zip vs).any fun kv => decide (kv.1 = k)) = (decide (q = k) || ks.any fun q => decide (q = k))
    rw [any_zip (by simpa using l)]
theorem dens_rep {k : Key} {z : V} {d : D} (hz : Den w B z d) : ∀ {ks : List Key} {vs : List V} {ds : List D}, Dens w B vs ds → Dens w B (repK ks k vs z) (repK ks k ds d)
  | [], _, _, _ => by
    unfold repK
    rw [List.zipWith_nil_left, List.zipWith_nil_left]
    exact .nil
  | _ :: _, _, _, .nil => by
    unfold repK
    rw [List.zipWith_nil_right, List.zipWith_nil_right]
    exact .nil
  | q :: ks, v :: vs, e :: ds, .cons r t => by
    show Dens w B ((if q = k then z else v) :: _) ((if q = k then d else e) :: _)
    split
    · exact .cons hz (dens_rep hz t)
    · exact .cons r (dens_rep hz t)
theorem zip_app {α : Type} {k : Key} {z : α} : ∀ {ks : List Key} {vs : List α}, ks.length = vs.length → ks.zip vs ++ [(k, z)] = (ks ++ [k]).zip (vs ++ [z])
  | [], [], _ => rfl
  | [], _ :: _, l => by cases l
  | _ :: _, [], l => by cases l
  | q :: ks, v :: vs, l => congrArg (List.cons (q, v)) (zip_app (by simpa using l))
theorem zip_putK {k : Key} {z : V} {d : D} (hz : Den w B z d) {ks : List Key} {vs : List V} {ds : List D} (l : ks.length = vs.length) (h : Dens w B vs ds) :
    ∃ (ks' : List Key) (vs' : List V) (ds' : List D), putK (ks.zip vs) k z = ks'.zip vs' ∧ putKD (ks.zip ds) k d = ks'.zip ds' ∧ ks'.length = vs'.length ∧ Dens w B vs' ds' ∧ ks'.length ≤ ks.length + 1 := by
  unfold putK putKD
  rw [any_zip l, any_zip (l.trans h.len)]
  cases hk : ks.any fun q => decide (q = k) with
  | true =>
    rw [if_pos rfl, if_pos rfl, map_rep, map_rep]
    exact ⟨ks, _, _, rfl, rfl, by unfold repK; rw [List.length_zipWith]; omega, dens_rep hz h, Nat.le_succ _⟩
  | false =>
    rw [if_neg (by decide), if_neg (by decide), zip_app l, zip_app (l.trans h.len)]
    exact ⟨ks ++ [k], vs ++ [z], ds ++ [d], rfl, rfl, by rw [List.length_append, List.length_append, l] <;> rfl, h.app (.cons hz .nil), by rw [List.length_append]; exact Nat.le_refl _⟩
def compD (sg : SG) (st : ST) (sk sv : SE) (vs : List Nat) : List D → G → List (Key × D) → O (List (Key × D))
  | [], g, acc => .ok acc g
  | d :: ds, g, acc => match sg (false, d) (wipeG g vs) with
    | none => .fail
    | some g1 => (st g1).bind fun b g2 => if b = true then (sk g2).bind fun r g3 => (sv g3).bind fun u g4 => match keyD r.2 with
        | some k => compD sg st sk sv vs ds g4 (putKD acc k u.2)
        | none => .fail else compD sg st sk sv vs ds g2 acc
def seDc (si : SI) (sg : SG) (st : ST) (sk sv : SE) (vs : List Nat) : SE := fun g => (si g).bind fun ds g1 => if calmG g1 vs = true ∧ ds.length < 1000000 then (compD sg st sk sv vs ds g1 []).bind fun acc g2 => .ok (true, .dct acc) (backG g1 (wipeG g2 vs) vs) else .fail
theorem den_key {d : D} {k : Key} (h : Den w B v d) (e : keyD d = some k) : v = kV k := by
  cases h <;> first | (cases e; rfl) | cases e
theorem re_dc {wi : TI} {tg : TG} {tt : TT} {tk tv : TE} {vs : List Nat} {si : SI} {sg : SG} {st : ST} {sk sv : SE} (hi : RI w W wi si) (hg : RG w tg sg) (hw : Wipes tg vs) (ht : RT w WT tt st) (hk : RE w WT tk sk) (he : RE w WT tv sv) :
    RE w W (tDc wi tg tt tk tv vs) (seDc si sg st sk sv vs) := fun π B Z g σ H Q s q =>
  hi π B Z g σ H _ s (tailE.cI q fun ds g1 J B1 H1 e1 s1 wk q1 => by
    intro D hD
    split at q1
    · rename_i hc
      obtain ⟨hc, hn⟩ := hc
      have hZ : Z D = none := s1.keep.no hD
      refine ⟨fun i m H => m = ds.length - i ∧ i ≤ ds.length ∧ ∃ (B' : Hp) (g' : G) (ks : List Key) (xs : List V) (acc : List M7.D), Ext B1 B' ∧ Sat w π B' (upd Z D (.dK (ks.zip xs))) (wipeG g' vs) (wipe σ vs) H ∧ ks.length = xs.length ∧ Dens w B' xs acc ∧ ks.length ≤ i ∧
        PostE w W π B' Z σ Q ((compD sg st sk sv vs (ds.drop i) g' (ks.zip acc)).bind fun acc g2 => .ok (true, .dct acc) (backG g1 (wipeG g2 vs) vs)), ⟨ds.length, by simp, Nat.zero_le _, B1, g1, [], [], [], Ext.refl _, (s1.aside hD).wiped vs, rfl, .nil, Nat.le_refl _, q1⟩, ?_⟩
      rintro i m H2 ⟨rfl, hi, B2, g2, ks, xs, acc, e2, s2, hkl, hx, hl, q2⟩
      by_cases hlt : i < ds.length
      · have hd : ds[i]? = some ds[i] := List.getElem?_eq_getElem hlt
        have hdr : ds.drop i = ds[i] :: ds.drop (i + 1) := List.drop_eq_getElem_cons hlt
        refine .inr ⟨wk.go B2 H2 i _ e2 s2.sub hd, fun H => ∃ (B' : Hp) (g' : G) (ks : List Key) (xs : List V) (acc : List M7.D), Ext B1 B' ∧ Sat w π B' (upd Z D (.dK (ks.zip xs))) (wipeG g' vs) (wipe σ vs) H ∧ ks.length = xs.length ∧ Dens w B' xs acc ∧ ks.length ≤ i + 1 ∧
          PostE w W π B' Z σ Q ((compD sg st sk sv vs (ds.drop (i + 1)) g' (ks.zip acc)).bind fun acc g2 => .ok (true, .dct acc) (backG g1 (wipeG g2 vs) vs)), fun H' p => ⟨ds.length - (i + 1), by omega, rfl, hlt, p⟩, fun x H3 y => ?_⟩
        obtain ⟨k3, B3, e3, h3, n3, d3⟩ := wk.yld B2 H2 i _ x H3 e2 s2.sub hd y
        have s3 := s2.yielded e3 k3 h3 n3
        have q3 := q2.mono e3
        rw [hdr] at q3
        unfold compD at q3
        refine hw _ _ σ _ _ (wipe_wipe σ vs) (hg π B3 _ (wipeG g2 vs) (wipe σ vs) H3 x false _ _ s3 d3 ?_)
        split at q3
        · exact q3.elim
        · rename_i g4 e4
          rw [e4]
          intro B4 H4 σ4 e5 s4 hσ
          have q4 := q3.mono e5
          have bindA : ∀ {α β γ : Type} (x : O α) (k : α → G → O β) (l : β → G → O γ), (x.bind k).bind l = x.bind fun a g => (k a g).bind l := fun x k l => by cases x <;> rfl
          rw [bindA] at q4
          refine ht π B4 _ g4 σ4 H4 _ s4 (tailE.cL q4 fun b g5 B5 H5 e6 s5 q5 => ?_)
          have tot5 : Ext B2 B5 := e3.trans (e5.trans e6)
          cases b with
          | false =>
            refine ⟨B5, g5, ks, xs, acc, e2.trans tot5, ?_, hkl, hx.mono tot5, Nat.le_succ_of_le hl, q5⟩
            have := s5.wiped vs
            rw [hσ] at this
            exact this
          | true =>
            have q5 : PostE w W π B5 Z σ Q (((sk g5).bind fun r g3 => (sv g3).bind fun u g4 => match keyD r.2 with
              | some k => compD sg st sk sv vs (ds.drop (i + 1)) g4 (putKD (ks.zip acc) k u.2)
              | none => .fail).bind fun acc g2 => .ok (true, .dct acc) (backG g1 (wipeG g2 vs) vs)) := q5
            rw [bindA] at q5
            refine hk π B5 _ g5 σ4 H5 _ s5 (tailE.cE q5 fun o d g6 v B6 H6 e7 s6 r6 q6 => ?_)
            obtain ⟨B7, e8, s7, hv⟩ := r6.freeze s6
            have q7 := q6.mono e8
            rw [bindA] at q7
            refine he π B7 _ g6 σ4 H6 _ s7 (tailE.cE q7 fun o2 d2 g8 u B8 H8 e9 s8 r8 q8 => ?_)
            obtain ⟨B9, ea, s9, hu⟩ := r8.freeze s8
            have q9 := q8.mono ea
            cases hkd : keyD d with
            | none =>
              simp only [hkd] at q9
              exact q9.elim
            | some k =>
              simp only [hkd] at q9
              have tot9 : Ext B2 B9 := tot5.trans (e7.trans (e8.trans (e9.trans ea)))
              obtain ⟨ks', xs', acc', p1, p2, p3, p4, p5⟩ := zip_putK (k := k) hu hkl (hx.mono tot9)
              rw [p2] at q9
              refine ⟨ks.zip xs, k, den_key hv hkd, s8.keep.at (s1.tn0 hZ) upd_same, Nat.lt_trans (by rw [List.length_zip]; omega) million, B9, g8, ks', xs', acc', e2.trans tot9, ?_, p3, p4, by omega, q9⟩
              have := (s9.acc (u := .dK (ks'.zip xs')) (s1.tn0 hZ)).wiped vs
              rw [hσ] at this
              rw [p1]
              exact this
      · have : i = ds.length := by omega
        subst this
        refine .inl ⟨wk.stop B2 H2 e2 s2.sub, ?_⟩
        rw [List.drop_length] at q2
        have sb := (s1.aside (o := .dK []) hD).back hc e2 (wipe_wipe σ vs) s2
        obtain ⟨s8, hn8⟩ := sb.unside hZ s1.tz
        exact q2 _ B2 H2 (Ext.refl _) s8 ⟨D, rfl, s2.dis D _ upd_same, hZ, .dct (s2.keep.at (s1.tn0 hZ) upd_same) hkl hx, hn8⟩
    · exact q1.elim)
end
section
variable {w : WD} {W : WX} {ι : Type} {XS : ι → Cx} {e : Expr} {sb : SB} {sa : SA} {pos p : Pos}
def DP (XS : ι → Cx) (w : WD) (pos : Pos) (keys : List (Option Expr)) (values : List Expr) (ks : List Key) (sa : SA) : Prop := ∃ trs, (∀ i, PPs (XS i) pos keys values trs) ∧ RP w WT trs ks sa
theorem dp_nil : DP XS w pos [] [] [] saNil := ⟨_, fun _ => pps_nil, rp_nil⟩
theorem dp_str {x : Str} {j} {keys : List (Option Expr)} {values : List Expr} {ks : List Key} (h : DB XS w WT e sb) (t : DP XS w pos keys values ks sa) : DP XS w pos (some (.Constant (.str x) j p) :: keys) (e :: values) (.inr x :: ks) (saCons sb sa) := by
  obtain ⟨u, h1, h2⟩ := h
  obtain ⟨trs, k1, k2⟩ := t
  exact ⟨_, fun i => pps_cons pe_str (h1 i) (k1 i), rp_cons (k := .inr x) h2 k2⟩
theorem de_disp {keys : List (Option Expr)} {values : List Expr} {ks : List Key} (h : DP XS w pos keys values ks sa) (hall : keys.all (·.isSome) = true := by rfl) (hl : keys.length = values.length := by rfl) (h0 : keys ≠ [] := by intro z; cases z) (h15 : keys.length ≤ 15 := by decide) : DE XS w W (.Dict keys values pos) (seDisp ks sa) := by
  obtain ⟨trs, h1, h2⟩ := h
  exact ⟨_, fun i => pe_disp (h1 i) hall hl h0 h15, re_disp h2⟩
def seDNew : SE := fun g => .ok (true, .dct []) g
theorem re_dnew : RE w W tDNewK seDNew := fun π B Z g σ H Q s q p hp => q _ B _ (Ext.refl _) (s.grow (Ext.new hp)) (s.new_res hp (.dct (ks := []) (vs := []) (ds := []) upd_same rfl .nil))
theorem de_dnew : DE XS w W (.Dict [] [] pos) seDNew := ⟨_, fun _ => pe_dnewK, re_dnew⟩
theorem de_dc {kx vx tg iter : Expr} {ifs : List Expr} {scope : Scope} (own : List (Str × Nat)) {si : SI} {sg : SG} {st : ST} {sk sv : SE} (hnd : ∀ i, (XS i).N.Nodup) (ok : ∀ i, BlkOk (XS i).N (XS i).env.scope scope own) (hi : DI XS w W tg iter si) (hg : DG (blkS XS scope) w (own.map (·.2)) tg sg) (ht : DTs (blkS XS scope) w WT ifs st)
    (hk : DE (blkS XS scope) w WT kx sk) (he : DE (blkS XS scope) w WT vx sv) (hc : ∀ i, (XS i).calm = true := by intro _; rfl) (hs : ∀ i x, foldedSetIterable iter (XS i).env x = pure x := by intro _ _; rfl) : DE XS w W (.DictComp kx vx [⟨tg, iter, ifs, 0⟩] scope pos) (seDc si sg st sk sv (own.map (·.2))) := by
  obtain ⟨t, h1, h2⟩ := hi
  obtain ⟨u, k1, k2, k3⟩ := hg
  obtain ⟨v, l1, l2⟩ := ht
  obtain ⟨tk, n1, n2⟩ := hk
  obtain ⟨te, m1, m2⟩ := he
  exact ⟨_, fun i => pe_dc (hc i) (hnd i) (h1 i) (ok i) (fun s H C cl fp => k1 (i, s, H, C, cl, fp)) (fun s H C cl fp => l1 (i, s, H, C, cl, fp)) (fun s H C cl fp => n1 (i, s, H, C, cl, fp)) (fun s H C cl fp => m1 (i, s, H, C, cl, fp)) (hs i), re_dc h2 k2 k3 l2 n2 m2⟩
end
end M7
set_option maxHeartbeats 2000000
/-! sorted and len(set(..)) of a tuple of ints (the first from wip/k02). -/
namespace R7
open PySem PySem.Spec PyProof.Rows L2
def insI (i : Int) : List Int → List Int
  | [] => [i]
  | j :: r => if i ≤ j then i :: j :: r else j :: insI i r
def sortI : List Int → List Int
  | [] => []
  | i :: r => insI i (sortI r)
theorem insI_perm (i : Int) : ∀ l : List Int, (insI i l).Perm (i :: l)
  | [] => .refl _
  | j :: r => by
    unfold insI
    split
    · exact .refl _
    · exact ((insI_perm i r).cons j).trans (.swap i j r)
theorem sortI_perm : ∀ l : List Int, (sortI l).Perm l
  | [] => .refl _
  | i :: r => (insI_perm i _).trans ((sortI_perm r).cons i)
theorem insI_sorted (i : Int) : ∀ l : List Int, l.Pairwise (· ≤ ·) → (insI i l).Pairwise (· ≤ ·)
  | [], _ => by simp [insI]
  | j :: r, h => by
    rw [List.pairwise_cons] at h
    unfold insI
    split
    · rename_i q
      rw [List.pairwise_cons]
      refine ⟨fun x hx => ?_, List.pairwise_cons.mpr h⟩
      rcases List.mem_cons.mp hx with rfl | hx
      · exact q
      · exact Int.le_trans q (h.1 x hx)
    · rename_i q
      rw [List.pairwise_cons]
      refine ⟨fun x hx => ?_, insI_sorted i r h.2⟩
      rcases List.mem_cons.mp ((insI_perm i r).mem_iff.mp hx) with rfl | hx
      · omega
      · exact h.1 x hx
theorem sortI_sorted : ∀ l : List Int, (sortI l).Pairwise (· ≤ ·)
  | [] => .nil
  | i :: r => insI_sorted i _ (sortI_sorted r)
theorem sorted_uniq : ∀ {a b : List Int}, a.Perm b → a.Pairwise (· ≤ ·) → b.Pairwise (· ≤ ·) → a = b
  | [], b, p, _, _ => p.nil_eq
  | x :: a, [], p, _, _ => absurd p.symm.nil_eq (by simp)
  | x :: a, y :: b, p, ha, hb => by
    rw [List.pairwise_cons] at ha hb
    have e : x = y := by
      have h1 : x ∈ y :: b := p.mem_iff.mp List.mem_cons_self
      have h2 : y ∈ x :: a := p.mem_iff.mpr List.mem_cons_self
      rcases List.mem_cons.mp h1 with h1 | h1
      · exact h1
      · rcases List.mem_cons.mp h2 with h2 | h2
        · exact h2.symm
        · exact Int.le_antisymm (ha.1 y h2) (hb.1 x h1)
    subst e
    rw [sorted_uniq (List.Perm.cons_inv p) ha.2 hb.2]
theorem sortI_eq {a ns : List Int} (p : a.Perm ns) (h : a.Pairwise (· ≤ ·)) : a = sortI ns := sorted_uniq (p.trans (sortI_perm ns).symm) h (sortI_sorted ns)
/-- without what stands later again -/
def ddp : List Int → List Int
  | [] => []
  | i :: r => if i ∈ r then ddp r else i :: ddp r
theorem ddp_mem {j : Int} : ∀ l : List Int, j ∈ ddp l ↔ j ∈ l
  | [] => Iff.rfl
  | i :: r => by
    unfold ddp
    split
    · rename_i h
      rw [ddp_mem r, List.mem_cons]
      exact ⟨.inr, fun z => z.elim (fun z => z ▸ h) id⟩
    · rw [List.mem_cons, List.mem_cons, ddp_mem r]
theorem ddp_nodup : ∀ l : List Int, (ddp l).Nodup
  | [] => .nil
  | i :: r => by
    unfold ddp
    split
    · exact ddp_nodup r
    · rename_i h
      exact List.nodup_cons.mpr ⟨fun z => h ((ddp_mem r).mp z), ddp_nodup r⟩
theorem sub_len : ∀ {L ns : List Int}, L.Nodup → (∀ j ∈ L, j ∈ ns) → L.length ≤ ns.length
  | [], ns, _, _ => Nat.zero_le _
  | a :: L, ns, hn, hs => by
    have ha : a ∈ ns := hs a List.mem_cons_self
    obtain ⟨hna, hn'⟩ := List.nodup_cons.mp hn
    have l1 := sub_len (L := L) (ns := ns.erase a) hn' fun j hj => (List.mem_erase_of_ne (fun e => by subst e; exact hna hj)).mpr (hs j (List.mem_cons_of_mem _ hj))
    have hl : ns.length = (ns.erase a).length + 1 := by
      rw [List.length_erase_of_mem ha]
      have : 0 < ns.length := List.length_pos_of_mem ha
      omega
    rw [List.length_cons]
    omega
theorem ddp_len {L ns : List Int} (hn : L.Nodup) (hm : ∀ j, j ∈ L ↔ j ∈ ns) : L.length = (ddp ns).length :=
  Nat.le_antisymm (sub_len hn fun j hj => (ddp_mem ns).mpr ((hm j).mp hj)) (sub_len (ddp_nodup ns) fun j hj => (hm j).mpr ((ddp_mem ns).mp hj))
/-! ### sorted(t), t a tuple of ints -/
section
variable {prog : Program} {w : World} {A : Around} {E : Value → Shared → Prop} {s : Shared}
open SrtO Srt in
theorem sorted_tup {l : Addr} {vs : List Value} {ltv : Value → Value → Bool} {Q : Value → Shared → Prop} (O : Swo ltv) (hl : s.heap.IsTuple l vs.toArray) (hz : vs.length ≤ sizeLine)
    (hS : 2 ≤ vs.length → ∀ (h₁ : Heap) (a : Addr), SortableO prog w A.in1.in1 { s with heap := h₁ } a vs ltv)
    (h : ∀ (out : List Value) (h1 : Heap), (∀ b o, s.heap.get? b = some o → h1.get? b = some o) → Srtd ltv out → Stb ltv out vs → Q (.ref h1.objs.size) { s with heap := sortedHeap (h1.push (seqObj "list" vs.toArray 0)) h1.objs.size vs out.toArray }) :
    wpAny (model prog w) A (call (.builtin "sorted") [.ref l]) Q E s := by
  obtain ⟨o, ho, hc, n, hd⟩ := hl
  refine Calls.call_function_entry kind_sorted plain_sorted entry_sorted (args_sorted1 _) ?_
  unfold Builtin.«sorted»
  refine wpAny_bind (m := checkCount "sorted" 1 1 _) (wpAny_pure ?_)
  refine wpAny_bind (wpAny_collect_seq l (.inr rfl) ho hc hd (fun h1 hk => ?_) (by rw [List.size_toArray]; exact hz))
  rw [List.toList_toArray]
  refine wpAny_bind (wpAny_newList ?_ hz)
  have hoL : (h1.push (seqObj "list" vs.toArray 0)).get? h1.objs.size = some (seqObj "list" vs.toArray 0) := Heap.get?_push_size _ rfl
  show wpAny _ _ _ _ _ { s with heap := h1.push (seqObj "list" vs.toArray 0) }
  refine wpAny_bind (wpAny_holding (wpAny_call_entry slot_list_sort ⟨_, hoL, rfl⟩ entry_list_sort (list_sort_ord O hoL hz (fun h2 => hS h2 _ _) fun out hs hb => ⟨_, rfl, ?_⟩) (args_list_sort _)))
  exact wpAny_pure ⟨_, rfl, h out h1 hk hs hb⟩
end
def rSortedIT (K : PySem.W.Frag) : List V → Hp → VK → Prop := fun vs H Q => ∃ (a : Addr) (ns : List Int), vs = [V.ref a] ∧ SqT K H a (ns.map V.int) ∧
  ∀ (ns' : List Int) (p : Addr), ns'.Perm ns → ns'.Pairwise (· ≤ ·) → H p = none → Q (.ref p) (upd H p (.lst (ns'.map V.int)))
section
variable {X : Cx}
theorem cr_sortedIT : CallR X (.builtin "sorted") (rSortedIT X.K) := by
  intro pins s σ H vs us Q I r h
  obtain ⟨a, ns, rfl, hs, q⟩ := h
  obtain ⟨its, rv, hl, hz⟩ := I.tuple hs
  rw [Vals.ref1 r]
  have hi := rv.ints
  have hz' : its.length ≤ sizeLine := by rw [← rv.length]; exact hz
  refine sorted_tup SrtO.swo_int hl hz' (fun h2 h₁ a' => SrtO.ints_sortable hi h2) fun out h1 hk ha hb => ?_
  obtain ⟨k1, k2, k3⟩ := SrtO.ints_out hi ha hb
  have I1 : Inv X pins σ H { s with heap := h1 } := I.kept (t' := s.toks) hk
  obtain ⟨ep, he'⟩ := PyProof.Rows.sortedHeap_at (h := h1.push (seqObj "list" its.toArray 0)) (a := h1.objs.size) (vs := its) (n := 0) (out := out.toArray) (Heap.get?_push_size _ rfl)
  have hlen : ((out.map SrtO.iv).map V.int).length ≤ sizeLine := by
    rw [List.length_map, k2.length_eq, ← hi.length]
    exact hz'
  refine ⟨.ref _, upd H h1.objs.size (.lst ((out.map SrtO.iv).map V.int)), I1.laid (t' := s.toks) (fun b u e => ?_) (Nat.le_refl _) ⟨hlen, out, ep, vals_of_ints k1, he'⟩, rfl, q _ _ k2 k3 (I1.hok.fresh (Nat.le_refl _))⟩
  have lt : b < h1.objs.size := Heap.lt_size e
  rw [PyProof.Rows.sortedHeap_old (Nat.ne_of_lt lt) (by rw [Heap.size_push]; exact Nat.lt_succ_of_lt lt)]
  exact Heap.get?_push_of_some _ e
end
/-! ### len(set(t)), t a tuple of ints -/
def tLenSetT (K : PySem.W.Frag) (ta : TE) : TE := fun σ H Q => ta σ H fun x H1 => ∃ (l : Addr) (ns : List Int), x = .ref l ∧ SqT K H1 l (ns.map V.int) ∧ ns.length ≤ 4000 ∧ Q (.int ((ddp ns).length : Nat)) H1
theorem pe_lenSetT {X : Cx} {a : Expr} {ta : TE} {p p2 q pos : Pos} (hg : Gl X "len") (hm : X.mg "len" = none) (hg2 : Gl X "set") (hm2 : X.mg "set" = none) (ha : PE X a ta) (hc : X.calm = true := by rfl)
    (na : starEach [a] X.env = (false, eval a X.env) :: starEach [] X.env := by rfl) : PE X (.Call (.Name "len" p) [.Call (.Name "set" p2) [a] [] q] [] pos) (tLenSetT X.K ta) := by
  refine ⟨fun pins s σ H Q I h => ?_⟩
  refine Call_ (ld_blt I hg hm boot_len ?_)
  refine PyProof.Rows.callWith_builtin1 (PyProof.Rows.args_cons ?_ rfl) rfl rfl
  refine Call_ (ld_blt I hg2 hm2 boot_set ?_)
  refine PyProof.Rows.callWith_type1 (PyProof.Rows.args_cons (thn (ha.run pins s σ H _ I h) fun v s1 ⟨x, H1, I1, r1, q1⟩ => PyProof.Rows.args_nil ?_) na) na rfl
  obtain ⟨l, ns, rfl, hq, hl, q1⟩ := q1
  cases r1
  obtain ⟨its, r, pt, hz⟩ := I1.tuple hq
  refine call_set_tupI ns (I1.ok.hd hc) (show s1.heap.IsTuple l its.toArray from pt) (by simpa using RZ.intsAre_vals r) (by unfold scanBound; omega) fun h' tk c R1 hcn k => ?_
  refine PyProof.Rows.args_nil ?_
  obtain ⟨o, es, ep, t, ho, hex, hd, g, nd, hm3, hb, hf, hn, _⟩ := R1
  have I2 : Inv X pins σ H1 { s1 with heap := h', toks := tk } := I1.kept fun b o e => k b o e
  have e1 : es.size = (es.toList.map keyOf).length := by simp
  have key : es.size = (ddp ns).length := by
    rw [e1]
    exact ddp_len nd fun j => by rw [← hm3 j, decide_eq_true_eq]
  exact call_len_set ho hex hd hf (by rw [hn] <;> omega) ⟨.int es.size, H1, I2.tok _, ⟨_, rfl⟩, key ▸ q1⟩
end R7
/-! sorted, int, len(set(..)), join. -/
namespace M7
open PySem PySem.Spec PyProof.Rows L2 R7
def intsD : List D → Option (List Int)
  | [] => some []
  | .int i :: r => (intsD r).map (i :: ·)
  | _ :: _ => none
section
variable {w : WD} {W : WX} {π : Nat → V} {B B' B1 Z : Hp} {g : G} {σ : L2.St} {H H' : Hp} {v : V}
theorem dens_ints : ∀ {vs : List V} {ds : List D} {ns : List Int}, Dens w B vs ds → intsD ds = some ns → vs = ns.map V.int
  | _, _, _, .nil, e => by cases e; rfl
  | v :: vs, d :: ds, ns, .cons r t, e => by
    cases r with
    | int i =>
      have e : (intsD ds).map (i :: ·) = some ns := e
      cases h : intsD ds with
      | none => rw [h] at e; cases e
      | some ms =>
        rw [h] at e
        cases e
        rw [dens_ints t h, List.map_cons]
    | _ => cases e
theorem ints_dens : ∀ ns : List Int, Dens w B (ns.map V.int) (ns.map M7.D.int)
  | [] => .nil
  | i :: ns => .cons (.int i) (ints_dens ns)
def dSorted : List D → Option (Bool × D)
  | [.lst ds] => (intsD ds).map fun ns => (true, .lst ((sortI ns).map .int))
  | [.tup ds] => (intsD ds).map fun ns => (true, .lst ((sortI ns).map .int))
  | _ => none
theorem cd_sorted : CallD w (fun xs H Q => rSortedI w.K xs H Q ∨ R7.rSortedIT w.K xs H Q) dSorted := fun π B Z g σ H Q vs ds s h q => by
  unfold dSorted at q
  split at q
  · obtain ⟨v, rfl, hv⟩ := lks1 h
    rename_i ds
    obtain ⟨a, xs, rfl, ha, hx⟩ := lk_lst s.sub hv
    cases hi : intsD ds with
    | none => rw [hi] at q; exact q.elim
    | some ns =>
      rw [hi] at q
      rw [dens_ints hx hi] at ha
      refine .inl ⟨a, ns, rfl, .inl (.inl ha), fun ns' p pm ps hp => ?_⟩
      rw [sortI_eq pm ps]
      exact fin_L s q (ints_dens _) hp
  · obtain ⟨v, rfl, hv⟩ := lks1 h
    rename_i ds
    obtain ⟨a, xs, rfl, ha, hx⟩ := lk_tup s.sub hv
    cases hi : intsD ds with
    | none => rw [hi] at q; exact q.elim
    | some ns =>
      rw [hi] at q
      rw [dens_ints hx hi] at ha
      refine .inr ⟨a, ns, rfl, ha, fun ns' p pm ps hp => ?_⟩
      rw [sortI_eq pm ps]
      exact fin_L s q (ints_dens _) hp
  · exact q.elim
def dIntC : List D → Option (Bool × D)
  | [.str a] => if a.length ≤ 640 then (PySem.intText? a).map fun n => (false, .int n) else none
  | [.int i] => some (false, .int i)
  | [.bl k] => some (false, .int (if k then 1 else 0))
  | _ => none
def rIntC : List V → Hp → VK → Prop := fun xs H Q => (∃ a n, xs = [.str a] ∧ PySem.intText? a = some n ∧ a.length ≤ 640 ∧ Q (.int n) H) ∨ ((∃ i, xs = [.int i] ∧ Q (.int i) H) ∨ ∃ k, xs = [.bl k] ∧ Q (.int (if k then 1 else 0)) H)
theorem call_intC {X : Cx} : CallR X (.type "int") rIntC := CallRor call_int_str call_int1
theorem cd_intC : CallD w rIntC dIntC := fun π B Z g σ H Q vs ds s h q => by
  unfold dIntC at q
  split at q
  · obtain ⟨v, rfl, hv⟩ := lks1 h
    rename_i a
    split at q
    · rename_i hl
      cases hn : PySem.intText? a with
      | none => rw [hn] at q; exact q.elim
      | some n =>
        rw [hn] at q
        exact .inl ⟨a, n, by rw [lk_str hv], hn, hl, fin_d s q (.int _)⟩
    · exact q.elim
  · obtain ⟨v, rfl, hv⟩ := lks1 h
    exact .inr (.inl ⟨_, by rw [lk_int hv], fin_d s q (.int _)⟩)
  · obtain ⟨v, rfl, hv⟩ := lks1 h
    exact .inr (.inr ⟨_, by rw [lk_bl hv], fin_d s q (.int _)⟩)
  · exact q.elim
/-- sep.join(..) -/
def strsD : List D → Option (List Str)
  | [] => some []
  | .str i :: r => (strsD r).map (i :: ·)
  | _ :: _ => none
theorem dens_strs : ∀ {vs : List V} {ds : List D} {ns : List Str}, Dens w B vs ds → strsD ds = some ns → vs = ns.map V.str
  | _, _, _, .nil, e => by cases e; rfl
  | v :: vs, d :: ds, ns, .cons r t, e => by
    cases r with
    | str i =>
      have e : (strsD ds).map (i :: ·) = some ns := e
      cases h : strsD ds with
      | none => rw [h] at e; cases e
      | some ms =>
        rw [h] at e
        cases e
        rw [dens_strs t h, List.map_cons]
    | _ => cases e
def dJoin : D → D → Option (Bool × D)
  | .str a, .lst ds => (strsD ds).bind fun ys => if (ys.map (·.length)).sum + ys.length * a.length ≤ 16777216 then some (false, .str (Txt.join a ys)) else none
  | .str a, .tup ds => (strsD ds).bind fun ys => if (ys.map (·.length)).sum + ys.length * a.length ≤ 16777216 then some (false, .str (Txt.join a ys)) else none
  | _, _ => none
def rJoin (K : PySem.W.Frag) : R2 := fun x y H Q => ∃ a p, ∃ ys : List Str, x = .str a ∧ [y] = [V.ref p] ∧ (SqL K H p (ys.map V.str) ∨ SqT K H p (ys.map V.str)) ∧ (ys.map (·.length)).sum + ys.length * a.length ≤ 16777216 ∧ Q (.str (Txt.join a ys)) H
theorem od_join : OpD w (rJoin w.K) dJoin := fun π B Z g σ H Q v u d e s h1 h2 q => by
  unfold dJoin at q
  split at q
  · rename_i a ds
    obtain ⟨p, xs, rfl, ha, hx⟩ := lk_lst s.sub h2
    cases hi : strsD ds with
    | none => rw [hi] at q; exact q.elim
    | some ys =>
      rw [hi, Option.bind_some] at q
      rw [dens_strs hx hi] at ha
      split at q
      · rename_i hz
        exact ⟨a, p, ys, lk_str h1, rfl, .inl (.inl (.inl ha)), hz, fin_d s q (.str _)⟩
      · exact q.elim
  · rename_i a ds
    obtain ⟨p, xs, rfl, ha, hx⟩ := lk_tup s.sub h2
    cases hi : strsD ds with
    | none => rw [hi] at q; exact q.elim
    | some ys =>
      rw [hi, Option.bind_some] at q
      rw [dens_strs hx hi] at ha
      split at q
      · rename_i hz
        exact ⟨a, p, ys, lk_str h1, rfl, .inr ha, hz, fin_d s q (.str _)⟩
      · exact q.elim
  · exact q.elim
/-- s.m(e), s a text -/
def seM1 (f : D → D → Option (Bool × D)) (sa sb : SB) : SE := fun g => (sa g).bind fun r1 g1 => match r1.get g1 with
  | some (.str _) => (sb g1).bind fun r2 g2 => match r1.get g2, r2.get g2 with
    | some d, some e => ofOpt g2 (f d e)
    | _, _ => .fail
  | _ => .fail
theorem re_m1 {r : V → List V → Hp → VK → Prop} {f : D → D → Option (Bool × D)} {ta tb : TE} {sa sb : SB} (hf : OpD w (fun x y H Q => r x [y] H Q) f) (ha : RB w W ta sa) (hb : RB w W tb sb) : RE w W (tM1 r ta tb) (seM1 f sa sb) := fun π B Z g σ H Q s q =>
  ha π B Z g σ H _ s (tailE.bB q fun a g1 v B1 H1 e1 s1 r1 q1 => by
    split at q1
    · rename_i x hx
      refine ⟨⟨x, lk_str (s1.lk r1 hx)⟩, hb π B1 Z g1 σ H1 _ s1 (tailE.bB q1 fun b g2 u B2 H2 e2 s2 r2 q2 => ?_)⟩
      split at q2
      · rename_i d e h1 h2
        refine hf π B2 Z g2 σ H2 Q v u d e s2 (s2.lk (r1.mono e2) h1) (s2.lk r2 h2) ?_
        cases hq : f d e with
        | none => rw [hq] at q2; exact q2.elim
        | some r => rw [hq] at q2; exact q2
      · exact q2.elim
    · exact q1.elim)
/-- len(set(t)) -/
def seLenSet (sb : SB) : SE := fun g => (sb g).bind fun r g1 => match r.get g1 with
  | some (.tup ds) => match intsD ds with
    | some ns => if ns.length ≤ 4000 then .ok (false, .int ((ddp ns).length : Nat)) g1 else .fail
    | none => .fail
  | _ => .fail
theorem re_lenSet {ta : TE} {sb : SB} (h : RB w W ta sb) : RE w W (R7.tLenSetT w.K ta) (seLenSet sb) := fun π B Z g σ H Q s q =>
  h π B Z g σ H _ s (tailE.bB q fun r g1 v B1 H1 e1 s1 r1 q1 => by
    split at q1
    · rename_i ds hr
      split at q1
      · rename_i ns hi
        split at q1
        · rename_i hl
          obtain ⟨a, xs, rfl, ha, hx⟩ := lk_tup s1.sub (s1.lk r1 hr)
          rw [dens_ints hx hi] at ha
          exact ⟨a, ns, rfl, ha, hl, q1 _ B1 H1 (Ext.refl _) s1 (.int _)⟩
        · exact q1.elim
      · exact q1.elim
    · exact q1.elim)
end
section
variable {w : WD} {W : WX} {ι : Type} {XS : ι → Cx} {P : Program} {wl : World} {mg : Str → Option Value} {base : Heap} {e o : Expr} {sa sb : SB} {p p2 q apos pos : Pos}
theorem de_join (ha : DB XS w W o sa) (hb : DB XS w W e sb) (hK : ∀ i, (XS i).K = w.K := by intro _; rfl) (hs : ∀ i, starEach [e] (XS i).env = [(false, eval e (XS i).env)] := by intro _; rfl) (hbase : ∀ i, attributeBase o "join" (XS i).env (eval o (XS i).env) = eval o (XS i).env := by intro _; rfl) (hline : (apos.endLine == pos.line) = true := by rfl) :
    DE XS w W (.Call (.Attribute o "join" apos) [e] [] pos) (seM1 dJoin sa sb) := by
  obtain ⟨t, h1, h2⟩ := ha
  obtain ⟨u, k1, k2⟩ := hb
  refine ⟨_, fun i => ?_, re_m1 (r := fun x xs H Q => ∃ a p, ∃ ys : List Str, x = .str a ∧ xs = [.ref p] ∧ (SqL w.K H p (ys.map V.str) ∨ SqT w.K H p (ys.map V.str)) ∧ (ys.map (·.length)).sum + ys.length * a.length ≤ 16777216 ∧ Q (.str (Txt.join a ys)) H) od_join h2 k2⟩
  have z := pe_join (apos := apos) (pos := pos) (h1 i) (k1 i) (hs i) (hbase i) hline
  rw [hK i] at z
  exact z
theorem de_lenSet (hm : ∀ i, (XS i).mg "len" = none) (hm2 : ∀ i, (XS i).mg "set" = none) (ha : DB XS w W e sb) (hK : ∀ i, (XS i).K = w.K := by intro _; rfl) (hg : ∀ i, Gl (XS i) "len" := by intro _; rfl) (hg2 : ∀ i, Gl (XS i) "set" := by intro _; rfl) (hc : ∀ i, (XS i).calm = true := by intro _; rfl)
    (na : ∀ i, starEach [e] (XS i).env = (false, eval e (XS i).env) :: starEach [] (XS i).env := by intro _; rfl) : DE XS w W (.Call (.Name "len" p) [.Call (.Name "set" p2) [e] [] q] [] pos) (seLenSet sb) := by
  obtain ⟨t, h1, h2⟩ := ha
  refine ⟨_, fun i => ?_, re_lenSet h2⟩
  have z := R7.pe_lenSetT (p := p) (p2 := p2) (q := q) (pos := pos) (hg i) (hm i) (hg2 i) (hm2 i) (h1 i) (hc i) (na i)
  rw [hK i] at z
  exact z
end
end M7
set_option maxHeartbeats 2000000
/-! enumerate(a list, start=k). -/
namespace R7
open PySem PySem.Spec PyProof.Rows L2
theorem callWith_typeKw {M : Model} {A : Around} {E : Value → Shared → Prop} {s : Shared} {pos : Pos} {T : String} {args : List (Bool × Sem Value)} {kws : List (Option Str × Sem Value)} {Q : Value → Shared → Prop}
    (hplain : (args.any (·.1) || kws.any (·.1.isNone)) = false) (h : wpAny M A (evalArgs (.type T) true args kws) (fun a s₁ => wpAny M A (call (.type T) a.pos a.kw) Q E s₁) E s) : wpAny M A (callWith pos (.type T) [] args kws) Q E s := by
  unfold callWith
  refine wpAny_bind (wpAny_holding (wpAny_mono h (fun a s₁ h₁ => wpAny_bind (wpAny_standAt ?_)) fun _ _ x => x))
  simp only [hplain]
  refine wpAny_bind (wpAny_pure ?_)
  exact wpAny_bind (wpAny_mono h₁ (fun r s₂ hr => wpAny_bind (wpAny_holding (wpAny_point (wpAny_pure hr)))) fun _ _ x => x)
def Iek (K : PySem.W.Frag) (k0 : Int) (a : Addr) : It :=
  ⟨fun i H => ∃ (xs : List V) (x : V), SqL K H a xs ∧ xs[i]? = some x, fun i H v H' => ∃ T x, v = .ref T ∧ H T = none ∧ H' = upd H T (.tup [.int (k0 + (i : Int)), x]) ∧ ∀ xs, SqL K H a xs → xs[i]? = some x, fun i H => ∃ xs : List V, SqL K H a xs ∧ xs.length ≤ i⟩
theorem turn_enumK {P : Program} {w : World} {K : PySem.W.Frag} {elts : List Expr} {kk : Nat} {tpos : Pos} (k0 : Int) (a e it : Addr) :
    Turn P w K (.Tuple elts kk tpos) (Iek K k0 a) [e, it] e (fun i h => (∃ old, IsEnum h e it (k0 + (i : Int)) old) ∧ h.IsListIter it a i ∧ e ≠ it) where
  mem := by simp
  obj := fun i h st b hb => by
    obtain ⟨⟨old, he⟩, ⟨o, ho, hc, hd⟩, _⟩ := st
    have e' : b = e ∨ b = it := by simpa using hb
    rcases e' with z | z
    · rw [z]; exact ⟨_, he, fun v q => nomatch q⟩
    · rw [z]; exact ⟨o, ho, fun v q => by rw [hd] at q; cases q⟩
  keep := fun i h h' st k => let ⟨⟨old, he⟩, hi, hne⟩ := st; ⟨⟨old, k e (by simp) _ he⟩, hi.at fun o q => k it (by simp) o q, hne⟩
  item := by
    intro X hP hw hK hc i pins s σ H E I hf st hg
    subst hP hw hK
    obtain ⟨⟨old, he⟩, hit, hne⟩ := st
    obtain ⟨xs, x, hq, hx⟩ := hg
    obtain ⟨its, rv, p, hz⟩ := I.list hq
    obtain ⟨u, hu, ru⟩ := rv.get hx
    have hel : e < s.heap.objs.size := Heap.lt_size he
    have hil : it < s.heap.objs.size := by obtain ⟨_, q, _⟩ := hit; exact Heap.lt_size q
    have pl := p.isList
    obtain ⟨ot, hot, hct, nt, hdt⟩ := pl
    obtain ⟨oi, hoi, hci, hdi⟩ := id hit
    have nai : a ≠ it := apart_of hot hoi (by rw [hct, hci]; intro z; injection z with z; exact absurd z (by decide))
    have nae : a ≠ e := apart_of hot he (by rw [hct]; intro z; injection z with z; exact absurd z (by decide))
    have hi : i < its.toArray.size := by
      rw [List.size_toArray]
      exact (List.getElem?_eq_some_iff.mp hu).1
    refine wpAny_pyNext_enum_itemC (Draws.list (by show X.A.in1.handled = none; exact I.ok.hd hc) it a nai its.toArray) he ⟨hit, ⟨ot, hot, hct, nt, hdt⟩⟩ hi hne (by simp [Ne.symm nae, hne]) fun x' h' tk hx' ho hst' hT hsz hk => ?_
    obtain rfl : u = x' := by
      have : its[i]? = some x' := by simpa using hx'
      rw [hu] at this
      exact Option.some.inj this
    obtain ⟨hit', _⟩ := hst'
    refine ⟨_, rfl, wpAny_letOwnedTupleGo_enum (s := { s with heap := h', toks := tk + 1 }) ho fun h'' he' sb => ?_⟩
    have hT2 : h''.get? s.heap.objs.size = some { cls := .type "tuple", data := .seq #[.int (k0 + (i : Int)) tk, u] } := (sb.2 _ (Nat.ne_of_gt hel)).trans hT
    have new : ObjOk X.prog X.w (upd H s.heap.objs.size (.tup [.int (k0 + (i : Int)), x])) h'' s.heap.objs.size (.tup [.int (k0 + (i : Int)), x]) :=
      ⟨by show 2 ≤ sizeLine; decide, [.int (k0 + (i : Int)) tk, u], .cons ⟨_, rfl⟩ (.cons ru .nil), ⟨_, hT2, rfl, _, rfl⟩⟩
    have I1 : Inv X pins σ (upd H s.heap.objs.size (.tup [.int (k0 + (i : Int)), x])) { s with heap := h'', toks := tk + 1 } :=
      I.turnedNew (ch := [e, it]) (fun b ob hb q => (sb.2 b (fun z => hb (by simp [z]))).trans (hk b ob (fun z => hb (by simp [z])) (fun z => hb (by simp [z])) q)) hf (Nat.le_refl _) new
    refine ⟨.ref s.heap.objs.size, _, I1, rfl, ⟨_, x, rfl, I.hok.fresh (Nat.le_refl _), rfl, fun ys hy => by rw [I.list_inj hy hq]; exact hx⟩, ⟨⟨u, ?_⟩, hit'.at fun o q => (sb.2 it (Ne.symm hne)).trans q, hne⟩, fun b hb => ?_⟩
    · have e1 : k0 + ((i + 1 : Nat) : Int) = k0 + (i : Int) + 1 := by omega
      rw [e1]; exact he'
    · have hb' : b < s.heap.objs.size := by
        have e' : b = e ∨ b = it := by simpa using hb
        rcases e' with z | z
        · rw [z]; exact hel
        · rw [z]; exact hil
      rw [upd_ne (Nat.ne_of_lt hb')]
      exact (hf b hb).1
  done := by
    intro X hP hw hK hc i pins s σ H E I hf st hg
    subst hP hw hK
    obtain ⟨⟨old, he⟩, hit, hne⟩ := st
    obtain ⟨xs, hq, hx⟩ := hg
    obtain ⟨its, rv, p, hz⟩ := I.list hq
    obtain ⟨f0, f1, f2, f3, f4, f5⟩ := hf it (by simp)
    have hl := rv.length
    have hT : s.TypeIs (.ref e) "enumerate" := ⟨_, he, rfl⟩
    unfold pyNext
    refine wpAny_bind (wpAny_attempt (wpAny_callSpecial?_slot (name := Str.ofString "__next__") hT F.slot_enumerate_next
      (wpAny_call_entry F.slot_enumerate_next hT F.entry_enumerate_next ?_ (F.args_enumerate_next_1 _))))
    show wpAny _ _ (field (.ref e) 2 >>= _) _ _ _
    refine wpAny_bind (wpAny_field he rfl (x := .ref it) rfl ?_)
    refine wpAny_bind (wpAny_nextOf_list_end (i := i) (I.ok.hd hc) hit p.isList (by simp; omega) fun h' x he' hx' => ?_)
    obtain ⟨o, ho, hc'⟩ := hx'
    refine wpAny_bind (wpAny_isInstance (T := "StopIteration") (b := true) ⟨o, ho, hc'⟩ isSubtype_stop ?_)
    exact wpAny_pure ⟨rfl, I.turned (t' := s.toks) (fun b o hb q => he' b o hb q) f0 f1 f3 f4 f5⟩
  self := fun A i s Q E st h => let ⟨⟨_, he⟩, _⟩ := st; wpAny_pyIter_enum he h
def iEnumK (K : PySem.W.Frag) (k0 : Int) (ta : TA) : TI := fun σ H R => ta σ H fun vs H1 => ∃ a xs, vs = [.ref a] ∧ SqL K H1 a xs ∧ R (Iek K k0 a) H1
theorem pi_enumK {X : Cx} {e : Expr} {ta : TA} {p pos tpos cp kp : Pos} {j : Nat} {k0 : Int} {elts : List Expr} {kk : Nat} (h0 : -(2 ^ 63) ≤ k0) (h1 : k0 < 2 ^ 63) (hg : Gl X "enumerate") (hm : X.mg "enumerate" = none) (ha : PA X [e] ta) (hs : starEach [e] X.env = (false, eval e X.env) :: starEach [] X.env) (hall : (backToKw pos (keywordEach [⟨some "start", .Constant (.int k0) j cp, kp⟩] X.env)).all (·.1.isSome) = true)
    (hpl : ((backTo pos (starEach [e] X.env)).any (·.1) || (backToKw pos (keywordEach [⟨some "start", .Constant (.int k0) j cp, kp⟩] X.env)).any (·.1.isNone)) = false) :
    PI X (.Tuple elts kk tpos) (.Call (.Name "enumerate" p) [e] [⟨some "start", .Constant (.int k0) j cp, kp⟩] pos) (iEnumK X.K k0 ta) := by
  refine ⟨fun pins s σ H R I h => ?_⟩
  refine wpAny_Call_Name_kw (ld_blt I hg hm boot_enumerate (callWith_typeKw hpl ?_))
  refine evalArgs_kw2 hall (thn (ha.run pos pins s σ H _ I h) fun us s1 ⟨vs, H1, I1, r1, q1⟩ => ?_) hs
  refine thn ((pk_cons (X := X) (nm := some "start") (kpos := kp) (pe_int (X := X) (i := k0) (j := j) (pos := cp)) pk_nil).run pos pins s1 σ H1 (fun zs H2 => zs = [.int k0] ∧ H2 = H1) I1 ⟨rfl, rfl⟩) fun ws s2 ⟨zs, H2, I2, rz, ez, eH⟩ => ?_
  subst ez eH
  obtain ⟨t, rfl⟩ : ∃ t, ws = [Value.int k0 t] := by
    cases rz with
    | cons r rr =>
      cases rr
      obtain ⟨t, rfl⟩ := r
      exact ⟨t, rfl⟩
  obtain ⟨a, xs, ex, hq, q⟩ := q1
  subst ex
  cases r1 with
  | cons r rr =>
    cases rr
    cases r
    obtain ⟨its, rv, p', hz⟩ := I2.list hq
    refine enum_begins_start (begins_list a its.toArray) p'.isList h0 h1 fun h' he hit hsz hk => wpAny_pyIter_enum he ?_
    have I3 : Inv X pins σ H2 { s2 with heap := h' } := I2.kept (t' := s2.toks) hk
    refine ⟨s2.heap.objs.size + 1, [s2.heap.objs.size + 1, s2.heap.objs.size], _, _, H2, rfl, I3, turn_enumK k0 a (s2.heap.objs.size + 1) s2.heap.objs.size, ⟨⟨.none, by rw [show k0 + ((0 : Nat) : Int) = k0 from Int.add_zero k0]; exact he⟩, ⟨_, hit, rfl, rfl⟩, Nat.succ_ne_self _⟩, fun b hb => ?_, q⟩
    have e' : b = s2.heap.objs.size + 1 ∨ b = s2.heap.objs.size := by simpa using hb
    have hle : s2.heap.objs.size ≤ b := by
      rcases e' with z | z
      · rw [z]; exact Nat.le_add_right _ _
      · rw [z]; exact Nat.le_refl _
    exact I2.fpOk hle (I2.hok.fresh hle)
theorem walk_enumK {K : PySem.W.Frag} {k0 : Int} {a : Addr} {xs : List V} : Walk (Iek K k0 a) xs.length (fun H => SqL K H a xs) (YPair (fun i => some (.int (k0 + (i : Int)))) (fun i => xs[i]?)) := by
  refine ⟨fun i _ hi q => ⟨xs, xs[i], q, by simp [hi]⟩, fun _ q => ⟨xs, q, Nat.le_refl _⟩, fun i H v H' _ q y => ?_⟩
  obtain ⟨T, x, h1, h2, h3, h4⟩ := y
  exact ⟨T, .int (k0 + (i : Int)), x, h1, h2, h3, rfl, h4 xs q⟩
end R7
namespace M7
open PySem PySem.Spec PyProof.Rows L2
section
variable {w : WD} {W : WX} {π : Nat → V} {B B' B1 Z : Hp} {g : G} {σ : L2.St} {H H' : Hp} {v : V}
def enumK (k0 : Int) : List D → List D
  | [] => []
  | d :: ds => .tup [.int k0, d] :: enumK (k0 + 1) ds
theorem enumK_get : ∀ {ds : List D} {k0 : Int} {i : Nat} {d : D}, (enumK k0 ds)[i]? = some d → ∃ e, ds[i]? = some e ∧ d = .tup [.int (k0 + (i : Int)), e]
  | [], _, _, _, h => by cases h
  | e :: ds, k0, 0, d, h => by
    cases h
    exact ⟨e, rfl, by rw [show k0 + ((0 : Nat) : Int) = k0 from Int.add_zero k0]⟩
  | e :: ds, k0, i + 1, d, h => by
    obtain ⟨e', h1, h2⟩ := enumK_get (k0 := k0 + 1) (i := i) h
    exact ⟨e', h1, by rw [h2, show k0 + 1 + (i : Int) = k0 + ((i + 1 : Nat) : Int) by omega]⟩
theorem enumK_len : ∀ (k0 : Int) (ds : List D), (enumK k0 ds).length = ds.length
  | _, [] => rfl
  | k0, d :: ds => by show (enumK (k0 + 1) ds).length + 1 = _; rw [enumK_len]; rfl
def enK (k0 : Int) : List D → Option (List D)
  | [.lst ds] => some (enumK k0 ds)
  | _ => none
theorem ri_enumK {k0 : Int} {ta : TA} {sa : SA} (h : RA w W ta sa) : RI w W (R7.iEnumK w.K k0 ta) (siV (enK k0) sa) := fun π B Z g σ H R s q =>
  h π B Z g σ H _ s (Tail.bAI q fun rs g1 vs B1 H1 e1 s1 r1 q1 => by
    split at q1
    · rename_i ds hr
      have hd := r1.datas hr
      split at q1
      · rename_i es he
        unfold enK at he
        split at he
        · rename_i ds
          cases he
          cases hd with
          | cons a t =>
            cases t
            cases a with
            | lst hb hx =>
              refine ⟨_, _, rfl, .inl (.inl (s1.sub.at hb rfl)), q1 _ B1 H1 (Ext.refl _) s1 ?_⟩
              refine walks_of R7.walk_enumK (by rw [enumK_len, hx.len]) (fun B2 H2 e2 s2 => .inl (.inl (s2.at (e2 _ _ hb) rfl))) fun B2 i d H2 x H3 e2 s2 q2 y => ?_
              obtain ⟨e, k1, rfl⟩ := enumK_get q2
              exact ypair (B := B1) (ds := fun i => some (.int (k0 + (i : Int)))) (es := fun i => ds[i]?) (fun i d q => by cases q; exact ⟨_, rfl, .int _⟩) (fun i d q => hx.get q) B2 i _ e H2 x H3 e2 s2 rfl k1 y
        · cases he
      · exact q1.elim
    · exact q1.elim)
theorem di_enumK {ι : Type} {XS : ι → Cx} {elts : List Expr} {kk : Nat} {tpos p pos cp kp : Pos} {j : Nat} {k0 : Int} {e : Expr} {args : SA} (hm : ∀ i, (XS i).mg "enumerate" = none) (ha : DA XS w W [e] args) (h0 : -(2 ^ 63) ≤ k0 := by decide) (h1 : k0 < 2 ^ 63 := by decide) (hg : ∀ i, Gl (XS i) "enumerate" := by intro _; rfl) (hs : ∀ i, starEach [e] (XS i).env = (false, eval e (XS i).env) :: starEach [] (XS i).env := by intro _; rfl)
    (hall : ∀ i, (backToKw pos (keywordEach [⟨some "start", .Constant (.int k0) j cp, kp⟩] (XS i).env)).all (·.1.isSome) = true := by intro _; rfl) (hpl : ∀ i, ((backTo pos (starEach [e] (XS i).env)).any (·.1) || (backToKw pos (keywordEach [⟨some "start", .Constant (.int k0) j cp, kp⟩] (XS i).env)).any (·.1.isNone)) = false := by intro _; rfl) (hK : ∀ i, (XS i).K = w.K := by intro _; rfl) :
    DI XS w W (.Tuple elts kk tpos) (.Call (.Name "enumerate" p) [e] [⟨some "start", .Constant (.int k0) j cp, kp⟩] pos) (siV (enK k0) args) := by
  obtain ⟨t, k1, k2⟩ := ha
  exact ⟨_, fun i => by rw [← hK i]; exact R7.pi_enumK h0 h1 (hg i) (hm i) (k1 i) (hs i) (hall i) (hpl i), ri_enumK k2⟩
end
end M7
/-! x[::-1], x op= e, a statement that is never reached. -/
namespace M7
open PySem PySem.Spec PyProof.Rows L2
section
variable {w : WD} {W : WX} {π : Nat → V} {B B' B1 Z : Hp} {g : G} {σ : L2.St} {H H' : Hp} {v : V}
def seRevL (sb : SB) : SE := fun g => (sb g).bind fun r g1 => match r.get g1 with
  | some (.lst ds) => .ok (true, .lst ds.reverse) g1
  | _ => .fail
theorem re_revL {ta : TE} {sb : SB} (h : RB w W ta sb) : RE w W (tRevL w.K ta) (seRevL sb) := fun π B Z g σ H Q s q =>
  h π B Z g σ H _ s (tailE.bB q fun r g1 v B1 H1 e1 s1 r1 q1 => by
    split at q1
    · rename_i ds hr
      obtain ⟨a, xs, rfl, ha, hx⟩ := lk_lst s1.sub (s1.lk r1 hr)
      exact ⟨a, xs, rfl, .inl (.inl ha), fun p hp => q1 _ B1 _ (Ext.refl _) (s1.grow (Ext.new hp)) (s1.new_res hp (.lst upd_same hx.rev))⟩
    · exact q1.elim)
/-- name op= e, ints -/
def ssAugI (f : Int → Int → Int) (k : Nat) (se : SE) : SS := fun g => match g[k]? with
  | some (some (.f, .int a)) => ofO (se g) fun r g1 => match r.2 with
    | .int b => match setS g1 k (false, .int (f a b)) with
      | some g2 => .nx g2
      | none => .fail
    | _ => .fail
  | _ => .fail
theorem rs_augI {f : Int → Int → Int} {k : Nat} {te : TE} {se : SE} (h : RE w W te se) : RS w W (tAug k te (ipI f)) (ssAugI f k se) := fun π B Z g σ H D s q => by
  unfold ssAugI at q
  split at q
  · rename_i a hk
    obtain ⟨v, h1, h2⟩ := s.fz k .f _ hk rfl
    cases h2
    refine ⟨_, h1, h π B Z g σ H _ s (postS_E q fun o d g1 u B1 H1 e s1 r q1 => ?_)⟩
    split at q1
    · rename_i b hb
      have hb : d = .int b := hb
      subst hb
      have hu : u = .int b := by
        cases o with
        | false =>
          have r : Den w B1 u (.int b) := r
          cases r
          rfl
        | true =>
          obtain ⟨x, _, _, _, ho, _⟩ := r
          cases ho
      subst hu
      split at q1
      · rename_i g2 e2
        exact ⟨a, b, rfl, rfl, q1 B1 H1 _ (Ext.refl _) (s1.set (o := false) (show Res w B1 Z g1 σ H1 (.int (f a b)) false (.int (f a b)) from Den.int _) e2)⟩
      · exact q1.elim
    · exact q1.elim
  · exact q.elim
end
section
variable {w : WD} {W : WX} {ι : Type} {XS : ι → Cx} {e : Expr} {sb : SB} {se : SE} {p1 p2 p3 pos pos' : Pos} {x : Str}
theorem de_revL {k : Nat} (h : DB XS w W e sb) (hK : ∀ i, (XS i).K = w.K := by intro _; rfl) : DE XS w W (.Subscript e (.Slice none none (some (.UnaryOp .USub (.Constant (.int 1) k p1) p2)) p3) pos) (seRevL sb) := by
  obtain ⟨t, h1, h2⟩ := h
  exact ⟨_, fun i => by rw [← hK i]; exact pe_revL (h1 i), re_revL h2⟩
theorem ds_augI {op : Operator} {f : Int → Int → Int} (k : Nat) (ho : ∀ i, PIp (XS i) op (ipI f)) (hnd : ∀ i, (XS i).N.Nodup) (h : DE XS w W e se) (hi : ∀ i, (XS i).N[k]? = some x := by intro _; rfl) (hx : ∀ i, Loc (XS i).env.scope x := by intro _; first | exact .inl rfl | exact .inr rfl) (hf : ∀ i, (XS i).fn x = true ∨ (XS i).env.scope.names.lookup x = some .local := by intro _; first | exact .inl rfl | exact .inr rfl) :
    DS XS w W (.AugAssign (.Name x pos') op e pos) (ssAugI f k se) := by
  obtain ⟨t, h1, h2⟩ := h
  exact ⟨_, fun i => ps_aug (hnd i) (hi i) (hx i) (h1 i) (ho i) (hf i), rs_augI h2⟩
/-- what is never reached -/
def ssNo : SS := fun _ => .fail
theorem ds_no {st : Stmt} : DS XS w W st ssNo := ⟨fun _ _ _ => False, fun _ => ⟨fun _ _ _ _ _ _ h => h.elim⟩, fun _ _ _ _ _ _ _ _ q => q⟩
def seNo : SE := fun _ => .fail
theorem de_no : DE XS w W e seNo := ⟨fun _ _ _ => False, fun _ => ⟨fun _ _ _ _ _ _ h => h.elim⟩, fun _ _ _ _ _ _ _ _ q => q⟩
end
end M7
/-! try .. except X. -/
namespace M7
open PySem PySem.Spec PyProof.Rows L2
section
variable {w : WD} {W : WX} {ι : Type} {XS : ι → Cx}
/-- the contexts of a try's body -/
def trIx (XS : ι → Cx) (W : WX) : Type := { q : ι × List (Addr × Obj) × (Value → Shared → Prop) // Takes ((XS q.1).tr q.2.1 q.2.2) W ∧ PassesOwn (model (XS q.1).prog (XS q.1).w) (XS q.1).A (XS q.1).env q.2.2 }
def trS (XS : ι → Cx) (W : WX) : trIx XS W → Cx := fun q => (XS q.1.1).tr q.1.2.1 q.1.2.2
/-- .. of a clause's suite -/
def suS (XS : ι → Cx) : ι × Addr × List (Addr × Obj) → Cx := fun q => (XS q.1).suite q.2.1 q.2.2
/-- what the clause of c catches -/
def Ctc (w : WD) (c : Value) (mt : XN → Bool) : Prop := ∀ y, w.has y → PySem.W.exmOne w.K (.ref (w.exc y)) c = some (mt y)
def ssTry (mt : XN → Bool) (ssb su : SS) : SS := fun g => match ssb g with
  | .ex y f g1 => if mt y = true then su g1 else .ex y f g1
  | r => r
theorem rs_try {c : Value} {mt : XN → Bool} {tb : WX → TS} {ts : TS} {ssb su : SS} (hm : Ctc w c mt) (hb : ∀ W', RS w W' (tb W') ssb) (hs : RS w WT ts su) : RS w W (fun D σ H => tb (wOnly w.K c (fun _ _ _ => ts) W D) D σ H) (ssTry mt ssb su) := fun π B Z g σ H D s q => by
  refine hb _ π B Z g σ H D s ?_
  unfold ssTry at q
  cases hg : ssb g with
  | ex y f g1 =>
    rw [hg] at q
    intro hx dd B' H' σ' e s' xo
    refine ⟨mt y, hm y hx, fun hy a ha => hs π B' Z g1 σ' H' D s' ?_, fun hn => ?_⟩
    · have q : PostS w W π B Z D (if mt y = true then su g1 else .ex y f g1) := q
      rw [if_pos hy] at q
      revert q
      cases su g1 with
      | nx g => exact fun q B'' H'' σ'' e2 => q B'' H'' σ'' (e.trans e2)
      | bk g => exact fun q B'' H'' σ'' e2 => q B'' H'' σ'' (e.trans e2)
      | ct g => exact fun q B'' H'' σ'' e2 => q B'' H'' σ'' (e.trans e2)
      | rt o d g => exact fun q v B'' H'' σ'' e2 => q v B'' H'' σ'' (e.trans e2)
      | ex x f g => exact fun q _ _ _ _ _ _ _ _ => trivial
      | fail => exact fun q => q.elim
    · have q : PostS w W π B Z D (if mt y = true then su g1 else .ex y f g1) := q
      rw [if_neg (by rw [hn]; decide)] at q
      exact q hx dd B' H' σ' e s' xo
  | nx g1 => rw [hg] at q; exact q
  | bk g1 => rw [hg] at q; exact q
  | ct g1 => rw [hg] at q; exact q
  | rt o d g1 => rw [hg] at q; exact q
  | fail => rw [hg] at q; exact q.elim
theorem ds_try {x : Str} {c : Value} {mt : XN → Bool} {body suite : List Stmt} {b0 : Stmt} {np pos pos' : Pos} {ssb su : SS} (hm : Ctc w c mt) (hc : ∀ i, Names (XS i) x c) (tk : ∀ i, Takes (XS i) W) (hb : ∀ W', DSs (trS XS W') w W' body ssb) (hsu : DSs (suS XS) w WT (b0 :: suite) su)
    (hs : ∀ i, (XS i).stack = (XS i).env :: (XS i).outer := by intro _; rfl) (hf : ∀ i, (XS i).env.frame = some (XS i).env.locals := by intro _; rfl) (hK : ∀ i, (XS i).K = w.K := by intro _; rfl) :
    DS XS w W (.Try body [.ExceptHandler (some (.Name x np)) none (b0 :: suite) pos'] [] [] pos) (ssTry mt ssb su) := by
  obtain ⟨ts, k1, k2⟩ := hsu
  refine ⟨_, fun i => ?_, rs_try (tb := fun W' => (hb W').choose) hm (fun W' => (hb W').choose_spec.2) k2⟩
  have z := ps_try_only (X := XS i) (x := x) (c := c) (body := body) (suite := suite) (b₀ := b0) (np := np) (pos := pos) (pos' := pos') (tb := fun W' => (hb W').choose) (ts := fun _ _ _ => ts) (Wout := W) (hs i) (hf i) (hc i) (tk i)
    (fun W' pn xe h1 h2 => (hb W').choose_spec.1 ⟨(i, pn, xe), h1, h2⟩) (fun a oe cls d pn _ _ => k1 (i, a, (a, oe) :: pn))
  rw [hK i] at z
  exact z
theorem Fam.tr {P : Program} {wl : World} {mg : Str → Option Value} {base : Heap} {gb : Bool} {n : Nat} {W' : WX} (F : Fam P wl mg base w gb n XS) : Fam P wl mg base w gb n (trS XS W') :=
  ⟨fun q => F.prog q.1.1, fun q => F.wl q.1.1, fun q => F.K q.1.1, fun q => F.mg q.1.1, fun q => F.base q.1.1, fun q => F.gd q.1.1, fun q => F.room q.1.1⟩
theorem tr_takes {W' : WX} (q : trIx XS W') : Takes (trS XS W' q) W' := q.2.1
theorem tr_passes {W' : WX} (q : trIx XS W') : PassesOwn (model (trS XS W' q).prog (trS XS W' q).w) (trS XS W' q).A (trS XS W' q).env (trS XS W' q).xe := q.2.2
end
end M7
/-! repr of data. -/
namespace R7
open PySem PySem.Spec PyProof.Rows L2
mutual
/-- x is the datum d in the heap H -/
inductive DatK (K : PySem.W.Frag) (H : Hp) : V → PyData → Prop
  | non : DatK K H .non .none
  | bl (b : Bool) : DatK K H (.bl b) (.bool b)
  | int (i : Int) : DatK K H (.int i) (.int i)
  | str (x : Str) : DatK K H (.str x) (.str x)
  | lst {a : Addr} {xs : List V} {ds : List PyData} : H a = some (.lst xs) → DatsK K H xs ds → DatK K H (.ref a) (.list ds)
  | tup {a : Addr} {xs : List V} {ds : List PyData} : SqT K H a xs → DatsK K H xs ds → DatK K H (.ref a) (.tuple ds)
  | dct0 {a : Addr} : Rd H a (.dK []) → DatK K H (.ref a) (.dict [])
inductive DatsK (K : PySem.W.Frag) (H : Hp) : List V → List PyData → Prop
  | nil : DatsK K H [] []
  | cons {v : V} {vs : List V} {d : PyData} {ds : List PyData} : DatK K H v d → DatsK K H vs ds → DatsK K H (v :: vs) (d :: ds)
end
section
variable {X : Cx} {pins : List (Addr × Obj)} {σ : L2.St} {H : Hp} {s : Shared}
mutual
theorem DatK.reads (I : Inv X pins σ H s) (Z : SysB X.base) : ∀ {d : PyData} {v : V} {u : Value}, DatK X.K H v d → RelV v u → ∃ as, Reads s.heap u d as ∧ sysModules ∉ as
  | _, _, _, .non, r => by
    cases r
    exact ⟨_, .none, by simp⟩
  | _, _, _, .bl b, r => by
    cases r
    exact ⟨_, .bool b, by simp⟩
  | _, _, _, .int i, r => by
    obtain ⟨t, rfl⟩ := r
    exact ⟨_, .int i t, by simp⟩
  | _, _, _, .str x, r => by
    obtain ⟨t, rfl⟩ := r
    exact ⟨_, .str x t, by simp⟩
  | _, _, _, .lst (a := a) e hs, r => by
    cases r
    obtain ⟨z, its, n, rv, ho⟩ := I.hok a _ e
    obtain ⟨as, hr, na⟩ := DatsK.reads I Z hs rv
    refine ⟨_, .list ho rfl rfl hr, fun m => ?_⟩
    rcases List.mem_cons.mp m with q | q
    · obtain ⟨o, ho⟩ := Z
      have := (I.bs _ _ ho).2
      rw [q, e] at this
      cases this
    · exact na q
  | _, _, _, .tup (a := a) e hs, r => by
    cases r
    obtain ⟨its, rv, ⟨o, ho, hc, n, hd⟩, z⟩ := I.tuple e
    obtain ⟨as, hr, na⟩ := DatsK.reads I Z hs rv
    exact ⟨_, .tuple ho hc hd hr, na⟩
  | _, _, _, .dct0 (a := a) e, r => by
    cases r
    obtain ⟨_, lo, vs, rk, o, es, ep, h1, h2, h3, _, h5, _⟩ := dk_rd I.hok e
    cases rk
    have he : es.toList = [] := by
      cases hq : es.toList with
      | nil => rfl
      | cons x y => rw [hq] at h5; cases h5
    refine ⟨_, .dict h1 h2.1 h3 (as := []) (bs := []) (by rw [he]; exact .nil) (by rw [he]; exact .nil), fun m => ?_⟩
    simp at m
    rw [m] at lo
    simp at lo
theorem DatsK.reads (I : Inv X pins σ H s) (Z : SysB X.base) : ∀ {ds : List PyData} {vs : List V} {us : List Value}, DatsK X.K H vs ds → Vals vs us → ∃ as, ReadsAll s.heap us ds as ∧ sysModules ∉ as
  | _, _, _, .nil, .nil => ⟨_, .nil, by simp⟩
  | _, _, _, .cons h1 h2, .cons r1 r2 => by
    obtain ⟨as, q1, n1⟩ := DatK.reads I Z h1 r1
    obtain ⟨bs, q2, n2⟩ := DatsK.reads I Z h2 r2
    exact ⟨_, .cons q1 q2, fun m => (List.mem_append.mp m).elim n1 n2⟩
end
def rRepK (K : PySem.W.Frag) : List V → Hp → VK → Prop := fun xs H Q => ∃ x d, xs = [x] ∧ DatK K H x d ∧ d.showable = true ∧ d.shown.length ≤ sizeLine ∧ d.depth ≤ 20 ∧ Q (.str d.shown) H
theorem call_repK (Z : SysB X.base) (hg : X.A.guards = some []) (hu : X.A.units + 64 < cLine) : CallR X (.builtin "repr") (rRepK X.K) := by
  intro pins s σ H xs us Q I r h
  obtain ⟨x, d, rfl, hd, hs, hz, hdp, q⟩ := h
  obtain ⟨u, rfl, rx⟩ := vals1 r
  have fin : ∀ (h' : Heap) (t : Tok) (tk : Nat), (∀ b o, s.heap.get? b = some o → h'.get? b = some o) → EP X pins σ Q (.str d.shown t) { s with heap := h', toks := tk } := fun h' t tk hk => ⟨.str d.shown, H, I.kept hk, ⟨t, rfl⟩, q⟩
  have rd := hd.reads I Z rx
  have big : ∀ a, u = .ref a → wpAny (model X.prog X.w) X.A (call (.builtin "repr") [u]) (EP X pins σ Q) X.xe s := fun a e => by
    subst e
    obtain ⟨as, rd, na⟩ := rd
    exact repr_of_reads' rd hs (fun _ => na) hg (by omega) (fun _ _ e => e) (fun h' t tk hk => fin h' t tk hk) hz
  cases hd with
  | non =>
    cases rx
    simp only [PyData.shown] at fin ⊢
    exact PySem.P.repr_of_none (fin s.heap _ _ fun _ _ e => e)
  | bl b =>
    cases rx
    simp only [PyData.shown] at fin ⊢
    exact PySem.P.repr_of_bool (fin s.heap _ _ fun _ _ e => e)
  | int i =>
    obtain ⟨t, rfl⟩ := rx
    simp only [PyData.shown] at fin ⊢
    exact PySem.P.repr_of_int (by simpa [PyData.showable] using hs) (fin s.heap _ _ fun _ _ e => e)
  | str x =>
    obtain ⟨t, rfl⟩ := rx
    simp only [PyData.shown] at fin hz ⊢
    exact PySem.P.repr_of_str (fin s.heap _ _ fun _ _ e => e) hz
  | lst _ _ => exact big _ rx
  | tup _ _ => exact big _ rx
  | dct0 _ => exact big _ rx
end
end R7
namespace M7
open PySem PySem.Spec PyProof.Rows L2
mutual
def pd : D → Option PyData
  | .non => some .none
  | .bl b => some (.bool b)
  | .int i => some (.int i)
  | .str x => some (.str x)
  | .lst ds => (pds ds).map .list
  | .tup ds => (pds ds).map .tuple
  | .dct [] => some (.dict [])
  | _ => none
def pds : List D → Option (List PyData)
  | [] => some []
  | d :: r => match pd d, pds r with
    | some p, some q => some (p :: q)
    | _, _ => none
end
section
variable {w : WD} {W : WX} {π : Nat → V} {B B' B1 Z : Hp} {g : G} {σ : L2.St} {H H' : Hp} {v : V}
mutual
theorem den_dat (s : Sub B H) : ∀ {v : V} {d : D} {p : PyData}, Den w B v d → pd d = some p → R7.DatK w.K H v p
  | _, _, _, .non, e => by cases e; exact .non
  | _, _, _, .bl b, e => by cases e; exact .bl b
  | _, _, _, .int b, e => by cases e; exact .int b
  | _, _, _, .str b, e => by cases e; exact .str b
  | _, .lst ds, _, .lst ha hx, e => by
    unfold pd at e
    cases h : pds ds with
    | none => rw [h] at e; cases e
    | some q =>
      rw [h] at e
      cases e
      exact .lst (s.at ha rfl) (dens_dat s hx h)
  | _, .tup ds, _, .tup ha hx, e => by
    unfold pd at e
    cases h : pds ds with
    | none => rw [h] at e; cases e
    | some q =>
      rw [h] at e
      cases e
      exact .tup (s.sqT ha) (dens_dat s hx h)
  | _, _, _, .scr _ _, e => by unfold pd at e; cases e
  | _, _, _, .dct (ks := ks) (vs := vs) (ds := ds) ha hl hx, e => by
    have hz : ks.zip ds = [] ∧ ks.zip vs = [] := by
      cases ks with
      | nil => exact ⟨rfl, rfl⟩
      | cons k ks =>
        cases ds with
        | nil =>
          cases hx
          exact ⟨rfl, rfl⟩
        | cons d ds =>
          unfold pd at e
          cases e
    rw [hz.1] at e
    rw [hz.2] at ha
    unfold pd at e
    cases e
    exact .dct0 (s.rd (.inl ha))
  | _, _, _, .obj _ _ _, e => by unfold pd at e; cases e
  | _, _, _, .cls _, e => by unfold pd at e; cases e
theorem dens_dat (s : Sub B H) : ∀ {vs : List V} {ds : List D} {ps : List PyData}, Dens w B vs ds → pds ds = some ps → R7.DatsK w.K H vs ps
  | _, _, _, .nil, e => by cases e; exact .nil
  | _, d :: ds, _, .cons r t, e => by
    unfold pds at e
    split at e
    · rename_i p q h1 h2
      cases e
      exact .cons (den_dat s r h1) (dens_dat s t h2)
    · cases e
end
def dRep : List D → Option (Bool × D)
  | [d] => match pd d with
    | some p => if p.showable = true ∧ p.shown.length ≤ sizeLine ∧ p.depth ≤ 20 then some (false, .str p.shown) else none
    | none => none
  | _ => none
theorem cd_rep : CallD w (R7.rRepK w.K) dRep := fun π B Z g σ H Q vs ds s h q => by
  unfold dRep at q
  split at q
  · obtain ⟨v, rfl, hv⟩ := lks1 h
    rename_i d
    split at q
    · rename_i p hp
      split at q
      · rename_i hc
        refine ⟨v, p, rfl, ?_, hc.1, hc.2.1, hc.2.2, fin_d s q (.str _)⟩
        cases hv with
        | den hv => exact den_dat s.sub hv hp
        | own _ ho =>
          cases ho with
          | lst ha hx =>
            rename_i a xs es
            unfold pd at hp
            cases h : pds es with
            | none => rw [h] at hp; cases hp
            | some q =>
              rw [h] at hp
              cases hp
              exact .lst ha (dens_dat s.sub hx h)
          | dct ha hl hx =>
            rename_i a ks xs es
            have hz : ks.zip es = [] ∧ ks.zip xs = [] := by
              cases ks with
              | nil => exact ⟨rfl, rfl⟩
              | cons k ks =>
                cases es with
                | nil =>
                  cases hx
                  exact ⟨rfl, rfl⟩
                | cons d ds =>
                  unfold pd at hp
                  cases hp
            rw [hz.1] at hp
            rw [hz.2] at ha
            unfold pd at hp
            cases hp
            exact .dct0 (.inl ha)
          | obj _ _ _ => unfold pd at hp; cases hp
      · exact q.elim
    · exact q.elim
  · exact q.elim
end
theorem call_repF {w : WD} {ι : Type} {XS : ι → Cx} {P : Program} {wl : World} {mg : Str → Option Value} {base : Heap} {n : Nat} (F : Fam P wl mg base w true n XS) (Z : R7.SysB base) (i : ι) : CallR (XS i) (.builtin "repr") (R7.rRepK w.K) := by
  rw [← F.K i]
  exact R7.call_repK (by rw [F.base i]; exact Z) (F.gd i rfl) (F.room i).units
end M7
/-! __init__(self, *rods, k = d, ..). -/
namespace M7
open PySem PySem.Spec PyProof.Rows L2
theorem len2 {α : Type} {l : List α} (h : l.length = 2) : ∃ a b, l = [a, b] := by
  match l, h with
  | [a, b], _ => exact ⟨a, b, rfl⟩
theorem len4 {α : Type} {l : List α} (h : l.length = 4) : ∃ a b c d, l = [a, b, c, d] := by
  match l, h with
  | [a, b, c, d], _ => exact ⟨a, b, c, d, rfl⟩
def swap2 {α : Type} : List α → List α
  | [a, b] => [b, a]
  | l => l
theorem vals_swap2 : ∀ {zs : List V} {ws : List Value}, Vals zs ws → zs.length = 2 → Vals (swap2 zs) (swap2 ws)
  | [_, _], _, .cons a (.cons b .nil), _ => .cons b (.cons a .nil)
theorem dens_swap2 {w : WD} {B : Hp} : ∀ {zs : List V} {ds : List D}, Dens w B zs ds → zs.length = 2 → Dens w B (swap2 zs) (swap2 ds)
  | [_, _], _, .cons a (.cons b .nil), _ => .cons b (.cons a .nil)
theorem gv_id {w : WD} {m : Nat} : GV w m id id := fun _ _ _ h _ => h
theorem gv_swap2 {w : WD} : GV w 2 swap2 swap2 := fun _ _ _ h l => dens_swap2 h l
section
variable {P : Program} {wl : World} {mg : Str → Option Value} {base : Heap} {w : WD}
theorem cxb_up {b : Bool} : StX.CXUp (CXb b P wl) := by
  cases b with
  | false => exact fun _ _ _ _ _ _ _ _ _ _ _ z => z
  | true => exact StX.cxUp
theorem init_D {bx : Bool} {name qual p1 pv : Str} {s : Stmt} {kws : List (Str × V)} {f : Addr} {fd : FuncData} {N opts ks : List Str} {k : Nat} {ss : SS} {g : List Value → List Value} {gV : List V → List V} (F : FunD w.K name qual (defArgs s) (defBody s) (defScope s) [] kws f fd) (S : FnScope N (p1 :: (opts ++ [pv])) (defScope s))
    (hrel : ∀ {zs : List V} {ws : List Value}, Vals zs ws → zs.length = ks.length → Vals (gV zs) (g ws)) (hlen : ∀ zs : List V, zs.length = ks.length → (gV zs).length = opts.length)
    (hb : ∀ (kV doc pm : Value) (an : Option Addr) (cdv ct : Value) (M : Model) (A : Around) (Q : List (Str × Value) → Shared → Prop) (Ex : Value → Shared → Prop) (sh : Shared) (a : Value) (rest ws : List Value), KwdV w.K kV kws → w.K.In sh.heap → ws.length = ks.length →
      wpAny M A (newTuple rest >>= fun t => pure ((p1 :: opts).zip (a :: g ws) ++ [(pv, t)])) Q Ex sh → wpAny M A (bindArgs (PySem.W.fnOf name qual (defArgs s) (defBody s) (defScope s) .none kV doc pm an cdv ct) ⟨a :: rest, ks.zip ws⟩) Q Ex sh)
    (hbody : ∀ (cdv : Value) (A : Around) (outer : List Env) (sh : Shared) (H : Hp) (E : XK), Room k (A.deeper (envOfC qual (defScope s) sh.heap.objs.size f cdv)) →
      DSs (fun _ : Unit => cxOf (CXb bx P wl) P wl w.K mg base N qual (defScope s) f cdv A outer sh H E) w (fun cls d _ H => E cls d H) (defBody s) ss) : R7.FnK P wl w.K mg base (CXb bx P wl) (k + 1) f ks (spStar w (bodyFn (opts.length + 2) N.length ss) gV) := by
  obtain ⟨oc, od, dV, kV, doc, pm, an, cdv, ct, osl, rfl, lk, hcd, hD, hK⟩ := F.ex
  rcases hD with ⟨_, rfl⟩ | ⟨e, _⟩
  rotate_left
  · exact absurd rfl e
  refine R7.fn_starK (sp := spD w (bodyFn (opts.length + 2) N.length ss)) (opts := opts) (g := g) (gV := gV) (p1 := p1) (pv := pv) lk hcd S cxb_up hrel hlen (fun M A Q Ex sh a rest ws X l h => hb kV doc pm an cdv ct M A Q Ex sh a rest ws hK X l h) fun A outer sh H vs Q E hr h => ?_
  obtain ⟨t, h1, h2⟩ := hbody cdv A outer sh H E hr
  exact ⟨t, h1 (), body_D h h2 fun _ _ _ _ z => z⟩
end
end M7
/-! A try that lets nothing out; classes of rules. -/
namespace M7
open PySem PySem.Spec PyProof.Rows L2
section
variable {w : WD} {W : WX} {ι : Type} {XS : ι → Cx}
def WN : WX := fun _ _ _ _ => False
def ssTryN (mt : XN → Bool) (ssb su : SS) : SS := fun g => match ssb g with
  | .ex y f g1 => if mt y = true then su g1 else .fail
  | r => r
theorem rs_tryN {c : Value} {mt : XN → Bool} {tb : WX → TS} {ts : TS} {ssb su : SS} (hm : Ctc w c mt) (hb : ∀ W', RS w W' (tb W') ssb) (hs : RS w WT ts su) : RS w W (fun D σ H => tb (wOnly w.K c (fun _ _ _ => ts) WN D) D σ H) (ssTryN mt ssb su) := fun π B Z g σ H D s q => by
  refine hb _ π B Z g σ H D s ?_
  unfold ssTryN at q
  cases hg : ssb g with
  | ex y f g1 =>
    rw [hg] at q
    intro hx dd B' H' σ' e s' xo
    have q : PostS w W π B Z D (if mt y = true then su g1 else .fail) := q
    cases hy : mt y with
    | false =>
      rw [if_neg (by rw [hy]; decide)] at q
      exact q.elim
    | true =>
      rw [if_pos hy] at q
      refine ⟨true, by rw [← hy]; exact hm y hx, fun _ a ha => hs π B' Z g1 σ' H' D s' ?_, fun z => by cases z⟩
      revert q
      cases su g1 with
      | nx g => exact fun q B'' H'' σ'' e2 => q B'' H'' σ'' (e.trans e2)
      | bk g => exact fun q B'' H'' σ'' e2 => q B'' H'' σ'' (e.trans e2)
      | ct g => exact fun q B'' H'' σ'' e2 => q B'' H'' σ'' (e.trans e2)
      | rt o d g => exact fun q v B'' H'' σ'' e2 => q v B'' H'' σ'' (e.trans e2)
      | ex x f g => exact fun q _ _ _ _ _ _ _ _ => trivial
      | fail => exact fun q => q.elim
  | nx g1 => rw [hg] at q; exact q
  | bk g1 => rw [hg] at q; exact q
  | ct g1 => rw [hg] at q; exact q
  | rt o d g1 => rw [hg] at q; exact q
  | fail => rw [hg] at q; exact q.elim
theorem ds_tryN {x : Str} {c : Value} {mt : XN → Bool} {body suite : List Stmt} {b0 : Stmt} {np pos pos' : Pos} {ssb su : SS} (hm : Ctc w c mt) (hc : ∀ i, Names (XS i) x c) (hb : ∀ W', DSs (trS XS W') w W' body ssb) (hsu : DSs (suS XS) w WT (b0 :: suite) su)
    (hs : ∀ i, (XS i).stack = (XS i).env :: (XS i).outer := by intro _; rfl) (hf : ∀ i, (XS i).env.frame = some (XS i).env.locals := by intro _; rfl) (hK : ∀ i, (XS i).K = w.K := by intro _; rfl) :
    DS XS w W (.Try body [.ExceptHandler (some (.Name x np)) none (b0 :: suite) pos'] [] [] pos) (ssTryN mt ssb su) := by
  obtain ⟨ts, k1, k2⟩ := hsu
  refine ⟨_, fun i => ?_, rs_tryN (tb := fun W' => (hb W').choose) hm (fun W' => (hb W').choose_spec.2) k2⟩
  have z := ps_try_only (X := XS i) (x := x) (c := c) (body := body) (suite := suite) (b₀ := b0) (np := np) (pos := pos) (pos' := pos') (tb := fun W' => (hb W').choose) (ts := fun _ _ _ => ts) (Wout := WN) (hs i) (hf i) (hc i) LamX.takes0
    (fun W' pn xe h1 h2 => (hb W').choose_spec.1 ⟨(i, pn, xe), h1, h2⟩) (fun a oe cls d pn _ _ => k1 (i, a, (a, oe) :: pn))
  rw [hK i] at z
  exact z
/-- a caught class by its global name -/
structure Cth (w : WD) (mg : Str → Option Value) (x : Str) (c : XN) (mt : XN → Bool) : Prop where
  at_ : mg x = some (.ref (w.exc c))
  ctc : Ctc w (.ref (w.exc c)) mt
theorem Cth.nm {mg : Str → Option Value} {x : Str} {c : XN} {mt : XN → Bool} (h : Cth w mg x c mt) (hm : ∀ i, (XS i).mg = mg := by intro _; rfl) (hg : ∀ i, Gl (XS i) x := by intro _; rfl) (hd : (x == ("__debug__" : Str)) = false := by decide) : ∀ i, Names (XS i) x (.ref (w.exc c)) := fun i => ⟨hg i, hd, .inl (by rw [hm i]; exact h.at_)⟩
end
/-! rules -/
def isRule : CN → Bool
  | .rule => true
  | .held => true
  | .aimed => true
  | .bound => true
  | _ => false
def tCls (f : CN → Option Bool) : TK → Option Bool
  | .obj c => f c
  | _ => some false
def onRules (a b c d : Bool) : CN → Option Bool
  | .rule => some a
  | .held => some b
  | .aimed => some c
  | .bound => some d
  | _ => none
section
variable {P : Program} {wl : World} {mg : Str → Option Value} {base : Heap} {w : WD} {ss : SS}
/-- def_D, for a given FuncData -/
theorem fnx_D {gb bx : Bool} {y qual : Str} {s : Stmt} {f : Addr} {fd : FuncData} {N ps : List Str} {k : Nat} (Fd : Fun w.K y qual s f fd) (S : FnScope N ps (defScope s))
    (hb : ∀ (cdv : Value) (A : Around) (outer : List Env) (sh : Shared) (H : Hp) (E : XK), Gd gb A → Room k (A.deeper (envOfC qual (defScope s) sh.heap.objs.size f cdv)) →
      DSs (fun _ : Unit => cxOf (CXb bx P wl) P wl w.K mg base N qual (defScope s) f cdv A outer sh H E) w (fun cls d _ H => E cls d H) (defBody s) ss) : FnX gb P wl w.K mg base (CXb bx P wl) (k + 1) f fd ps (spD w (bodyFn ps.length N.length ss)) := by
  refine fun_X Fd S (fun vs H Q E h => spD_len h) fun cdv A outer sh H vs Q E hg hr h => ?_
  obtain ⟨t, h1, h2⟩ := hb cdv A outer sh H E hg hr
  exact ⟨t, h1 (), body_D h h2 fun _ _ _ _ z => z⟩
end
end M7
/-! super().m(x) in a def of the form: return super().m(y) and .. -/
namespace M7
open PySem PySem.Spec PyProof.Rows L2
/-- a def that closes over __class__ (which is the class at D) -/
structure FunS (K : PySem.W.Frag) (file x qual : Str) (st : Stmt) (D f : Addr) (fd : FuncData) : Prop where
  ex : ∃ (oc : Value) (od : Option Addr) (kV doc pm : Value) (an : Option Addr) (cda : Addr) (ct : Value) (osl : Array (Option Value)) (cc : Addr) (ccl : Value) (cdd : Option Addr) (vs : Array Value) (ccs : Array (Option Value)) (tf : Tok) (cl : Value) (cld : Option Addr) (csl : Array (Option Value)),
    fd = PySem.W.ksFn x qual (defArgs st) (defBody st) (defScope st) .none kV doc pm an (.ref cda) ct cc ∧ K.lookup f = some ⟨oc, od, .func fd, osl⟩ ∧ PySem.W.codeIn K (.ref cda) qual = true ∧
    K.lookup cda = some ⟨ccl, cdd, .fields vs, ccs⟩ ∧ vs[2]? = some (.str file tf) ∧ K.lookup cc = some ⟨cl, cld, .cell (some (.ref D)), csl⟩
  kp : PySem.W.keepIn K (.ref f) = true
/-- the scope of such a def -/
structure ScopeS (N ps : List Str) (sc : Scope) : Prop where
  kind : sc.kind = .function
  co : sc.isCoroutine = false
  gen : sc.isGenerator = false
  nd : N.Nodup
  pre : N.take ps.length = ps
  par : ∀ x ∈ ps, sc.names.lookup x = some .local
  cell : ∀ y ∈ sc.names, y.2 ≠ .cell
  free : ∀ y ∈ sc.names, y.2 = .free → y.1 = ("__class__" : Str)
  cls : sc.names.lookup ("__class__" : Str) = some .free
  sup : sc.names.lookup ("super" : Str) = some .globalImplicit
def envS (qual : Str) (scope : Scope) (L f : Addr) (cda cc : Addr) : Env := PySem.W.ksEnv qual scope L f (.ref cda) cc
def cxS (CX : CXT) (P : Program) (w : World) (K : PySem.W.Frag) (mg : Str → Option Value) (base : Heap) (N : List Str) (qual : Str) (scope : Scope) (f cda cc : Addr) (A : Around) (outer : List Env) (s : Shared) (H : Hp) (E : XK) : Cx where
  prog := P
  w := w
  K := K
  mg := mg
  base := base
  A := A.deeper (envS qual scope s.heap.objs.size f cda cc)
  N := N
  s_0 := s
  H_0 := H
  env := envS qual scope s.heap.objs.size f cda cc
  outer := outer
  stack := envS qual scope s.heap.objs.size f cda cc :: outer
  ex := []
  calm := true
  fn := fun _ => false
  pn := []
  xe := fun e s' => wpAny (model P w) (A.deeper (envS qual scope s.heap.objs.size f cda cc)) (leaving (envS qual scope s.heap.objs.size f cda cc) e) (fun _ s'' => CX outer H s E e s'') (fun e' s'' => CX outer H s E e' s'') s'
theorem lk_rev {v : Value} {y : Str} : ∀ {ps : List Str} {us : List Value} {i : Nat}, ps.Nodup → ps[i]? = some y → us[i]? = some v → (ps.zip us).reverse.lookup y = some v := by
  intro ps us i nd h1 h2
  have hm : (y, v) ∈ ps.zip us := by
    rw [List.mem_iff_getElem?]
    exact ⟨i, by rw [List.getElem?_zip_eq_some]; exact ⟨h1, h2⟩⟩
  have hu : ∀ l : List (Str × Value), (l.map (·.1)).Nodup → (y, v) ∈ l → l.lookup y = some v := by
    intro l
    induction l with
    | nil => intro _ h; cases h
    | cons p l ih =>
      intro nd h
      obtain ⟨a, b⟩ := p
      rw [List.map_cons, List.nodup_cons] at nd
      rcases List.mem_cons.mp h with e | h'
      · cases e
        simp [List.lookup]
      · have ne : (y == a) = false := by
          rw [beq_eq_false_iff_ne]
          rintro rfl
          exact nd.1 (List.mem_map.mpr ⟨(y, v), h', rfl⟩)
        simp only [List.lookup, ne]
        exact ih nd.2 h'
  refine hu _ ?_ (List.mem_reverse.mpr hm)
  rw [List.map_reverse, (List.reverse_perm _).nodup_iff]
  have zs : ∀ (ps : List Str) (us : List Value), ((ps.zip us).map (·.1)).Sublist ps := by
    intro ps
    induction ps with
    | nil => intro us; simp
    | cons p ps ih =>
      intro us
      cases us with
      | nil => simp
      | cons u us => simpa using (ih us).cons₂ p
  exact nd.sublist (zs ps us)
theorem inv_S {CX : CXT} {P : Program} {w : World} {K : PySem.W.Frag} {mg : Str → Option Value} {base : Heap} {N ps : List Str} {qual : Str} {scope : Scope} {f cda cc D : Addr} {A : Around} {outer : List Env} {s : Shared} {H : Hp} {E : XK} {us : List Value} {vs : List V} {h1 : Heap} {tk : Nat} {cl : Value} {cld : Option Addr} {csl : Array (Option Value)}
    (S : ScopeS N ps scope) (hd : A.handled = none) (e0 : Env0 P w K mg base A outer s H) (hl : vs.length = ps.length) (r : Vals vs us) (hc : K.lookup cc = some ⟨cl, cld, .cell (some (.ref D)), csl⟩)
    (ns : h1.Ns s.heap.objs.size fun x => (ps.zip us).reverse.lookup x) (hk : ∀ b o, s.heap.get? b = some o → h1.get? b = some o) :
    Inv (cxS CX P w K mg base N qual scope f cda cc A outer s H E) [] (L2.start N vs) H { s with heap := h1, toks := tk } := by
  have hpl : ps.length ≤ N.length := by have := congrArg List.length S.pre; rw [List.length_take] at this; omega
  have bcc : base.get? cc = some ⟨cl, cld, .cell (some (.ref D)), csl⟩ := e0.mod.kin _ _ hc
  have noA : ∀ b : Addr, b ∉ (cxS CX P w K mg base N qual scope f cda cc A outer s H E).ex := fun b z => absurd (show b ∈ ([] : List Addr) from z) (by simp)
  have lkc : ∀ {x : Str} {c : Addr}, List.lookup x [(("__class__" : Str), cc)] = some c → x = "__class__" ∧ c = cc := fun {x c} e => by
    simp only [List.lookup] at e
    split at e
    · rename_i hx
      exact ⟨by simpa using hx, (Option.some.inj e).symm⟩
    · cases e
  refine ⟨⟨e0.mod, S.kind, rfl, rfl, Nat.le_refl _, fun y z c h1 h2 => ?_, fun y hy => ?_, fun y c z _ => Bool.noConfusion z, fun _ => hd, Around.frames_deeper e0.frames, .inr ⟨rfl, rfl⟩, fun b z => absurd z (noA b), e0.bs, e0.bsz, fun b _ _ => noA b, fun b z => absurd z (noA b), e0.funs, e0.frf⟩,
    rfl, e0.bare, Un.kept hk, ⟨_, ns, fun i y v h1 h2 h3 => ?_⟩, fun y c h => ?_, e0.hok.fresh (Nat.le_refl _), fun y c h => ?_, fun p hp => absurd (show p ∈ ([] : List (Addr × Obj)) from hp) (by simp), e0.hok.kept hk, ?_⟩
  · exact (lkc h1).1.trans (lkc h2).1.symm
  · have hy : scope.names.lookup y = some .cell ∨ scope.names.lookup y = some .free := hy
    rcases hy with hy | hy
    · exact absurd rfl (S.cell _ (PySem.mem_of_lookup hy))
    · have := S.free _ (PySem.mem_of_lookup hy) rfl
      exact ⟨cc, by show List.lookup y [(("__class__" : Str), cc)] = some cc; rw [show y = "__class__" from this]; simp [List.lookup]⟩
  · have hi : i < vs.length := by
      unfold L2.start at h2
      by_cases hi : i < vs.length
      · exact hi
      · rw [List.getElem?_append_right (by simpa using hi)] at h2
        rw [List.getElem?_replicate] at h2
        split at h2 <;> cases h2
    have ha : vs[i]? = some v := by
      unfold L2.start at h2
      rw [List.getElem?_append_left (by simpa using hi), List.getElem?_map] at h2
      cases e : vs[i]? with
      | none => rw [e] at h2; cases h2
      | some a => rw [e] at h2; cases h2; rfl
    obtain ⟨u, hu, rv⟩ := r.get ha
    have hp : ps[i]? = some y := by
      rw [← S.pre, List.getElem?_take_of_lt (by omega)]; exact h1
    have ndP : ps.Nodup := by rw [← S.pre]; exact S.nd.sublist (List.take_sublist _ _)
    exact ⟨u, rv, .inl ⟨S.par y (List.mem_of_getElem? hp), lk_rev ndP hp hu⟩⟩
  · obtain ⟨_, rfl⟩ := lkc h
    exact ⟨_, _, hk _ _ (e0.bs _ _ bcc).1, rfl⟩
  · obtain ⟨_, rfl⟩ := lkc h
    exact (e0.bs _ _ bcc).2
  · unfold L2.start
    show _ = N.length
    rw [List.length_append, List.length_map, List.length_replicate]
    omega
/-- what a class must have for super().m in a def of the class at D -/
structure Sup (K : PySem.W.Frag) (C D : Addr) (m : Str) (f2 : Addr) : Prop where
  at_ : PySem.W.ks_superIn K C D m = some (some (.ref f2))
  ty : PySem.W.typeIn K (.ref f2) = some (.type "function")
  sub : PySem.W.mroIn K C (.ref D) = some true
  fn : PySem.W.fnIn K f2 = true
  kp : PySem.W.keepIn K (.ref f2) = true
  cls : (PySem.W.clsIn K D).isSome = true
  op : PySem.W.nsIn K cStatics "thirdparty.any" = some none
/-- the defs that super().m leads to, by classes of objects -/
def MtOkS (gb : Bool) (P : Program) (wl : World) (mg : Str → Option Value) (base : Heap) (w : WD) (CX : CXT) (k : Nat) (m : Str) (D : Addr) (tB : Addr → Fn → Prop) : Prop :=
  ∀ C φ, tB C φ → Cls w.K C ∧ ∃ f fd ps, Sup w.K C D m f ∧ FnX gb P wl w.K mg base CX k f fd ps (spD w φ) ∧ Binds w.K fd ps []
/-- the names super() asks for -/
structure SupX (P : Program) (mg : Str → Option Value) (file : Str) : Prop where
  file : ((P.main.file : Str) == file) = true
  top : (P.main.scope.names.lookup ("super" : Str)).isSome = false
  mg : mg "super" = none
section
variable {w : WD} {P : Program} {wl : World} {mg : Str → Option Value} {base : Heap}
theorem sup_run {CX CX' : CXT} {gb : Bool} {K : PySem.W.Frag} {qual file m : Str} {scope : Scope} {N ps : List Str} {f cda cc D : Addr} {A : Around} {outer : List Env} {s0 s : Shared} {H0 H : Hp} {E : XK} {body : List Stmt} {p0 p1 p2 p3 apos : Pos} {y : Str} {pins : List (Addr × Obj)} {σ : L2.St} {Q : VK}
    {ccl cdd vs ccs tf cl cld csl} {oc : Value} {od : Option Addr} {osl : Array (Option Value)} {fd : FuncData} {ar : Arg} {k : Nat} {tB : Addr → Fn → Prop} {E' : L2.St → XK} (hK : K = w.K)
    (S : ScopeS N ps scope) (U : SupX P mg file) (lk : K.lookup f = some ⟨oc, od, .func fd, osl⟩) (hp : (fd.params.posonlyargs ++ fd.params.args).head? = some ar) (h0 : N[0]? = some ar.arg) (har : scope.names.lookup ar.arg = some .local) (h1 : N[1]? = some y) (hy : Vis scope y)
    (hcode : K.lookup cda = some ⟨ccl, cdd, .fields vs, ccs⟩) (hvs : vs[2]? = some (.str file tf)) (hcell : K.lookup cc = some ⟨cl, cld, .cell (some (.ref D)), csl⟩) (hm : (m == ("__class__" : Str)) = false)
    (M : MtOkS gb P wl mg base w CX' k m D tB) (hgd : Gd gb (A.deeper (envS qual scope s0.heap.objs.size f cda cc))) (hr : Room k (A.deeper (envS qual scope s0.heap.objs.size f cda cc)))
    (hx : ∀ σ, PassesAt CX' (cxS CX P wl K mg base N qual scope f cda cc A outer s0 H0 E) σ (E' σ))
    {pl : Sem Bool} (ht : eval (.Call (.Attribute (.Call (.Name "super" p0) [] [] p1) m apos) [.Name y p2] [] p3) (envS qual scope s0.heap.objs.size f cda cc) = (do
      let ov ← attributeBase (.Call (.Name "super" p0) [] [] p1) m (envS qual scope s0.heap.objs.size f cda cc) (eval (.Call (.Name "super" p0) [] [] p1) (envS qual scope s0.heap.objs.size f cda cc))
      standAt apos.atName
      let (g, first) ← holding [ov] (getMethod ov m pl)
      callWith p3 g first (backTo p3 (starEach [.Name y p2] (envS qual scope s0.heap.objs.size f cda cc))) []))
    (hyd : (y == ("__debug__" : Str)) = false) (hyc : (y == ("__classdict__" : Str)) = false)
    (I : Inv (cxS CX P wl K mg base N qual scope f cda cc A outer s0 H0 E) pins σ H s)
    (h : ∃ a C dx fs φ v1, σ[0]? = some (some (.ref a)) ∧ H a = some (.ins C dx fs) ∧ tB C φ ∧ σ[1]? = some (some v1) ∧ spD w φ [.ref a, v1] H Q (E' σ)) :
    _root_.PySem.wpAt (model P wl) (A.deeper (envS qual scope s0.heap.objs.size f cda cc)) (.func body (envS qual scope s0.heap.objs.size f cda cc)) (eval (.Call (.Attribute (.Call (.Name "super" p0) [] [] p1) m apos) [.Name y p2] [] p3) (envS qual scope s0.heap.objs.size f cda cc))
      (EP (cxS CX P wl K mg base N qual scope f cda cc A outer s0 H0 E) pins σ Q) (cxS CX P wl K mg base N qual scope f cda cc A outer s0 H0 E).xe s := by
  obtain ⟨a, C, dx, fs, φ, v1, hs0, ha, htb, hs1, hsp⟩ := h
  obtain ⟨hc, f2, fd2, ps2, hS, F2, hb2⟩ := M C φ htb
  rw [← hK] at hc hS F2 hb2
  have X : K.In s.heap := I.kIn
  obtain ⟨mA, ob, _⟩ := ins_get I.hok ha
  obtain ⟨hh, g, d, t, os⟩ := s
  obtain ⟨oD, cdD, hD1, hD2⟩ : ∃ oD cdD, hh.get? D = some oD ∧ oD.data = .cls cdD := by
    have := hS.cls
    unfold PySem.W.clsIn at this
    split at this
    · rename_i c d cd' sl ho
      exact ⟨_, cd', X _ _ ho, rfl⟩
    · cases this
  refine ks_wpAt_MethodCall (pl := pl) ?_ ht
  refine ks_wpAt_super_base (env := envS qual scope s0.heap.objs.size f cda cc) S.sup S.cls hm rfl (X _ _ lk) rfl hp rfl (X _ _ hcode) rfl hvs U.file U.top ?_
  have hns : (base.Ns mainGlobals mg) := I.mod.glob
  obtain ⟨mb, hb1, hbb⟩ := I.mod.blt
  refine PySem.W.ks_loadName_global S.kind S.sup (Calls.loadGlobal_builtin (env := envS qual scope s0.heap.objs.size f cda cc) (hns.keeps I.bk) U.mg (hb1.keeps I.bk) ((hbb "super" (by decide)).trans (by first | rfl | kernel_rfl)) ⟨rfl, ?_⟩)
  refine wpAny_loadName_free S.kind S.cls rfl ⟨_, X _ _ hcell, rfl⟩ ?_
  obtain ⟨ml, hl1, hl2⟩ := I.loc
  obtain ⟨u, ru, look⟩ := hl2 0 ar.arg (.ref a) h0 hs0 (.inl har)
  obtain rfl : u = Value.ref a := ru
  have hml : ml ar.arg = some (.ref a) := by
    rcases look with ⟨_, e⟩ | ⟨e, _⟩
    · exact e
    · have har' : (envS qual scope s0.heap.objs.size f cda cc).kindOf ar.arg = some .local := har
      have e : (envS qual scope s0.heap.objs.size f cda cc).kindOf ar.arg = some .cell ∨ (envS qual scope s0.heap.objs.size f cda cc).kindOf ar.arg = some .free := e
      rw [har'] at e
      rcases e with e | e <;> cases e
  refine wpAny_loadName_local S.kind har hl1 hml ?_
  refine ks_wpAny_isType_cls hD1 hD2 ⟨rfl, ?_⟩
  refine ks_wpAny_call_super hD1 hD2 ob.obj rfl (fun c e => by cases e) (PySem.W.looks_mroIn X hS.sub) (fun h' e k => ?_)
  have I1 : Inv (cxS CX P wl K mg base N qual scope f cda cc A outer s0 H0 E) ((hh.objs.size, PySem.W.ks_superObj D a C) :: pins) σ H ⟨h', g, d, t, os⟩ := ClX.pin_new (s := ⟨hh, g, d, t, os⟩) (t' := t) I k (Nat.le_refl _) e (fun v z => nomatch z)
  have X1 : K.In h' := I1.kIn
  obtain ⟨cdC, hcC⟩ : ∃ cd, PySem.W.clsIn K C = some cd := by
    cases z : PySem.W.clsIn K C with
    | none =>
      have := hS.at_
      unfold PySem.W.ks_superIn at this
      rw [z] at this
      cases this
    | some cd => exact ⟨cd, rfl⟩
  have hal : PySem.W.alongIn K m ((cdC.mro.dropWhile (· != .ref D)).drop 1) = some (some (.ref f2)) := by
    have := hS.at_
    unfold PySem.W.ks_superIn at this
    rw [hcC] at this
    exact this
  obtain ⟨of, hof, hofc⟩ : ∃ of, h'.get? f2 = some of ∧ of.cls = .type "function" := by
    have ht' : (K.lookup f2).map (·.cls) = some (.type "function") := hS.ty
    cases z : K.lookup f2 with
    | none => rw [z] at ht'; cases ht'
    | some of => rw [z] at ht'; exact ⟨of, X1 _ _ z, Option.some.inj ht'⟩
  have hne : a ≠ C := by
    rintro rfl
    unfold PySem.W.clsIn at hcC
    split at hcC
    · rename_i c d cd' sl ho
      have e := X _ _ ho
      rw [ob.obj] at e
      cases e
    · cases hcC
  refine ks_wpAny_getMethod_super e (PySem.W.looks_opaque X1 hS.op) (l₀ := cdC.mro) (fun A Q E s k q => wpAny_bind ((PySem.W.looks_clsIn X1 hcC) A _ E s k (wpAny_pure q))) rfl X1 hal hof hofc hne hm ?_
  have I2 := ClX.met_new (g := f2) (C := a) I1
  have hq0 : base.get? h'.objs.size = none := ClX.base_none I1 (Nat.le_refl _)
  refine ClX.callwith_cm (X := cxS CX P wl K mg base N qual scope f cda cc A outer s0 H0 E) I2 hq0 hS.fn ?_ rfl rfl
  refine thn ((pa_cons (pe_var (X := cxS CX P wl K mg base N qual scope f cda cc A outer s0 H0 E) (i := 1) (pos := p2) h1 hy hyd hyc) pa_nil).run p3 _ _ σ H (fun us H1 => us = [v1] ∧ H1 = H) I2 ⟨v1, hs1, rfl, rfl⟩) fun us s2 ⟨vs2, H2, I3, r, q⟩ => ⟨⟨ClX.pin_at I3, I3.kIn⟩, ?_⟩
  obtain ⟨rfl, rfl⟩ := q
  have hbt : BindsTo s2 fd2 ⟨.ref a :: us, []⟩ (ps2.zip (.ref a :: us)) := by
    have := hb2 s2 (.ref a :: us) I3.kIn (by
      rw [List.append_nil]
      have l1 := F2.len _ _ _ _ hsp
      have l2 := r.length
      simp at l1 l2 ⊢
      omega)
    rwa [List.append_nil] at this
  refine wpAny_call (PySem.W.method_call (ClX.pin_at I3) (codeAny_mono (F2.go _ _ _ _ ⟨.ref a :: us, []⟩ (.ref a :: us) [.ref a, v1] Q (E' σ) hgd hr I3.env0 hbt (.cons rfl r) hsp) fun res s3 hq => ?_))
  · cases res with
    | error e => exact hx σ _ _ _ e s3 I3 hq
    | ok fl =>
      cases fl with
      | ret u => exact ClX.unpinE (ClX.unpinE (I3.after hq))
      | next => exact hq.elim
      | brk => exact hq.elim
      | cont => exact hq.elim
end
end M7
namespace M7
open PySem PySem.Spec PyProof.Rows L2
theorem wpAt_and2 {M : Model} {A : Around} {c : Code} {env : Env} {E : Value → Shared → Prop} {s : Shared} {x y : Expr} {pos : Pos} {Q : Value → Shared → Prop}
    (h : _root_.PySem.wpAt M A c (eval x env) (fun v s₁ => wpAny M A (truthy v) (fun t s₂ => if t then wpAny M A (eval y env) Q E s₂ else Q v s₂) E s₁) E s) :
    _root_.PySem.wpAt M A c (eval (.BoolOp .And [x, y] pos) env) Q E s := by
  show _root_.PySem.wpAt M A c (do
    let v ← eval x env
    standAt pos
    let t ← holding [v] (truthy v)
    match BoolOp.And, t with
    | .And, false | .Or, true => pure v
    | _, _ => boolOp pos .And [eval y env]) Q E s
  refine _root_.PySem.wpAt_bind (_root_.PySem.wpAt_mono h (fun v s₁ h₁ => _root_.PySem.wpAt_of_wpAny (wpAny_bind (wpAny_standAt (wpAny_bind (wpAny_holding (wpAny_mono h₁ (fun t s₂ h₂ => ?_) fun _ _ x => x)))))) fun _ _ x => x)
  cases t with
  | false => exact wpAny_pure h₂
  | true => exact h₂
section
variable {w : WD} {P : Program} {wl : World} {mg : Str → Option Value} {base : Heap}
/-- the defs that super().m leads to, by kinds of objects -/
structure MetS (P : Program) (wl : World) (mg : Str → Option Value) (base : Heap) (w : WD) (gb b : Bool) (k : Nat) (m : Str) (D : Addr) (tb : CN → Option Fn) : Prop where
  ex : ∀ c φ, tb c = some φ → Cls w.K (w.cls c) ∧ ∃ f, Sup w.K (w.cls c) D m f ∧ Def P wl mg base w gb b k f φ
theorem MetS.ok {gb b : Bool} {k : Nat} {m : Str} {D : Addr} {tb : CN → Option Fn} (M : MetS P wl mg base w gb b k m D tb) : MtOkS gb P wl mg base w (CXb b P wl) k m D (tbOf w tb) := fun C φ h => by
  obtain ⟨c, rfl, e⟩ := h
  obtain ⟨h1, f, h2, fd, ps, h3, h4, _⟩ := M.ex c φ e
  exact ⟨h1, f, fd, ps, h2, h3, h4⟩
theorem def_Sup {b : Bool} {file m qual y0 y : Str} {st : Stmt} {D f : Addr} {fd : FuncData} {N : List Str} {k : Nat} {tb : CN → Option Fn} {p0 p1 p2 p3 p4 p5 apos : Pos} {rest : Expr} {se : SE} {pl : Sem Bool}
    (Fd : FunS w.K file m qual st D f fd) (S : ScopeS N ["self", y] (defScope st)) (U : SupX P mg file) (hN : N.length = 2) (hbd : Binds w.K fd ["self", y] [])
    (hst : defBody st = [.Return (some (.BoolOp .And [.Call (.Attribute (.Call (.Name "super" p0) [] [] p1) m apos) [.Name y p2] [] p3, rest] p4)) p5]) (har : ((defArgs st).posonlyargs ++ (defArgs st).args).head?.map (·.arg) = some "self")
    (hm : (m == ("__class__" : Str)) = false) (hyd : (y == ("__debug__" : Str)) = false) (hyc : (y == ("__classdict__" : Str)) = false)
    (M : MetS P wl mg base w false b k m D tb)
    (ht : ∀ env : Env, eval (.Call (.Attribute (.Call (.Name "super" p0) [] [] p1) m apos) [.Name y p2] [] p3) env = (do
      let ov ← attributeBase (.Call (.Name "super" p0) [] [] p1) m env (eval (.Call (.Name "super" p0) [] [] p1) env)
      standAt apos.atName
      let (g, first) ← holding [ov] (getMethod ov m pl)
      callWith p3 g first (backTo p3 (starEach [.Name y p2] env)) []))
    (hb : ∀ (cda cc : Addr) (A : Around) (outer : List Env) (sh : Shared) (H : Hp) (E : XK), Room k (A.deeper (envS qual (defScope st) sh.heap.objs.size f cda cc)) →
      Tk b (fun _ : Unit => cxS (CXb b P wl) P wl w.K mg base N qual (defScope st) f cda cc A outer sh H E) (fun cls d _ H => E cls d H) ∧ DE (fun _ : Unit => cxS (CXb b P wl) P wl w.K mg base N qual (defScope st) f cda cc A outer sh H E) w (fun cls d _ H => E cls d H) rest se) :
    Def P wl mg base w false b (k + 1) f (bodyFn 2 N.length (ssRet (seAnd (seMeth m tb (sbVar 0) (saCons (sbVar 1) saNil)) se))) := by
  obtain ⟨oc, od, kV, doc, pm, an, cda, ct, osl, cc, ccl, cdd, vs, ccs, tf, cl, cld, csl, rfl, lk, hcd, hcode, hvs, hcell⟩ := Fd.ex
  refine ⟨_, ["self", y], ⟨fun vs H Q E h => spD_len h, fun A outer s H args us vv Q E hgd hr e0 hbt r h => ?_⟩, hbd, Fd.kp⟩
  have KX : w.K.In s.heap := e0.mod.kin.keeps fun b o e => (e0.bs b o e).1
  have lim : s.heap.NoLimit := e0.mod.nolimit.keeps fun b o e => (e0.bs b o e).1
  have hvl : vv.length = 2 := spD_len h
  refine ks_codeAny_call_defAt hr.depth (KX _ _ lk) rfl lim (PySem.W.codeRec_of KX hcd) rfl hbt S.cell (fun x hx => S.par _ (List.of_mem_zip (show (x.1, x.2) ∈ _ from hx)).1) (fun h₁ hns hk => ?_) S.co S.gen S.kind
  have hro : Room k (A.deeper (envS qual (defScope st) s.heap.objs.size f cda cc)) := hr.deeper _
  obtain ⟨tk, t2, hp2, hr2⟩ := hb cda cc A outer s H E hro
  have I := inv_S (CX := CXb b P wl) (P := P) (w := wl) (K := w.K) (mg := mg) (base := base) (N := N) (ps := ["self", y]) (qual := qual) (scope := defScope st) (f := f) (cda := cda) (cc := cc) (D := D) (A := A) (outer := outer) (s := s) (H := H) (E := E) (us := us) (vs := vv) (tk := s.toks + ((["self", y] : List Str).zip us).length) S hr.hd e0 hvl r hcell hns hk
  have hread := body_D (w := w) (W := fun cls d _ H => E cls d H) (N := N) (n := 2) (t := tRet (tAndV (tMethM w (tbOf w tb) m (WEb b fun cls d _ H => E cls d H) (tVar 0) (tCons (tVar 1) tNil)) t2)) (Q := Q) (E := E) h
    (rs_ret (re_and (re_meth (E := WEb b fun cls d _ H => E cls d H) (tB := tbOf w tb) WEb.of (fun c φ z => ⟨c, rfl, z⟩) rb_var (ra_cons rb_var ra_nil)) hr2)) fun _ _ _ _ z => z
  obtain ⟨x0, hx0, a, C, dx, fs, φ, rfl, ha, htb, hl, v1, h1v, hsp⟩ := hread
  have hfin : ∀ {σ' : L2.St} {H' : Hp} {v : V} {u : Value} {s' : Shared}, Inv (cxS (CXb b P wl) P wl w.K mg base N qual (defScope st) f cda cc A outer s H E) [] σ' H' s' → L2.RelV v u → Q v H' → CE outer P wl H s Q u s' :=
    fun {σ' H' v u s'} J rv q => ⟨v, H', J.os, J.bare, J.base, J.hok, rv, q⟩
  obtain ⟨ar, har1, har2⟩ : ∃ ar, ((defArgs st).posonlyargs ++ (defArgs st).args).head? = some ar ∧ ar.arg = "self" := by
    cases e : ((defArgs st).posonlyargs ++ (defArgs st).args).head? with
    | none => rw [e] at har; cases har
    | some ar => rw [e] at har; exact ⟨ar, rfl, by simpa using har⟩
  have hN0 : N[0]? = some ("self" : Str) := by
    have := S.pre
    match N, hN with
    | [n0, n1], _ => simp at this; simp [this.1]
  have hN1 : N[1]? = some y := by
    have := S.pre
    match N, hN with
    | [n0, n1], _ => simp at this; simp [this.2]
  show _root_.PySem.wpAt (model P wl) (A.deeper (envS qual (defScope st) s.heap.objs.size f cda cc)) (.func (defBody st) (envS qual (defScope st) s.heap.objs.size f cda cc)) (execs (defBody st) (envS qual (defScope st) s.heap.objs.size f cda cc)) _ _ _
  rw [hst]
  refine ks_wpAt_execs_cons (ks_wpAt_Return_some (wpAt_and2 ?_))
  refine _root_.PySem.wpAt_mono (sup_run (CX := CXb b P wl) (CX' := CXb b P wl) (gb := false) (k := k) (E' := WEb b fun cls d _ H => E cls d H) rfl S U lk har1 (by rw [har2]; exact hN0) (by rw [har2]; exact S.par _ (by simp)) hN1 (.inl (S.par _ (by simp))) hcode hvs hcell hm M.ok (fun z => nomatch z) hro (fun σ => tk.at () σ) (ht _) hyd hyc I ⟨a, C, dx, fs, φ, v1, hx0, ha, htb, h1v, hsp⟩) (fun v s' hv => ?_) fun e s' he => he
  obtain ⟨v', H', J, rv, c, rfl, q⟩ := hv
  cases rv
  refine wpAny_truthy_bool ?_
  cases c with
  | false => exact hfin (v := V.bl false) (u := Value.bool false) J rfl q
  | true =>
    refine wpAny_mono ((hp2 ()).run [] s' _ H' _ J q) (fun u s2 hu => ?_) fun e s2 he => he
    obtain ⟨v2, H2, J2, rv2, q2⟩ := hu
    exact hfin J2 rv2 q2
end
end M7
set_option maxHeartbeats 2000000
/-! zip(a list, a text). -/
namespace R7
open PySem PySem.Spec PyProof.Rows L2
def Izm (K : PySem.W.Frag) (a : Addr) (z : Str) : It :=
  ⟨fun i H => ∃ (xs : List V) (x : V) (c : Nat), SqL K H a xs ∧ xs[i]? = some x ∧ z.cps[i]? = some c,
    fun i H v H' => ∃ T x c, v = .ref T ∧ H T = none ∧ H' = upd H T (.tup [x, .str ⟨#[c]⟩]) ∧ (∀ xs, SqL K H a xs → xs[i]? = some x) ∧ z.cps[i]? = some c,
    fun i H => ∃ xs : List V, SqL K H a xs ∧ i ≤ xs.length ∧ i ≤ z.cps.size ∧ (i = xs.length ∨ i = z.cps.size)⟩
theorem turn_zm {P : Program} {w : World} {K : PySem.W.Frag} {elts : List Expr} {kk : Nat} {tpos : Pos} {a z TI TO i1 i2 : Addr} {x : Str} {t : Tok} (D : ZipSep2 z TI TO i1 i2 [i1, a] [i2]) (ha : a ≠ i1) :
    Turn P w K (.Tuple elts kk tpos) (Izm K a x) [z, TI, TO, i1, i2] z (fun i h => IsZip h z TI TO .none ∧ IsTupOf2 h TI (.ref i1) (.ref i2) ∧ (∃ u v, IsTupOf2 h TO u v) ∧ h.IsListIter i1 a i ∧ h.IsStrIter i2 (strIterType x) x t i) where
  mem := by simp
  obj := fun i h st c hc => by
    obtain ⟨hz, hTI, ⟨u, v, hTO⟩, ⟨o1, e1, _, d1⟩, ⟨o2, e2, _, d2⟩⟩ := st
    have e' : c = z ∨ c = TI ∨ c = TO ∨ c = i1 ∨ c = i2 := by simpa using hc
    rcases e' with q | q | q | q | q
    · rw [q]; exact ⟨_, hz, fun v q => nomatch q⟩
    · rw [q]; exact ⟨_, hTI, fun v q => nomatch q⟩
    · rw [q]; exact ⟨_, hTO, fun v q => nomatch q⟩
    · rw [q]; exact ⟨o1, e1, fun v q => by rw [d1] at q; cases q⟩
    · rw [q]; exact ⟨o2, e2, fun v q => by rw [d2] at q; cases q⟩
  keep := fun i h h' st k => by
    obtain ⟨hz, hTI, ⟨u, v, hTO⟩, h1, ⟨o2, e2, r2⟩⟩ := st
    exact ⟨k z (by simp) _ hz, k TI (by simp) _ hTI, ⟨u, v, k TO (by simp) _ hTO⟩, h1.at fun o q => k i1 (by simp) o q, ⟨o2, k i2 (by simp) _ e2, r2⟩⟩
  item := by
    intro X hP hw hK hc i pins s σ H E I hf st hg
    subst hP hw hK
    obtain ⟨hz, hTI, ⟨u0, v0, hTO⟩, h1, h2⟩ := st
    obtain ⟨xs, y, c, hqx, hx, hcx⟩ := hg
    obtain ⟨its, rv, p, hsz0⟩ := I.list hqx
    obtain ⟨u, hu, ru⟩ := rv.get hx
    have hzl : z < s.heap.objs.size := Heap.lt_size hz
    have hl1 : i < its.toArray.size := by rw [List.size_toArray]; exact (List.getElem?_eq_some_iff.mp hu).1
    have hl2 : i < x.cps.size := (Array.getElem?_eq_some_iff.mp hcx).1
    refine wpAny_pyNext_zipD2_item (i := i) D (Draws.list (by show X.A.in1.handled = none; exact I.ok.hd hc) i1 a ha its.toArray) (Draws.text (by show X.A.in1.handled = none; exact I.ok.hd hc) i2 x t) hz hTI hTO ⟨h1, p.isList⟩ h2 hl1 hl2 fun x1 x2 h' tk y1 y2 z' TO' st1 st2 hT hsz hk => ?_
    obtain rfl : u = x1 := by
      have : its[i]? = some x1 := by simpa using y1
      rw [hu] at this
      exact Option.some.inj this
    obtain ⟨c2, t2, hc2, rfl⟩ := y2
    obtain rfl : c = c2 := by
      rw [hcx] at hc2
      exact Option.some.inj hc2
    refine ⟨_, rfl, wpAny_letOwnedTupleGo_zip (s := { s with heap := h', toks := tk }) z' fun h'' z'' sb => ?_⟩
    have hT2 : h''.get? s.heap.objs.size = some { cls := .type "tuple", data := .seq #[u, .str ⟨#[c]⟩ t2] } := (sb.2 _ (Nat.ne_of_gt hzl)).trans hT
    have new : ObjOk X.prog X.w (upd H s.heap.objs.size (.tup [y, .str ⟨#[c]⟩])) h'' s.heap.objs.size (.tup [y, .str ⟨#[c]⟩]) :=
      ⟨by show 2 ≤ sizeLine; decide, [u, .str ⟨#[c]⟩ t2], .cons ru (.cons ⟨t2, rfl⟩ .nil), ⟨_, hT2, rfl, _, rfl⟩⟩
    have I1 : Inv X pins σ (upd H s.heap.objs.size (.tup [y, .str ⟨#[c]⟩])) { s with heap := h'', toks := tk } :=
      I.turnedNew (t' := tk) (ch := [z, TI, TO, i1, i2]) (fun c o hb q => (sb.2 c (fun q' => hb (by simp [q']))).trans (hk c o (fun q' => hb (by simp [q'])) (fun q' => hb (by simp [q'])) (fun q' => hb (by simp [q'])) (fun q' => hb (by simp [q'])) q)) hf (Nat.le_refl _) new
    refine ⟨.ref s.heap.objs.size, _, I1, rfl, ⟨_, y, c, rfl, I.hok.fresh (Nat.le_refl _), rfl, fun l hl => by rw [I.list_inj hl hqx]; exact hx, hcx⟩, ⟨z'', ?_, ⟨u, .str ⟨#[c]⟩ t2, ?_⟩, ?_, ?_⟩, fun b hbm => ?_⟩
    · exact (sb.2 _ D.TIz).trans (hk _ _ D.TIz D.TITO D.TIi1 D.TIi2 hTI)
    · exact (sb.2 _ D.TOz).trans TO'
    · exact st1.1.at fun o q => (sb.2 _ (Ne.symm D.zi1)).trans q
    · obtain ⟨o2, e2, r2⟩ := st2
      exact ⟨o2, (sb.2 _ (Ne.symm D.zi2)).trans e2, r2⟩
    · have hlt : b < s.heap.objs.size := by
        have e' : b = z ∨ b = TI ∨ b = TO ∨ b = i1 ∨ b = i2 := by simpa using hbm
        rcases e' with q | q | q | q | q
        · rw [q]; exact hzl
        · rw [q]; exact Heap.lt_size hTI
        · rw [q]; exact Heap.lt_size hTO
        · rw [q]; obtain ⟨_, e1, _⟩ := h1; exact Heap.lt_size e1
        · rw [q]; obtain ⟨_, e2, _⟩ := h2; exact Heap.lt_size e2
      rw [upd_ne (Nat.ne_of_lt hlt)]
      exact (hf b hbm).1
  done := by
    intro X hP hw hK hc i pins s σ H E I hf st hg
    subst hP hw hK
    obtain ⟨hz, hTI, ⟨u0, v0, hTO⟩, h1, h2⟩ := st
    obtain ⟨xs, hqx, hle1, hle2, hend⟩ := hg
    obtain ⟨its, rv, p, hsz0⟩ := I.list hqx
    have l1 := rv.length
    refine wpAny_pyNext_zipD2_end (i := i) D (Draws.list (by show X.A.in1.handled = none; exact I.ok.hd hc) i1 a ha its.toArray) (Draws.text (by show X.A.in1.handled = none; exact I.ok.hd hc) i2 x t) hz hTI hTO ⟨h1, p.isList⟩ h2 (by simp; omega) hle2 (by simp; omega) fun h' tk hk => ⟨rfl, I.turnedL (t' := tk) (ch := [z, TI, TO, i1, i2]) (fun c o hb q =>
      hk c o (fun q' => hb (by simp [q'])) (fun q' => hb (by simp [q'])) (fun q' => hb (by simp [q'])) (fun q' => hb (by simp [q'])) q) hf⟩
  self := fun A i s Q E st h => wpAny_pyIter_zip st.1 h
theorem sep_new (n a : Nat) (h : a < n) : ZipSep2 (n + 4) (n + 2) (n + 3) n (n + 1) [n, a] [n + 1] :=
  have e : ∀ i j : Nat, i ≠ j → (n + i : Nat) ≠ n + j := fun i j q z => q (by omega)
  have l : ∀ i : Nat, (n + i : Nat) ≠ a := fun i z => by omega
  have m1 : ∀ {x : Nat}, x ≠ n → x ≠ a → x ∉ [n, a] := fun q r z => by
    rcases List.mem_cons.mp z with z | z
    · exact q z
    · exact r (List.mem_singleton.mp z)
  ⟨e 2 4 (by decide), e 3 4 (by decide), e 2 3 (by decide), e 2 0 (by decide), .head _, m1 (e 4 0 (by decide)) (l 4), m1 (e 3 0 (by decide)) (l 3), e 2 1 (by decide), .head _, fun z => e 4 1 (by decide) (List.mem_singleton.mp z), fun z => e 3 1 (by decide) (List.mem_singleton.mp z),
    fun z => e 0 1 (by decide) (List.mem_singleton.mp z), m1 (e 1 0 (by decide)) (l 1)⟩
def iZipM (K : PySem.W.Frag) (ta : TA) : TI := fun σ H R => ta σ H fun vs H1 => ∃ a xs z, vs = [.ref a, .str z] ∧ SqL K H1 a xs ∧ R (Izm K a z) H1
theorem pi_zipM {X : Cx} {e e2 : Expr} {ta : TA} {p pos tpos : Pos} {elts : List Expr} {kk : Nat} (hg : Gl X "zip") (hm : X.mg "zip" = none) (ha : PA X [e, e2] ta)
    (hs : starEach [e, e2] X.env = (false, eval e X.env) :: starEach [e2] X.env) (hpl : (backTo pos (starEach [e2] X.env)).any (·.1) = false) :
    PI X (.Tuple elts kk tpos) (.Call (.Name "zip" p) [e, e2] [] pos) (iZipM X.K ta) := by
  refine ⟨fun pins s σ H R I h => ?_⟩
  refine Call_ (ld_blt I hg hm PyProof.Rows.boot_zip (PyProof.Rows.callWith_type1 (thn (ha.run pos pins s σ H _ I h) fun us s1 ⟨vs, H1, I1, r1, q1⟩ => ?_) hs hpl))
  obtain ⟨a, xs, z, ex, hqx, q⟩ := q1
  subst ex
  cases r1 with
  | cons r rr =>
    cases rr with
    | cons r' rr =>
      cases rr
      cases r
      obtain ⟨t, rfl⟩ := r'
      have fresh5 : ∀ c, c ∈ [s1.heap.objs.size + 4, s1.heap.objs.size + 2, s1.heap.objs.size + 3, s1.heap.objs.size, s1.heap.objs.size + 1] → FpOk X pins H1 c := fun c hcm => by
        have e' : c = s1.heap.objs.size + 4 ∨ c = s1.heap.objs.size + 2 ∨ c = s1.heap.objs.size + 3 ∨ c = s1.heap.objs.size ∨ c = s1.heap.objs.size + 1 := by simpa using hcm
        have hle : s1.heap.objs.size ≤ c := by
          rcases e' with z | z | z | z | z
          · rw [z]; exact Nat.le_add_right _ _
          · rw [z]; exact Nat.le_add_right _ _
          · rw [z]; exact Nat.le_add_right _ _
          · rw [z]; exact Nat.le_refl _
          · rw [z]; exact Nat.le_add_right _ _
        exact I1.fpOk hle (I1.hok.fresh hle)
      obtain ⟨its, rv, p1, _⟩ := I1.list hqx
      refine zip_begins2 (begins_list a its.toArray) (begins_text z t) p1.isList trivial fun h' hz hTI hTO h1 h2 hsz hk => wpAny_pyIter_zip hz ?_
      have I2 : Inv X pins σ H1 { s1 with heap := h' } := I1.kept (t' := s1.toks) hk
      have hlt := p1.lt
      exact ⟨s1.heap.objs.size + 4, [s1.heap.objs.size + 4, s1.heap.objs.size + 2, s1.heap.objs.size + 3, s1.heap.objs.size, s1.heap.objs.size + 1], _, _, H1, rfl, I2,
        turn_zm (t := t) (sep_new s1.heap.objs.size a hlt) (Nat.ne_of_lt hlt), ⟨hz, hTI, ⟨_, _, hTO⟩, ⟨_, h1, rfl, rfl⟩, ⟨_, h2, rfl, rfl⟩⟩, fresh5, q⟩
end R7
namespace R7
open PySem PySem.Spec PyProof.Rows L2
theorem walk_zm {K : PySem.W.Frag} {a : Addr} {z : Str} {xs : List V} {n : Nat} (hn : n = min xs.length z.cps.size) : Walk (Izm K a z) n (fun H => SqL K H a xs) (YPair (fun i => xs[i]?) (fun i => z.cps[i]?.map fun c => V.str ⟨#[c]⟩)) := by
  refine ⟨fun i _ hi q => ⟨xs, xs[i]'(by omega), z.cps[i]'(by omega), q, by simp, by simp⟩, fun _ q => ⟨xs, q, by omega, by omega, by omega⟩, fun i H v H' _ q y => ?_⟩
  obtain ⟨T, x, c, h1, h2, h3, h4, h5⟩ := y
  exact ⟨T, x, .str ⟨#[c]⟩, h1, h2, h3, h4 xs q, by simp [h5]⟩
end R7
namespace M7
open PySem PySem.Spec PyProof.Rows L2
section
variable {w : WD} {W : WX} {π : Nat → V} {B B' B1 Z : Hp} {g : G} {σ : L2.St} {H H' : Hp} {v : V}
/-- zip of a list's data and a text's signs -/
def zipM : List D → List Nat → List D
  | d :: ds, c :: cs => .tup [d, .str ⟨#[c]⟩] :: zipM ds cs
  | _, _ => []
theorem zipM_len : ∀ (ds : List D) (cs : List Nat), (zipM ds cs).length = min ds.length cs.length
  | [], cs => by simp [zipM]
  | _ :: _, [] => by simp [zipM]
  | d :: ds, c :: cs => by simp only [zipM, List.length_cons, zipM_len ds cs]; omega
theorem zipM_get : ∀ {ds : List D} {cs : List Nat} {i : Nat} {d : D}, (zipM ds cs)[i]? = some d → ∃ e c, ds[i]? = some e ∧ cs[i]? = some c ∧ d = .tup [e, .str ⟨#[c]⟩]
  | [], cs, i, d, h => by simp [zipM] at h
  | _ :: _, [], i, d, h => by simp [zipM] at h
  | e :: ds, c :: cs, 0, d, h => by
    simp [zipM] at h
    exact ⟨e, c, rfl, rfl, h.symm⟩
  | e :: ds, c :: cs, i + 1, d, h => by
    have h' : (zipM ds cs)[i]? = some d := by simpa [zipM] using h
    obtain ⟨e', c', h1, h2, h3⟩ := zipM_get h'
    exact ⟨e', c', by simpa using h1, by simpa using h2, h3⟩
def zM : List D → Option (List D)
  | [.lst ds, .str z] => some (zipM ds z.cps.toList)
  | _ => none
theorem ri_zipM {ta : TA} {sa : SA} (h : RA w W ta sa) : RI w W (R7.iZipM w.K ta) (siV zM sa) := fun π B Z g σ H R s q =>
  h π B Z g σ H _ s (Tail.bAI q fun rs g1 vs B1 H1 e1 s1 r1 q1 => by
    split at q1
    · rename_i ds hr
      have hd := r1.datas hr
      split at q1
      · rename_i es he
        unfold zM at he
        split at he
        · rename_i ds z
          cases he
          cases hd with
          | cons a t =>
            cases t with
            | cons b t =>
              cases t
              cases a with
              | lst hb hx =>
                cases b
                refine ⟨_, _, _, rfl, .inl (.inl (s1.sub.at hb rfl)), q1 _ B1 H1 (Ext.refl _) s1 ?_⟩
                have hln := hx.len
                have hn : (zipM ds z.cps.toList).length = min ‹List V›.length z.cps.size := by
                  rw [zipM_len, hln, Array.length_toList (xs := z.cps)]
                refine walks_of (R7.walk_zm (z := z) hn) rfl (fun B2 H2 e2 s2 => .inl (.inl (s2.at (e2 _ _ hb) rfl))) fun B2 i d H2 x H3 e2 s2 q2 y => ?_
                obtain ⟨e, c, k1, k2, rfl⟩ := zipM_get q2
                exact ypair (B := B1) (ds := fun i => ds[i]?) (es := fun i => z.cps.toList[i]?.map fun c => M7.D.str ⟨#[c]⟩) (fun i d q => hx.get q) (fun i d q => by
                  obtain ⟨c', e1, rfl⟩ := Option.map_eq_some_iff.mp q
                  exact ⟨.str ⟨#[c']⟩, by rw [← Array.getElem?_toList, e1]; rfl, .str _⟩) B2 i e (.str ⟨#[c]⟩) H2 x H3 e2 s2 k1 (by rw [k2]; rfl) y
        · cases he
      · exact q1.elim
    · exact q1.elim)
theorem di_zipM {ι : Type} {XS : ι → Cx} {elts : List Expr} {kk : Nat} {tpos p pos : Pos} {e e2 : Expr} {args : SA} (hm : ∀ i, (XS i).mg "zip" = none) (ha : DA XS w W [e, e2] args) (hg : ∀ i, Gl (XS i) "zip" := by intro _; rfl) (hs : ∀ i, starEach [e, e2] (XS i).env = (false, eval e (XS i).env) :: starEach [e2] (XS i).env := by intro _; rfl)
    (hpl : ∀ i, (backTo pos (starEach [e2] (XS i).env)).any (·.1) = false := by intro _; rfl) (hK : ∀ i, (XS i).K = w.K := by intro _; rfl) :
    DI XS w W (.Tuple elts kk tpos) (.Call (.Name "zip" p) [e, e2] [] pos) (siV zM args) := by
  obtain ⟨t, k1, k2⟩ := ha
  exact ⟨_, fun i => by rw [← hK i]; exact R7.pi_zipM (hg i) (hm i) (k1 i) (hs i) (hpl i), ri_zipM k2⟩
end
end M7
/-! Classes with a plain __init__(self, a, ..); several handlers. -/
namespace M7
open PySem PySem.Spec PyProof.Rows L2
section
variable {w : WD} {W : WX} {π : Nat → V} {B B' B1 Z : Hp} {g : G} {σ : L2.St} {H H' : Hp} {v : V}
def mkP (c : CN) (φ : Fn) (ds : List D) (g : G) : O (Bool × D) := match φ ((true, .obj c []) :: ds.map fun d => (false, d)) with
  | .ret _ .non (b :: _) => .ok b g
  | .ex x f (_ :: _) => .ex x f g
  | _ => .fail
theorem re_mkP {c : CN} {φ : Fn} {E : XK} {vs : List V} {ds : List D} {Q : VK} {g2 : G} {H2 B2 : Hp} (hE : ∀ cls d H', W cls d σ H' → E cls d H') (s2 : Sat w π B2 Z g2 σ H2) (dd : Dens w B2 vs ds)
    (q2 : PostE w W π B2 Z σ Q (mkP c φ ds g2)) : ∀ x dx, H2 x = none → H2 dx = none → dx ≠ x → spD w φ (.ref x :: vs) (upd (upd H2 dx (.own x)) x (.ins (w.cls c) dx [])) (fun v H3 => v = .non ∧ Q (.ref x) H3) E := by
  unfold mkP at q2
  intro x dx hx hdx hne
  have hx' : upd H2 dx (.own x) x = none := by rw [upd_ne (Ne.symm hne)]; exact hx
  have s3 := s2.grow (Ext.new hdx (o := .own x))
  have r3 : Res w B2 Z g2 σ (upd (upd H2 dx (.own x)) x (.ins (w.cls c) dx [])) (.ref x) true (.obj c []) := s3.new_res hx' (.obj (ns := []) (vs := []) (ds := []) upd_same rfl .nil)
  have s4 := s3.grow (Ext.new hx' (o := .ins (w.cls c) dx []))
  have s6 : Sat w π B2 Z (g2 ++ [some (Fl.o, M7.D.obj c [])]) (σ ++ [some (.ref x)]) _ := s4.push r3
  have hl : σ.length = g2.length := s2.len.symm
  have rf : RefsOk w B2 (σ ++ [some (.ref x)]) (.ref x :: vs) (.sl g2.length :: dts ds) := by
    refine .cons ?_ (dens_refs dd)
    show (σ ++ [some (V.ref x)])[g2.length]? = _
    rw [← hl]
    exact app_at
  have gl : (g2 ++ [some (Fl.o, M7.D.obj c [])])[g2.length]? = some (some (.o, .obj c [])) := app_at
  refine call_D (W := fun cls d τ H' => τ = σ ++ [some (.ref x)] → W cls d σ H') s6 rf (fun cls d H' z => hE cls d H' (z rfl)) ?_
  have hd1 : distinct (lentOf (g2 ++ [some (Fl.o, M7.D.obj c [])]) (.sl g2.length :: dts ds)) = true := by
    unfold lentOf
    rw [gl]
    simp only
    rw [if_pos (by rfl), lent_dts]
    rfl
  have ha1 : argsOf (g2 ++ [some (Fl.o, M7.D.obj c [])]) (.sl g2.length :: dts ds) = some ((true, .obj c []) :: ds.map fun d => (false, d)) := by
    have a0 : argOf (g2 ++ [some (Fl.o, M7.D.obj c [])]) (.sl g2.length) = some (true, .obj c []) := by
      unfold argOf
      simp only
      rw [gl]
      rfl
    unfold argsOf
    rw [a0, args_dts]
  rw [if_pos hd1, ha1]
  simp only
  have gb : ∀ (b : Bool × D) (bk : List (Bool × D)), giveBack (g2 ++ [some (Fl.o, M7.D.obj c [])]) (.sl g2.length :: dts ds) (b :: bk) = g2 ++ [some (if b.1 = true then Fl.o else Fl.f, b.2)] := fun b bk => by
    unfold giveBack
    rw [gl]
    simp only
    rw [if_pos (by rfl), give_dts, List.set_append_right _ _ (Nat.le_refl _), Nat.sub_self]
    rfl
  have pin : ∀ b : Bool, (if b = true then Fl.o else Fl.f).pin = false := fun b => by cases b <;> rfl
  have own : ∀ b : Bool, (if b = true then Fl.o else Fl.f).own = b := fun b => by cases b <;> rfl
  split at q2
  · rename_i b bk hφ
    rw [hφ]
    intro v B' H' e' t rv
    rw [gb] at t
    obtain ⟨t1, t2⟩ := t.pop (pin b.1)
    have vn : v = .non := res_non rv
    refine ⟨vn, ?_⟩
    have rr := t2 _ rfl
    rw [own] at rr
    exact q2 _ B' H' e' t1 rr
  · rename_i y f b bk hφ
    rw [hφ]
    intro hx dd B' H' σ' e' t xo
    intro hσ
    subst hσ
    rw [gb] at t
    obtain ⟨t1, _⟩ := t.pop (pin b.1)
    exact q2 hx dd B' H' σ e' t1 xo
  · exact q2.elim
/-- a class whose __init__ has plain parameters is called -/
def seMk (c : CN) (φ : Fn) (sa : SA) : SE := fun g => (sa g).bind fun rs g1 => match datas rs with
  | some ds => mkP c φ ds g1
  | none => .fail
theorem re_mk {c : CN} {φ : Fn} {E : L2.St → XK} {ta : TA} {sa : SA} (hE : ∀ σ cls d H', W cls d σ H' → E σ cls d H') (h : RA w W ta sa) :
    RE w W (R7.tMakeK (w.cls c) (fun vs _ H Q E => spD w φ vs H Q E) 0 E ta tNil) (seMk c φ sa) := fun π B Z g σ H Q s q =>
  h π B Z g σ H _ s (tailE.bA q fun rs g1 vs B1 H1 e1 s1 r1 q1 => by
    split at q1
    · rename_i ds hd
      exact ⟨rfl, re_mkP (hE σ) s1 (r1.datas hd) q1⟩
    · exact q1.elim)
end
section
variable {w : WD} {W : WX} {ι : Type} {XS : ι → Cx} {P : Program} {wl : World} {mg : Str → Option Value} {base : Heap} {gb gb' b : Bool} {n k : Nat} {m x : Str} {e o : Expr} {es : List Expr} {sb : SB} {se : SE} {args sk : SA} {p p2 apos pos kpos : Pos}
structure MakP (P : Program) (wl : World) (mg : Str → Option Value) (base : Heap) (w : WD) (b : Bool) (k : Nat) (c : CN) (φ : Fn) : Prop where
  ex : ∃ f : Addr, Mk w.K (w.cls c) f ∧ Def P wl mg base w false b k f φ
theorem def_fnK {f : Addr} {φ : Fn} (h : Def P wl mg base w false b k f φ) : R7.FnK P wl w.K mg base (CXb b P wl) k f [] (fun vs _ H Q E => spD w φ vs H Q E) := by
  obtain ⟨fd, ps, F, hb, _⟩ := h
  intro A outer s H us ws vs zs Q E hr e0 r rz hl hsp
  have KX : w.K.In s.heap := e0.mod.kin.keeps fun b o e => (e0.bs b o e).1
  have l : (us ++ []).length = ps.length := by rw [List.append_nil, ← r.length]; exact F.len _ _ _ _ hsp
  have := hb s us KX l
  rw [List.append_nil] at this
  exact F.go A outer s H ⟨us, []⟩ us vs Q E (fun z => nomatch z) hr e0 this r hsp
theorem de_mk {c : CN} {φ : Fn} (F : Fam P wl mg base w gb n XS) (tk : Tk b XS W) (M : MakP P wl mg base w b k c φ) (hm : mg x = some (.ref (w.cls c))) (ha : DA XS w W (e :: es) args) (hk : k + 1 ≤ n := by decide) (hg : ∀ i, Gl (XS i) x := by intro _; rfl)
    (hall : ∀ i, (backToKw pos (keywordEach [] (XS i).env)).all (·.1.isSome) = true := by intro _; rfl) (hks : ∀ i, (backToKw pos (keywordEach [] (XS i).env)).filterMap (·.1) = [] := by intro _; rfl)
    (hdb : (x == ("__debug__" : Str)) = false := by decide) (he : ∀ i, starEach (e :: es) (XS i).env = (false, eval e (XS i).env) :: starEach es (XS i).env := by intro _; rfl)
    (hpl : ∀ i, ((backTo pos (starEach (e :: es) (XS i).env)).any (·.1) || (backToKw pos (keywordEach [] (XS i).env)).any (·.1.isNone)) = false := by intro _; rfl) :
    DE XS w W (.Call (.Name x p) (e :: es) [] pos) (seMk c φ args) := by
  obtain ⟨t, h1, h2⟩ := ha
  obtain ⟨f, q1, q2⟩ := M.ex
  refine ⟨_, fun i => ?_, re_mk (E := WEb b W) WEb.of h2⟩
  have t1 := tk.at i
  rw [F.prog i, F.wl i] at t1
  exact R7.pe_makeK (ks := []) (CX := CXb b P wl) (by rw [F.K i]; exact q1) (by rw [F.prog i, F.wl i, F.K i, F.mg i, F.base i]; exact def_fnK q2) ((F.room i).mono hk) (hg i) (by rw [F.mg i]; exact hm) t1 (h1 i) pk_nil (hall i) (hks i) hdb (he i) (hpl i)
end
end M7
set_option maxHeartbeats 1000000
/-! list(a text). -/
namespace R7
open PySem PySem.Spec PyProof.Rows L2
theorem str_len_look : typeLookup (.type "str") "__len__" = pure (some (.builtin "str.__len__")) := by rw [typeLookup_type, builtinLookup_eq_fast]; kernel_rfl
theorem str_len_split : splitId "str.__len__" = some ("str", "__len__") := by decide +kernel
theorem hint_str (x : Str) (t : Tok) : Builtin.List.listLengthHint (.str x t) = (pure false : Sem Bool) := by
  unfold Builtin.List.listLengthHint
  have e : specialOf (.str x t) "__len__" = (pure (some (.builtin "str.__len__")) : Sem (Option Value)) := by
    show (typeLookup (.type "str") "__len__" : Sem (Option Value)) = _
    exact str_len_look
  rw [e]
  kernel_rfl
section
variable {prog : Program} {w : World} {A : Around} {s : Shared} {R : Result → Shared → Prop} {n : Nat}
theorem walks_text {prog : Program} {w : World} {A : Around} (hh : A.handled = none) (I : Addr) (x : Str) (t : Tok) :
    Walks prog w A I [I] [I] x.cps.size (fun i v => ∃ c u, x.cps[i]? = some c ∧ v = .str ⟨#[c]⟩ u) (fun i h => h.IsStrIter I (strIterType x) x t i) := by
  cases ha : x.cps.all (· < 128)
  · simp only [strIterType, ha, Bool.false_eq_true, if_false]
    exact .strWide hh I x t
  · simp only [strIterType, ha, if_true]
    exact .strAscii hh I x t
theorem extend_text (hh : A.in1.handled = none) (S : Addr) (x : Str) (t : Tok) (res : Value) (c₀ : Nat) (hS : s.heap.get? S = some { cls := .type "list", data := .seq #[] c₀ }) (hlt : S < s.heap.objs.size)
    (hR : ∀ s' acc' c', Moved [S, s.heap.objs.size] (fun a b => b = a) { s with heap := s.heap.push { cls := .type (strIterType x), data := .fields #[.str x t, .int 0 0] } } s' → s'.heap.get? S = some { cls := .type "list", dict := none, data := .seq acc' c', slots := #[] } → ItemsOf (fun i v => ∃ c u, x.cps[i]? = some c ∧ v = .str ⟨#[c]⟩ u) acc' x.cps.size → R (.ok (.ret res)) s') (hn : x.cps.size ≤ sizeLine) :
    wpAny (model prog w) A.in1 (Builtin.List.listExtendWith (.ref S) (.str x t) res)
      (fun fin s' => match fin with | .done f => R (.ok f) s' | .again c' => c'.quiet = true ∧ codeAny (model prog w) A c' R s') (fun e s' => R (.error e) s') s := by
  unfold Builtin.List.listExtendWith
  refine wpAny_bind (wpAny_of_eq (a := Value.type "str") rfl ?_)
  rw [if_neg (show ¬ ((Builtin.List.listSameRef (.ref S) (.str x t) || Value.type "str" == Value.type "list" || Value.type "str" == Value.type "tuple") = true) from by
    show ¬ ((false || Value.type "str" == Value.type "list" || Value.type "str" == Value.type "tuple") = true)
    decide)]
  refine wpAny_bind (wpAny_pyIter_strU ?_)
  refine wpAny_bind (wpAny_holding ?_)
  rw [hint_str]
  refine wpAny_pure ?_
  rw [if_neg (by decide +kernel)]
  have hne : S ∉ [s.heap.objs.size] := fun z => Nat.ne_of_lt hlt (List.mem_singleton.mp z)
  refine wpAny_pure ⟨plainId_quiet F.plain_extend_loop _, codeAny_extend_loopS (walks_text hh s.heap.objs.size x t).toS hn S hne res x.cps.size 0 _ #[] c₀ rfl (Nat.zero_le _) ?_ (Heap.get?_push_of_some _ hS) (ItemsOf.nil _) fun s' acc' c' hm hS' hacc => ?_⟩
  · exact ⟨_, Heap.get?_push_size _ rfl, rfl, rfl⟩
  · exact hR s' acc' c' hm hS' hacc
/-- list(x), x a text: a new list of its signs -/
theorem call_list_text {E : Value → Shared → Prop} {x : Str} {t : Tok} {Q : Value → Shared → Prop} (hh : A.in1.in1.handled = none) (hn : x.cps.size ≤ sizeLine)
    (hQ : ∀ s' acc' c', (∀ b o, s.heap.get? b = some o → s'.heap.get? b = some o) → s'.gens = s.gens → s'.drawn = s.drawn → s'.os = s.os →
      s'.heap.get? s.heap.objs.size = some { cls := .type "list", dict := none, data := .seq acc' c', slots := #[] } → ItemsOf (fun i v => ∃ c u, x.cps[i]? = some c ∧ v = .str ⟨#[c]⟩ u) acc' x.cps.size → Q (.ref s.heap.objs.size) s') :
    wpAny (model prog w) A (call (.type "list") [.str x t]) Q E s := by
  refine callType_codes (Q₁ := fun obj s₁ => obj = .ref s.heap.objs.size ∧ s₁ = { s with heap := s.heap.push { cls := .type "list", data := .seq #[] } }) F.called_list (F.typeCall_list_1 _) F.entry_list_init
    (code_list_new _ ⟨rfl, rfl⟩) fun obj s₁ h₁ => ?_
  obtain ⟨rfl, rfl⟩ := h₁
  have hS : (s.heap.push { cls := .type "list", data := .seq #[] }).get? s.heap.objs.size = some { cls := .type "list", data := .seq #[] } := Heap.get?_push_size _ rfl
  refine ⟨⟨_, hS, rfl⟩, F.args_list_init_2 _ _, ?_⟩
  show wpAny _ A.in1.in1 (do let old ← Builtin.List.listItems (.ref s.heap.objs.size); Builtin.List.listUpdate (.ref s.heap.objs.size) (fun _ => #[]); letGo old.toList.reverse; Builtin.List.listExtendWith (.ref s.heap.objs.size) (.str x t) .none) _ _ _
  refine wpAny_bind ?_
  unfold Builtin.List.listItems
  refine wpAny_bind (wpAny_seqItems hS rfl (wpAny_pure ?_))
  show wpAny _ A.in1.in1 (updateSeq s.heap.objs.size (fun _ => #[]) >>= fun _ => letGo (#[] : Array Value).toList.reverse >>= fun _ => Builtin.List.listExtendWith (.ref s.heap.objs.size) (.str x t) .none) _ _ _
  refine wpAny_bind (wpAny_updateSeq hS rfl ?_)
  have hS₂ := Heap.get?_update_self (Obj.mapSeq (fun _ => (#[] : Array Value))) hS rfl
  refine wpAny_bind (wpAny_letGo ?_)
  refine extend_text (A := A.in1) hh s.heap.objs.size x t .none _ hS₂ (Heap.lt_size hS₂) (fun s' acc' c' hm hS' hacc => ?_) hn
  refine ⟨rfl, hQ s' acc' c' (fun b o e => ?_) hm.gens hm.drawn hm.os hS' hacc⟩
  have hb : b < s.heap.objs.size := Heap.lt_size e
  have sz : ((s.heap.push { cls := .type "list", data := .seq #[] }).update s.heap.objs.size (Obj.mapSeq (fun _ => (#[] : Array Value)))).objs.size = s.heap.objs.size + 1 := by
    first | rw [Heap.size_update, Heap.size_push] | simp
  refine hm.heap b o ?_ (Heap.get?_push_of_some _ ((Heap.get?_update_other _ _ (Nat.ne_of_gt hb)).trans (Heap.get?_push_of_some _ e)))
  intro z
  rcases List.mem_cons.mp z with z | z
  · exact Nat.ne_of_lt hb z
  · have z := List.mem_singleton.mp z
    rw [sz] at z
    rw [z] at hb
    exact absurd hb (Nat.not_lt.mpr (Nat.le_succ _))
end
theorem call_listS {X : Cx} (hc : X.calm = true) : CallR X (.type "list") (fun xs H Q => ∃ z : Str, xs = [.str z] ∧ z.cps.size ≤ sizeLine ∧ ∀ l, H l = none → Q (.ref l) (upd H l (.lst (z.cps.toList.map fun c => V.str ⟨#[c]⟩)))) := by
  intro pins s σ H xs us Q I r h
  obtain ⟨z, rfl, hz, q⟩ := h
  obtain ⟨u, rfl, rx⟩ := vals1 r
  obtain ⟨t, rfl⟩ := rx
  refine call_list_text (by show X.A.handled = none; exact I.ok.hd hc) hz fun s' acc' c' hk hg hd ho hS' hacc => ?_
  obtain ⟨hh, g, d, tk, os⟩ := s
  obtain ⟨hh', g', d', tk', os'⟩ := s'
  cases hg
  cases hd
  cases ho
  have ra : Vals (z.cps.toList.map fun c => V.str ⟨#[c]⟩) acc'.toList := by
    have go : ∀ (cs : List Nat) (vs : List Value) (k : Nat), vs.length = cs.length → (∀ (j : Nat) (v : Value), vs[j]? = some v → ∃ c u, cs[j]? = some c ∧ v = Value.str ⟨#[c]⟩ u) → Vals (cs.map fun c => V.str ⟨#[c]⟩) vs := by
      intro cs
      induction cs with
      | nil =>
        intro vs k hl _
        cases vs with
        | nil => exact .nil
        | cons v vs => simp at hl
      | cons c cs ih =>
        intro vs k hl hv
        cases vs with
        | nil => simp at hl
        | cons v vs =>
          refine .cons ?_ (ih vs k (by simpa using hl) fun j v e => by
            have := hv (j + 1) v (by simpa using e)
            simpa using this)
          obtain ⟨c', u, e1, rfl⟩ := hv 0 v rfl
          simp at e1
          subst e1
          exact ⟨u, rfl⟩
    refine go _ _ 0 (by rw [Array.length_toList, Array.length_toList]; exact hacc.1) fun j v e => ?_
    obtain ⟨c, u, e1, e2⟩ := hacc.2 j v (by rw [← Array.getElem?_toList]; exact e)
    exact ⟨c, u, by rw [Array.getElem?_toList]; exact e1, e2⟩
  have hsz : (z.cps.toList.map fun c => V.str ⟨#[c]⟩).length ≤ sizeLine := by rw [List.length_map, Array.length_toList]; exact hz
  exact ⟨.ref hh.objs.size, _, I.laid (t' := tk') hk (Nat.le_refl _) (show ObjOk X.prog X.w _ hh' _ (.lst _) from ⟨hsz, acc'.toList, c', ra, by simpa using hS'⟩), rfl, q _ (I.hok.fresh (Nat.le_refl _))⟩
end R7
/-! More operations by values. -/
namespace M7
open PySem PySem.Spec PyProof.Rows L2
section
variable {w : WD} {W : WX} {π : Nat → V} {B B' B1 Z : Hp} {g : G} {σ : L2.St} {H H' : Hp} {v : V}
/-- list(x) -/
def dListU : List D → Option (Bool × D)
  | [.str z] => if z.cps.size ≤ sizeLine then some (true, .lst (z.cps.toList.map fun c => .str ⟨#[c]⟩)) else none
  | ds => dList ds
theorem dens_chars (B : Hp) : ∀ cs : List Nat, Dens w B (cs.map fun c => V.str ⟨#[c]⟩) (cs.map fun c => M7.D.str ⟨#[c]⟩)
  | [] => .nil
  | c :: cs => .cons (.str _) (dens_chars B cs)
theorem cd_listU : CallD w (fun xs H Q => (∃ z : Str, xs = [.str z] ∧ z.cps.size ≤ sizeLine ∧ ∀ l, H l = none → Q (.ref l) (upd H l (.lst (z.cps.toList.map fun c => V.str ⟨#[c]⟩)))) ∨
    ∃ p ys, xs = [.ref p] ∧ (SqL w.K H p ys ∨ SqT w.K H p ys) ∧ ∀ l, H l = none → Q (.ref l) (upd H l (.lst ys))) dListU := fun π B Z g σ H Q vs ds s h q => by
  unfold dListU at q
  split at q
  · obtain ⟨v, rfl, hv⟩ := lks1 h
    split at q
    · rename_i hz
      refine .inl ⟨_, by rw [lk_str hv], hz, fun l hl => ?_⟩
      exact fin_L s q (dens_chars B _) hl
    · exact q.elim
  · exact .inr (cd_list π B Z g σ H Q vs ds s h q)
/-- the greatest, the least of some ints -/
def mxI : List Int → Int
  | [] => 0
  | [i] => i
  | i :: l => if mxI l ≤ i then i else mxI l
def mnI : List Int → Int
  | [] => 0
  | [i] => i
  | i :: l => if i ≤ mnI l then i else mnI l
theorem mxI_mem : ∀ {l : List Int}, l ≠ [] → mxI l ∈ l ∧ ∀ y ∈ l, y ≤ mxI l
  | [], h => absurd rfl h
  | [i], _ => ⟨.head _, fun y hy => by rw [List.mem_singleton.mp hy]; exact Int.le_refl _⟩
  | i :: j :: l, _ => by
    obtain ⟨h1, h2⟩ := mxI_mem (l := j :: l) (by simp)
    have e : mxI (i :: j :: l) = if mxI (j :: l) ≤ i then i else mxI (j :: l) := rfl
    rw [e]
    split
    · rename_i h
      refine ⟨.head _, fun y hy => ?_⟩
      rcases List.mem_cons.mp hy with rfl | hy
      · exact Int.le_refl _
      · exact Int.le_trans (h2 y hy) h
    · rename_i h
      refine ⟨.tail _ h1, fun y hy => ?_⟩
      rcases List.mem_cons.mp hy with rfl | hy
      · omega
      · exact h2 y hy
theorem mnI_mem : ∀ {l : List Int}, l ≠ [] → mnI l ∈ l ∧ ∀ y ∈ l, mnI l ≤ y
  | [], h => absurd rfl h
  | [i], _ => ⟨.head _, fun y hy => by rw [List.mem_singleton.mp hy]; exact Int.le_refl _⟩
  | i :: j :: l, _ => by
    obtain ⟨h1, h2⟩ := mnI_mem (l := j :: l) (by simp)
    have e : mnI (i :: j :: l) = if i ≤ mnI (j :: l) then i else mnI (j :: l) := rfl
    rw [e]
    split
    · rename_i h
      refine ⟨.head _, fun y hy => ?_⟩
      rcases List.mem_cons.mp hy with rfl | hy
      · exact Int.le_refl _
      · exact Int.le_trans h (h2 y hy)
    · rename_i h
      refine ⟨.tail _ h1, fun y hy => ?_⟩
      rcases List.mem_cons.mp hy with rfl | hy
      · omega
      · exact h2 y hy
def dMaxL : List D → Option (Bool × D)
  | [.lst ds] => (intsD ds).bind fun ns => if ns = [] then none else some (false, .int (mxI ns))
  | _ => none
def dMinL : List D → Option (Bool × D)
  | [.lst ds] => (intsD ds).bind fun ns => if ns = [] then none else some (false, .int (mnI ns))
  | _ => none
theorem cd_maxL : CallD w (rMax w.K) dMaxL := fun π B Z g σ H Q vs ds s h q => by
  unfold dMaxL at q
  split at q
  · rename_i ds
    obtain ⟨v, rfl, hv⟩ := lks1 h
    obtain ⟨a, xs, rfl, ha, hx⟩ := lk_lst s.sub hv
    cases hi : intsD ds with
    | none => rw [hi] at q; exact q.elim
    | some ns =>
      rw [hi] at q
      rw [Option.bind_some] at q
      split at q
      · exact q.elim
      · rename_i hne
        rw [dens_ints hx hi] at ha
        refine ⟨a, ns, rfl, .inl (.inl ha), List.length_pos_iff.mpr hne, fun m hm hy => ?_⟩
        obtain ⟨h1, h2⟩ := mxI_mem hne
        obtain rfl : m = mxI ns := Int.le_antisymm (h2 m hm) (hy _ h1)
        exact fin_d s q (.int _)
  · exact q.elim
theorem cd_minL : CallD w (rMin w.K) dMinL := fun π B Z g σ H Q vs ds s h q => by
  unfold dMinL at q
  split at q
  · rename_i ds
    obtain ⟨v, rfl, hv⟩ := lks1 h
    obtain ⟨a, xs, rfl, ha, hx⟩ := lk_lst s.sub hv
    cases hi : intsD ds with
    | none => rw [hi] at q; exact q.elim
    | some ns =>
      rw [hi] at q
      rw [Option.bind_some] at q
      split at q
      · exact q.elim
      · rename_i hne
        rw [dens_ints hx hi] at ha
        refine ⟨a, ns, rfl, .inl (.inl ha), List.length_pos_iff.mpr hne, fun m hm hy => ?_⟩
        obtain ⟨h1, h2⟩ := mnI_mem hne
        obtain rfl : m = mnI ns := Int.le_antisymm (hy _ h1) (h2 m hm)
        exact fin_d s q (.int _)
  · exact q.elim
/-- a list, k times -/
def dRepL : D → D → Option (Bool × D)
  | .lst ds, .int k => if 0 ≤ k ∧ k < 1000000 ∧ ds.length * k.toNat ≤ sizeLine then some (true, .lst (List.replicate k.toNat ds).flatten) else none
  | _, _ => none
theorem dens_repL {xs : List V} {ds : List D} (h : Dens w B xs ds) : ∀ n : Nat, Dens w B (List.replicate n xs).flatten (List.replicate n ds).flatten
  | 0 => .nil
  | n + 1 => by
    rw [List.replicate_succ, List.replicate_succ, List.flatten_cons, List.flatten_cons]
    exact h.app (dens_repL h n)
theorem od_repL : OpD w rRep dRepL := fun π B Z g σ H Q v u d e s h1 h2 q => by
  cases d <;> first | exact q.elim | skip
  cases e <;> first | exact q.elim | skip
  rename_i ds k
  unfold dRepL at q
  simp only at q
  split at q
  · rename_i hc
    obtain ⟨a, xs, rfl, ha, hx⟩ := lk_lst s.sub h1
    have p63 : (2 : Int) ^ 63 = 9223372036854775808 := by rfl
    refine ⟨a, k, xs, rfl, lk_int h2, ha, by rw [p63]; omega, by rw [p63]; omega, by rw [hx.len]; exact hc.2.2, fun p hp => ?_⟩
    exact fin_L s q (dens_repL hx _) hp
  · exact q.elim
/-- s.count(t) -/
def dCount : D → D → Option (Bool × D)
  | .str a, .str b => some (false, .int (Txt.count a b))
  | _, _ => none
theorem od_count : OpD w (fun x y H Q => ∃ a b, x = .str a ∧ [y] = [V.str b] ∧ Q (.int (Txt.count a b)) H) dCount := fun π B Z g σ H Q v u d e s h1 h2 q => by
  cases d <;> first | exact q.elim | skip
  cases e <;> first | exact q.elim | skip
  exact ⟨_, _, lk_str h1, by rw [lk_str h2], fin_d s q (.int _)⟩
end
end M7
/-! Several handlers; count of a text. -/
namespace M7
open PySem PySem.Spec PyProof.Rows L2
section
variable {w : WD} {W : WX} {ι : Type} {XS : ι → Cx}
def pickH : List ((XN → Bool) × SS) → XN → SS
  | [], _, _ => .fail
  | (mt, su) :: l, y, g => if mt y = true then su g else pickH l y g
def ssTryM (l : List ((XN → Bool) × SS)) (ssb : SS) : SS := fun g => match ssb g with
  | .ex y f g1 => pickH l y g1
  | r => r
inductive HsR (w : WD) : List (Value × TS) → List ((XN → Bool) × SS) → Prop
  | nil : HsR w [] []
  | cons {c : Value} {ts : TS} {mt : XN → Bool} {su : SS} {L : List (Value × TS)} {l : List ((XN → Bool) × SS)} (hm : Ctc w c mt) (hs : RS w WT ts su) (r : HsR w L l) : HsR w ((c, ts) :: L) ((mt, su) :: l)
def hsX (L : List (Value × TS)) : List (Value × (Addr → Value → Option Addr → TS)) := L.map fun p => (p.1, fun _ _ _ => p.2)
theorem rs_tryM {L : List (Value × TS)} {l : List ((XN → Bool) × SS)} {tb : WX → TS} {ssb : SS} (hl : HsR w L l) (hb : ∀ W', RS w W' (tb W') ssb) : RS w W (fun D σ H => tb (wMany w.K WN D (hsX L)) D σ H) (ssTryM l ssb) := fun π B Z g σ H D s q => by
  refine hb _ π B Z g σ H D s ?_
  unfold ssTryM at q
  cases hg : ssb g with
  | ex y f g1 =>
    rw [hg] at q
    intro hx dd B' H' σ' e s' xo
    have q : PostS w W π B Z D (pickH l y g1) := q
    clear hg
    revert q
    induction hl with
    | nil => exact fun q => q.elim
    | @cons c ts mt su L l hm hs r ih =>
      intro q
      have q : PostS w W π B Z D (if mt y = true then su g1 else pickH l y g1) := q
      refine ⟨mt y, hm y hx, fun hy a ha => hs π B' Z g1 σ' H' D s' ?_, fun hn => ?_⟩
      · rw [if_pos hy] at q
        revert q
        cases su g1 with
        | nx g => exact fun q B'' H'' σ'' e2 => q B'' H'' σ'' (e.trans e2)
        | bk g => exact fun q B'' H'' σ'' e2 => q B'' H'' σ'' (e.trans e2)
        | ct g => exact fun q B'' H'' σ'' e2 => q B'' H'' σ'' (e.trans e2)
        | rt o d g => exact fun q v B'' H'' σ'' e2 => q v B'' H'' σ'' (e.trans e2)
        | ex x f g => exact fun q _ _ _ _ _ _ _ _ => trivial
        | fail => exact fun q => q.elim
      · rw [if_neg (by rw [hn]; decide)] at q
        exact ih (by assumption) q
  | nx g1 => rw [hg] at q; exact q
  | bk g1 => rw [hg] at q; exact q
  | ct g1 => rw [hg] at q; exact q
  | rt o d g1 => rw [hg] at q; exact q
  | fail => rw [hg] at q; exact q.elim
def DHs (XS : ι → Cx) (w : WD) (hds : List ExceptHandler) (l : List ((XN → Bool) × SS)) : Prop := ∃ L : List (Value × TS), (∀ i, HdsOk (XS i) hds (hsX L)) ∧ HsR w L l
theorem dh_nil : DHs XS w [] [] := ⟨[], fun _ => .nil, .nil⟩
theorem dh_cons {x : Str} {c : Value} {mt : XN → Bool} {suite : List Stmt} {b0 : Stmt} {np pos' : Pos} {su : SS} {hds : List ExceptHandler} {l : List ((XN → Bool) × SS)} (hm : Ctc w c mt) (hc : ∀ i, Names (XS i) x c) (hsu : DSs (suS XS) w WT (b0 :: suite) su) (r : DHs XS w hds l) :
    DHs XS w (.ExceptHandler (some (.Name x np)) none (b0 :: suite) pos' :: hds) ((mt, su) :: l) := by
  obtain ⟨ts, k1, k2⟩ := hsu
  obtain ⟨L, r1, r2⟩ := r
  exact ⟨(c, ts) :: L, fun i => .cons (hc i) (fun a oe cls d pn _ _ => k1 (i, a, (a, oe) :: pn)) (r1 i), .cons hm k2 r2⟩
theorem ds_tryM {body : List Stmt} {h0 : ExceptHandler} {hds : List ExceptHandler} {pos : Pos} {ssb : SS} {l : List ((XN → Bool) × SS)} (hb : ∀ W', DSs (trS XS W') w W' body ssb) (hh : DHs XS w (h0 :: hds) l)
    (hs : ∀ i, (XS i).stack = (XS i).env :: (XS i).outer := by intro _; rfl) (hf : ∀ i, (XS i).env.frame = some (XS i).env.locals := by intro _; rfl) (hK : ∀ i, (XS i).K = w.K := by intro _; rfl) :
    DS XS w W (.Try body (h0 :: hds) [] [] pos) (ssTryM l ssb) := by
  obtain ⟨L, k1, k2⟩ := hh
  refine ⟨_, fun i => ?_, rs_tryM (tb := fun W' => (hb W').choose) k2 (fun W' => (hb W').choose_spec.2)⟩
  have z := ps_try_many (X := XS i) (pos := pos) (tb := fun W' => (hb W').choose) (Wout := WN) (hs i) (hf i) LamX.takes0 (fun W' pn xe h1 h2 => (hb W').choose_spec.1 ⟨(i, pn, xe), h1, h2⟩) (k1 i)
  rw [hK i] at z
  exact z
end
section
variable {w : WD} {W : WX} {ι : Type} {XS : ι → Cx} {e o : Expr} {sa sb : SB} {apos pos : Pos}
theorem de_count (ha : DB XS w W o sa) (hb : DB XS w W e sb) (hK : ∀ i, (XS i).K = w.K := by intro _; rfl) (hs : ∀ i, starEach [e] (XS i).env = [(false, eval e (XS i).env)] := by intro _; rfl) (hbase : ∀ i, attributeBase o "count" (XS i).env (eval o (XS i).env) = eval o (XS i).env := by intro _; rfl) (hline : (apos.endLine == pos.line) = true := by rfl) :
    DE XS w W (.Call (.Attribute o "count" apos) [e] [] pos) (seM1 dCount sa sb) := by
  obtain ⟨t, h1, h2⟩ := ha
  obtain ⟨u, k1, k2⟩ := hb
  refine ⟨_, fun i => ?_, re_m1 (r := fun x xs H Q => ∃ a b, x = .str a ∧ xs = [.str b] ∧ Q (.int (Txt.count a b)) H) od_count h2 k2⟩
  exact pe_m1 (apos := apos) (pos := pos) F.slot_str_count F.type_str_count mt_count (h1 i) (k1 i) (hs i) (hbase i) hline
end
end M7
/-! Hands, foldings; defs with super(). -/
namespace M7
open PySem PySem.Spec PyProof.Rows L2
def isHand : CN → Bool
  | .hand => true
  | _ => false
def isFold : CN → Bool
  | .folding => true
  | _ => false
section
variable {P : Program} {wl : World} {mg : Str → Option Value} {base : Heap} {w : WD}
theorem Def.mono {gb b : Bool} {j k : Nat} {f : Addr} {φ : Fn} (h : Def P wl mg base w gb b j f φ) (hj : j ≤ k := by decide) : Def P wl mg base w gb b k f φ := by
  obtain ⟨fd, ps, F, hb, hk⟩ := h
  exact ⟨fd, ps, ⟨F.len, fun A outer s H args us vs Q E hgd hr => F.go A outer s H args us vs Q E hgd (hr.mono hj)⟩, hb, hk⟩
theorem FunS.binds {K : PySem.W.Frag} {file x qual : Str} {st : Stmt} {D f : Addr} {fd : FuncData} {ps : List Str} (F : FunS K file x qual st D f fd)
    (h : ∀ (kV doc pm : Value) (an : Option Addr) (cda : Addr) (ct : Value) (cc : Addr) (us : List Value), us.length = ps.length → bindArgs (PySem.W.ksFn x qual (defArgs st) (defBody st) (defScope st) .none kV doc pm an (.ref cda) ct cc) ⟨us, []⟩ = pure (ps.zip us)) : Binds K fd ps [] := by
  obtain ⟨oc, od, kV, doc, pm, an, cda, ct, osl, cc, ccl, cdd, vs, ccs, tf, cl, cld, csl, rfl, _⟩ := F.ex
  exact .all fun us hl => h kV doc pm an cda ct cc us hl
end
end M7
set_option maxHeartbeats 2000000
namespace R7
open PySem PySem.Spec PyProof.Rows L2
theorem walk_zipT' {K : PySem.W.Frag} {a b : Addr} {xs ys : List V} {n : Nat} (hn : n = min xs.length ys.length) : Walk (RZ.ItzT K a b) n (fun H => SqT K H a xs ∧ SqT K H b ys) (YPair (fun i => xs[i]?) (fun i => ys[i]?)) := by
  subst hn
  refine ⟨fun i _ hi q => ?_, fun _ q => ⟨xs, ys, q.1, q.2, by omega⟩, fun i H v H' _ q y => ?_⟩
  · have h1 : i < xs.length := by omega
    have h2 : i < ys.length := by omega
    exact ⟨xs, ys, xs[i], ys[i], q.1, q.2, by simp, by simp⟩
  · obtain ⟨T, x, y', e1, e2, e3, e4, e5⟩ := y
    exact ⟨T, x, y', e1, e2, e3, e4 xs q.1, e5 ys q.2⟩
end R7
/-! Tuples: +, zip. -/
namespace M7
open PySem PySem.Spec PyProof.Rows L2
section
variable {w : WD} {W : WX} {π : Nat → V} {B B' B1 Z : Hp} {g : G} {σ : L2.St} {H H' : Hp} {v : V}
def dCatA : D → D → Option (Bool × D)
  | .tup a, .tup b => if a.length + b.length ≤ sizeLine then some (false, .tup (a ++ b)) else none
  | _, _ => none
theorem od_catA : OpD w (rCatA w.K) dCatA := fun π B Z g σ H Q v u d e s h1 h2 q => by
  cases d <;> first | exact q.elim | skip
  cases e <;> first | exact q.elim | skip
  rename_i ds es
  unfold dCatA at q
  simp only at q
  split at q
  · rename_i hc
    obtain ⟨a, xs, rfl, ha, hx⟩ := lk_tup s.sub h1
    obtain ⟨b, ys, rfl, hb, hy⟩ := lk_tup s.sub h2
    refine ⟨a, b, xs, ys, rfl, rfl, ha, hb, by rw [hx.len, hy.len]; exact hc, fun z => ?_, fun _ z => ?_, fun _ _ p hp => fin_T s q (hx.app hy) hp⟩
    · subst z
      cases hx
      rw [List.nil_append] at q
      exact fin_d s q (lk_den_tup h2)
    · subst z
      cases hy
      rw [List.append_nil] at q
      exact fin_d s q (lk_den_tup h1)
  · exact q.elim
/-- +, with empty tuples -/
def dAddV : D → D → Option (Bool × D)
  | .int i, .int j => some (false, .int (i + j))
  | .str a, .str b => dCatS (.str a) (.str b)
  | .lst a, .lst b => dCatL (.lst a) (.lst b)
  | .tup a, .tup b => dCatA (.tup a) (.tup b)
  | _, _ => none
def rAddV (K : PySem.W.Frag) : R2 := fun x y H Q => (rI0 fun i j => .int (i + j)) x y H Q ∨ (fun x y H Q => (fun x y H Q => ∃ i j, x = .str i ∧ y = .str j ∧ i.length + j.length ≤ sizeLine ∧ Q (.str (i ++ j)) H) x y H Q ∨ (fun x y H Q => rCat x y H Q ∨ rCatA K x y H Q) x y H Q) x y H Q
theorem op_addV {X : Cx} : OpR X (binaryOp .Add) (rAddV X.K) := OpR.or op_add (OpR.or op_add_str (OpR.or op_cat op_catA))
theorem od_addV : OpD w (rAddV w.K) dAddV := fun π B Z g σ H Q v u d e s h1 h2 q => by
  cases d <;> first | exact q.elim | skip
  · cases e <;> first | exact q.elim | skip
    exact .inl ⟨_, _, lk_int h1, lk_int h2, fin_d s q (.int _)⟩
  · cases e <;> first | exact q.elim | skip
    exact .inr (.inl (od_catS π B Z g σ H Q v u _ _ s h1 h2 q))
  · cases e <;> first | exact q.elim | skip
    exact .inr (.inr (.inl (od_catL π B Z g σ H Q v u _ _ s h1 h2 q)))
  · cases e <;> first | exact q.elim | skip
    exact .inr (.inr (.inr (od_catA π B Z g σ H Q v u _ _ s h1 h2 q)))
/-- zip of two lists, of two tuples -/
def zipD : List D → List D → List D
  | d :: ds, e :: es => .tup [d, e] :: zipD ds es
  | _, _ => []
theorem zipD_len : ∀ (ds es : List D), (zipD ds es).length = min ds.length es.length
  | [], es => by simp [zipD]
  | _ :: _, [] => by simp [zipD]
  | d :: ds, e :: es => by simp only [zipD, List.length_cons, zipD_len ds es]; omega
theorem zipD_get : ∀ {ds es : List D} {i : Nat} {d : D}, (zipD ds es)[i]? = some d → ∃ e f, ds[i]? = some e ∧ es[i]? = some f ∧ d = .tup [e, f]
  | [], es, i, d, h => by simp [zipD] at h
  | _ :: _, [], i, d, h => by simp [zipD] at h
  | e :: ds, f :: es, 0, d, h => by
    simp [zipD] at h
    exact ⟨e, f, rfl, rfl, h.symm⟩
  | e :: ds, f :: es, i + 1, d, h => by
    have h' : (zipD ds es)[i]? = some d := by simpa [zipD] using h
    obtain ⟨e', f', h1, h2, h3⟩ := zipD_get h'
    exact ⟨e', f', by simpa using h1, by simpa using h2, h3⟩
def zA : List D → Option (List D)
  | [.lst ds, .lst es] => some (zipD ds es)
  | [.tup ds, .tup es] => some (zipD ds es)
  | _ => none
theorem ri_zipA {ta : TA} {sa : SA} (h : RA w W ta sa) : RI w W (RZ.iZipA w.K ta) (siV zA sa) := fun π B Z g σ H R s q =>
  h π B Z g σ H _ s (Tail.bAI q fun rs g1 vs B1 H1 e1 s1 r1 q1 => by
    split at q1
    · rename_i ds hr
      have hd := r1.datas hr
      split at q1
      · rename_i es he
        unfold zA at he
        split at he
        · rename_i ds es
          cases he
          cases hd with
          | cons a t =>
            cases t with
            | cons b t =>
              cases t
              cases a with
              | lst ha hx =>
                cases b with
                | lst hb hy =>
                  refine ⟨_, _, _, _, rfl, .inl ⟨.inl (.inl (s1.sub.at ha rfl)), .inl (.inl (s1.sub.at hb rfl)), q1 _ B1 H1 (Ext.refl _) s1 ?_⟩⟩
                  rename_i xs _ ys
                  have hn : (zipD ds es).length = min xs.length ys.length := by
                    rw [zipD_len, hx.len, hy.len]
                  refine walks_of (walk_zip hn) rfl (fun B2 H2 e2 s2 => ⟨.inl (.inl (s2.at (e2 _ _ ha) rfl)), .inl (.inl (s2.at (e2 _ _ hb) rfl))⟩) fun B2 i d H2 x H3 e2 s2 q2 y => ?_
                  obtain ⟨e, f, k1, k2, rfl⟩ := zipD_get q2
                  exact ypair (B := B1) (ds := fun i => ds[i]?) (es := fun i => es[i]?) (fun i d q => hx.get q) (fun i d q => hy.get q) B2 i e f H2 x H3 e2 s2 k1 k2 y
        · rename_i ds es
          cases he
          cases hd with
          | cons a t =>
            cases t with
            | cons b t =>
              cases t
              cases a with
              | tup ha hx =>
                cases b with
                | tup hb hy =>
                  rename_i xs _ ys
                  refine ⟨_, _, _, _, rfl, .inr ⟨s1.sub.sqT ha, s1.sub.sqT hb, q1 _ B1 H1 (Ext.refl _) s1 ?_⟩⟩
                  have hn : (zipD ds es).length = min xs.length ys.length := by
                    rw [zipD_len, hx.len, hy.len]
                  refine walks_of (R7.walk_zipT' hn) rfl (fun B2 H2 e2 s2 => ⟨Sub.sqT s2 (e2.sqT ha), Sub.sqT s2 (e2.sqT hb)⟩) fun B2 i d H2 x H3 e2 s2 q2 y => ?_
                  obtain ⟨e, f, k1, k2, rfl⟩ := zipD_get q2
                  exact ypair (B := B1) (ds := fun i => ds[i]?) (es := fun i => es[i]?) (fun i d q => hx.get q) (fun i d q => hy.get q) B2 i e f H2 x H3 e2 s2 k1 k2 y
        · cases he
      · exact q1.elim
    · exact q1.elim)
theorem di_zipA {ι : Type} {XS : ι → Cx} {elts : List Expr} {kk : Nat} {tpos p pos : Pos} {e e2 : Expr} {args : SA} (hm : ∀ i, (XS i).mg "zip" = none) (ha : DA XS w W [e, e2] args) (hg : ∀ i, Gl (XS i) "zip" := by intro _; rfl) (hs : ∀ i, starEach [e, e2] (XS i).env = (false, eval e (XS i).env) :: starEach [e2] (XS i).env := by intro _; rfl)
    (hpl : ∀ i, (backTo pos (starEach [e2] (XS i).env)).any (·.1) = false := by intro _; rfl) (hK : ∀ i, (XS i).K = w.K := by intro _; rfl) :
    DI XS w W (.Tuple elts kk tpos) (.Call (.Name "zip" p) [e, e2] [] pos) (siV zA args) := by
  obtain ⟨t, k1, k2⟩ := ha
  exact ⟨_, fun i => by rw [← hK i]; exact RZ.pi_zipA (hg i) (hm i) (k1 i) (hs i) (hpl i), ri_zipA k2⟩
end
end M7
/-! ways.translate({76: "R", 82: "L"}) -/
namespace PySem
open Builtin Builtin.Str L2
/-- L for R, R for L -/
def swp (c : Nat) : Nat := if c = 76 then 82 else 76
def SwT (f : Key → Option Value) : Prop := (∃ t, f (.inl 76) = some (.str ⟨#[82]⟩ t)) ∧ ∃ t, f (.inl 82) = some (.str ⟨#[76]⟩ t)
theorem mapOf_mix {prog : Program} {w : World} {h h' : Heap} {a : Addr} {f : Key → Option Value} (m : h.MapOf (mixKind prog w) a f) (k : ∀ b o, h.get? b = some o → h'.get? b = some o) : h'.MapOf (mixKind prog w) a f := by
  obtain ⟨o, es, ep, ho, r⟩ := m
  exact ⟨o, es, ep, k _ _ ho, r⟩
section
variable {prog : Program} {w : World} {A : Around} {E : Value → Shared → Prop} {s : Shared} {d : Addr} {c : Nat}
theorem wpAny_sw {f : Key → Option Value} {Q : Mapped → Shared → Prop} (hc : c = 76 ∨ c = 82) (hm : s.heap.MapOf (mixKind prog w) d f) (hk : SwT f)
    (h1 : ∀ h' k, (∀ b o, s.heap.get? b = some o → h'.get? b = some o) → Q (.text ⟨#[swp c]⟩) { s with heap := h', toks := k }) : wpAny (model prog w) A (tableLookup (.ref d) c) Q E s := by
  unfold tableLookup
  refine wpAny_bind (wpAny_attempt (wpAny_bind (wpAny_mkInt ?_)))
  obtain ⟨t, hf⟩ : ∃ t, f (.inl (c : Int)) = some (.str ⟨#[swp c]⟩ t) := by
    rcases hc with rfl | rfl
    · exact hk.1
    · exact hk.2
  refine wpAny_getItem_of (knd := mixKind prog w) (k := .inl (c : Int)) (kV_is (k := .inl (c : Int)) ⟨_, rfl⟩) hm hf ?_
  show wpAny _ _ (do let o ← asInt? (Value.str ⟨#[swp c]⟩ t); _) _ _ _
  refine wpAny_bind (wpAny_of_eq (a := none) rfl ?_)
  show wpAny _ _ (do let o ← asStr? (Value.str ⟨#[swp c]⟩ t); _) _ _ _
  refine wpAny_bind (wpAny_of_eq (a := some ⟨#[swp c]⟩) rfl ?_)
  exact wpAny_pure (h1 s.heap _ fun _ _ e => e)
end
theorem pieces_sw : ∀ (l : List Nat) (acc : Array Nat), List.foldl (fun acc (p : Str) => acc ++ p.cps) acc (l.map fun c => (⟨#[swp c]⟩ : Str)) = acc ++ (l.map swp).toArray
  | [], acc => by
    show acc = acc ++ #[]
    rw [Array.append_empty]
  | c :: l, acc => by
    rw [List.map_cons, List.foldl_cons, pieces_sw l]
    apply Array.toList_inj.mp
    simp
def SwAt (x : List Nat) (s : Shared) (rest : List Nat) (st : List Str × Nat × Bool × List (Nat × Option Nat) × Bool) (s' : Shared) : Prop :=
  ∃ (past : List Nat) (pieces : List Str) (known : List (Nat × Option Nat)) (h' : Heap) (k : Nat), x = past ++ rest ∧ st = (pieces, past.length, true, known, false) ∧ pieces.reverse = past.map (fun c => (⟨#[swp c]⟩ : Str)) ∧
    (∀ c a, List.lookup c known = some a → a = some (swp c)) ∧ s' = { s with heap := h', toks := k } ∧ ∀ b o, s.heap.get? b = some o → h'.get? b = some o
theorem SwAt.next {x : List Nat} {s : Shared} {rest past : List Nat} {c : Nat} {pieces : List Str} {known : List (Nat × Option Nat)} {h' : Heap} {k : Nat} (h1 : x = past ++ c :: rest)
    (h3 : pieces.reverse = past.map (fun c => (⟨#[swp c]⟩ : Str))) (h4 : ∀ c a, List.lookup c known = some a → a = some (swp c)) (h6 : ∀ b o, s.heap.get? b = some o → h'.get? b = some o) :
    SwAt x s rest (⟨#[swp c]⟩ :: pieces, past.length + 1, true, known, false) { s with heap := h', toks := k } := by
  refine ⟨past ++ [c], ⟨#[swp c]⟩ :: pieces, known, h', k, ?_, ?_, ?_, h4, rfl, h6⟩
  · rw [h1, List.append_assoc] <;> rfl
  · rw [List.length_append] <;> rfl
  · rw [List.reverse_cons, h3, List.map_append] <;> rfl
theorem swp_lt (c : Nat) : decide (swp c < 128) = true := by
  unfold swp
  split <;> rfl
theorem meets_swap {prog : Program} {w : World} (x : List Nat) (t : Tok) (d : Addr) (hx : ∀ c ∈ x, c = 76 ∨ c = 82) (hz : x.length ≤ 16000000) : MeetsIn prog w («str.translate» ⟨[.str (SX.S x) t, .ref d], []⟩) (fun A R s =>
    (∃ f, s.heap.MapOf (mixKind prog w) d f ∧ SwT f) ∧ ∀ (v : Value) (h' : Heap) (k : Nat), (∀ b o, s.heap.get? b = some o → h'.get? b = some o) → (∃ t', v = .str (SX.S (x.map swp)) t') → R (.ok (.ret v)) { s with heap := h', toks := k }) := by
  refine .of_wp fun A R s h => ?_
  obtain ⟨⟨f, hm, hk⟩, h⟩ := h
  show wpAny _ _ (if ((SX.S x).length == 0) = true then (do rule "str.translate.empty"; ret (.str (SX.S x) t)) else (do
    let st ← forIn (SX.S x).cps (([], 0, (SX.S x).cps.all fun y => decide (y < 128), [], false) : List Str × Nat × Bool × List (Nat × Option Nat) × Bool) _
    _)) _ _ s
  by_cases h0 : ((SX.S x).length == 0) = true
  · rw [if_pos h0]
    have hx : x = [] := by
      rw [beq_iff_eq, SX.S_len] at h0
      exact List.eq_nil_of_length_eq_zero h0
    subst hx
    exact wpAny_bind (wpAny_rule (wpAny_pure ⟨_, rfl, h _ s.heap s.toks (fun _ _ e => e) ⟨t, rfl⟩⟩))
  · rw [if_neg h0]
    have ha : ((SX.S x).cps.all fun y => decide (y < 128)) = true := by
      rw [← Array.all_toList]
      refine List.all_eq_true.mpr fun c hc => ?_
      have hc' : c ∈ x := by simpa using hc
      rcases hx c hc' with rfl | rfl <;> rfl
    rw [ha]
    refine wpAny_bind (MeetsSeq2.wpAny_forIn_array _ (SwAt x s) _ (fun c rest st s' hI => ?turn) (fun st s' hI => ?fin) (SX.S x).cps ([], 0, true, [], false) ?h0)
    case h0 =>
      refine ⟨[], [], [], s.heap, s.toks, ?_, rfl, rfl, fun c a z => ?_, rfl, fun _ _ e => e⟩
      · show x = [] ++ x.toArray.toList
        rw [List.toList_toArray, List.nil_append]
      · rw [List.lookup_nil] at z
        cases z
    case turn =>
      obtain ⟨past, pieces, known, h', k, e1, e2, e3, e4, e5, e6⟩ := hI
      subst e2
      subst e5
      have hcx : c = 76 ∨ c = 82 := hx c (by rw [e1]; simp)
      have hpl : past.length ≤ 16000000 := by
        have q := congrArg List.length e1
        rw [List.length_append] at q
        omega
      have hm' : ({ s with heap := h', toks := k } : Shared).heap.MapOf (mixKind prog w) d f := mapOf_mix hm e6
      show wpAny _ _ (if tooLong past.length = true then _ else (if true = true then _ else _)) _ _ _
      rw [show tooLong past.length = false from PyProof.Rows.short24 (by omega), if_neg Bool.false_ne_true, if_pos rfl]
      cases hl : List.lookup c known with
      | some a =>
        have ha := e4 c a hl
        subst ha
        refine wpAny_bind (wpAny_pure ?_)
        exact wpAny_pure (SwAt.next e1 e3 e4 e6)
      | none =>
        refine wpAny_bind (wpAny_sw hcx hm' hk fun h2 k2 k3 => ?_)
        have hl2 : ((⟨#[swp c]⟩ : Str).length == 1 && (⟨#[swp c]⟩ : Str).cps.all fun y => decide (y < 128)) = true := by
          simp only [Str.length]
          have := swp_lt c
          simp at this ⊢
          exact this
        have new : ∀ c' a, List.lookup c' ((c, some (swp c)) :: known) = some a → a = some (swp c') := fun c' a z => by
          rcases lookup_new z with ⟨q1, q2⟩ | q
          · rw [q2, q1]
          · exact e4 c' a q
        have hg : (⟨#[swp c]⟩ : Str).cps[0]? = some (swp c) := rfl
        simp only [hl2, if_true, hg]
        refine wpAny_bind (wpAny_pure ?_)
        refine wpAny_pure ?_
        exact SwAt.next (k := k2) (known := (c, some (swp c)) :: known) e1 e3 new (fun b o z => k3 b o (e6 b o z))
    case fin =>
      obtain ⟨past, pieces, known, h', k, e1, e2, e3, e4, e5, e6⟩ := hI
      subst e2
      subst e5
      have ex : x = past := by rw [e1, List.append_nil]
      show wpAny _ _ (if tooLong past.length = true then _ else retStr { cps := List.foldl (fun acc (p : Str) => acc ++ p.cps) #[] pieces.reverse }) _ _ _
      rw [show tooLong past.length = false from PyProof.Rows.short24 (by rw [← ex]; omega), if_neg Bool.false_ne_true, e3, pieces_sw, ← ex]
      have ev : (⟨#[] ++ (x.map swp).toArray⟩ : Str) = SX.S (x.map swp) := by
        rw [Array.empty_append] <;> rfl
      rw [ev]
      exact wpAny_bind (wpAny_mkStr (wpAny_pure ⟨_, rfl, h _ h' _ e6 ⟨_, rfl⟩⟩) (by rw [SX.S_len, List.length_map, sizeLine_eq]; omega))
end PySem
namespace L2
open PySem PySem.Spec PyProof.Rows
section
variable {X : Cx}
/-- ways.translate(a table of L and R) -/
def rSwap : V → List V → Hp → VK → Prop := fun x xs H Q => ∃ (t : List Nat) (d : Addr) (kvs : List (Key × V)), x = .str (SX.S t) ∧ xs = [.ref d] ∧ Rd H d (.dK kvs) ∧ valV kvs (.inl 76) = some (.str ⟨#[82]⟩) ∧ valV kvs (.inl 82) = some (.str ⟨#[76]⟩) ∧ (∀ c ∈ t, c = 76 ∨ c = 82) ∧ t.length ≤ 16000000 ∧ Q (.str (SX.S (t.map swp))) H
theorem mt_swap : MtR X "str.translate" rSwap := by
  intro pins s σ H x xs v us Q I rx rs h
  obtain ⟨a, d, kvs, rfl, rfl, hd, v1, v2, hx, hz, h⟩ := h
  obtain ⟨t, rfl⟩ := rx
  cases rs with
  | cons r1 rs =>
    cases rs
    cases r1
    obtain ⟨z, lo, vs, rel, dd⟩ := dk_rd I.hok hd
    obtain ⟨w1, hw1, rw1⟩ := RelO.some_of (v := .str ⟨#[82]⟩) (o := valueAt vs (.inl 76)) (by rw [← v1]; exact rel.val (.inl 76))
    obtain ⟨w2, hw2, rw2⟩ := RelO.some_of (v := .str ⟨#[76]⟩) (o := valueAt vs (.inl 82)) (by rw [← v2]; exact rel.val (.inl 82))
    obtain ⟨t1, rfl⟩ := rw1
    obtain ⟨t2, rfl⟩ := rw2
    refine call_meetsIn F.slot_str_translate (typeIs_str _ _ _) F.entry_str_translate (F.args_str_translate_2 _ _) (meets_swap a t d hx hz) ⟨⟨_, dd.mapOf, ⟨t1, hw1⟩, t2, hw2⟩, ?_⟩
    intro v h' k hk ⟨t', e⟩
    subst e
    exact ⟨.str _, H, I.kept (t' := k) hk, ⟨t', rfl⟩, h⟩
end
end L2
/-! ways.translate({ord('L'): 'R', ord('R'): 'L'}) -/
namespace M7
open PySem PySem.Spec PyProof.Rows L2
section
variable {w : WD} {W : WX} {π : Nat → V} {B B' B1 Z : Hp} {g : G} {σ : L2.St} {H H' : Hp} {v : V}
def allLR (z : Str) : Bool := z.cps.toList.all fun c => decide (c = 76) || decide (c = 82)
def dSwap : D → D → Option (Bool × D)
  | .str z, .dct kvs => match valD kvs (.inl 76), valD kvs (.inl 82) with
    | some (.str a), some (.str b) => if a = ⟨#[82]⟩ ∧ b = ⟨#[76]⟩ ∧ allLR z = true ∧ z.length ≤ 16000000 then some (false, .str (SX.S (z.cps.toList.map swp))) else none
    | _, _ => none
  | _, _ => none
theorem od_swap : OpD w (fun x y H Q => rSwap x [y] H Q) dSwap := fun π B Z g σ H Q v u d e s h1 h2 q => by
  cases d <;> first | exact q.elim | skip
  cases e <;> first | exact q.elim | skip
  rename_i z kvs
  unfold dSwap at q
  simp only at q
  split at q
  · rename_i a b e1 e2
    split at q
    · rename_i hc
      obtain ⟨rfl, rfl, hz, hl⟩ := hc
      obtain ⟨p, ks, vs, ds, rfl, ha, hln, hx, rfl⟩ := lk_dct s.sub h2
      obtain ⟨x1, hx1, hx2⟩ := (zip_val hln hx).2 _ e1
      obtain ⟨y1, hy1, hy2⟩ := (zip_val hln hx).2 _ e2
      cases hx2
      cases hy2
      refine ⟨z.cps.toList, p, ks.zip vs, by rw [lk_str h1, SX.S_tl], rfl, ha, hx1, hy1, fun c hc => ?_, ?_, fin_d s q (.str _)⟩
      · have := List.all_eq_true.mp hz c hc
        simpa using this
      · simpa [Str.length] using hl
    · exact q.elim
  · exact q.elim
end
section
variable {w : WD} {W : WX} {ι : Type} {XS : ι → Cx} {e o : Expr} {sa sb : SB} {sA : SA} {apos pos p p2 pos2 : Pos}
theorem de_swap (ha : DB XS w W o sa) (hb : DB XS w W e sb) (hs : ∀ i, starEach [e] (XS i).env = [(false, eval e (XS i).env)] := by intro _; rfl) (hbase : ∀ i, attributeBase o "translate" (XS i).env (eval o (XS i).env) = eval o (XS i).env := by intro _; rfl) (hline : (apos.endLine == pos.line) = true := by rfl) :
    DE XS w W (.Call (.Attribute o "translate" apos) [e] [] pos) (seM1 dSwap sa sb) := by
  obtain ⟨t, h1, h2⟩ := ha
  obtain ⟨u, k1, k2⟩ := hb
  refine ⟨_, fun i => ?_, re_m1 (r := rSwap) od_swap h2 k2⟩
  exact pe_m1 (apos := apos) (pos := pos) F.slot_str_translate F.type_str_translate mt_swap (h1 i) (k1 i) (hs i) (hbase i) hline
/-- a key that is written ord('x') -/
theorem pe_ord {X : Cx} {x : Str} {j} (hm : X.mg "ord" = none) (hx : x.length = 1) (hg : Gl X "ord") (he : starEach [(.Constant (.str x) j p2 : Expr)] X.env = (false, eval (.Constant (.str x) j p2) X.env) :: starEach [] X.env) (hpl : (backTo pos2 (starEach [] X.env)).any (·.1) = false) : PE X (.Call (.Name "ord" p) [.Constant (.str x) j p2] [] pos2) (tC (kV (.inl (x.cps.getD 0 0 : Nat)))) := by
  have h := pe_callB (x := "ord") (p := p) (pos := pos2) (id := "ord") call_ord hg hm (by decide +kernel) (pa_cons pe_str pa_nil) (by decide) (by decide) he hpl
  refine ⟨fun pins s σ H Q I q => h.run pins s σ H Q I ?_⟩
  exact ⟨x, rfl, hx, q⟩
theorem dp_ord {x : Str} {j} {keys : List (Option Expr)} {values : List Expr} {ks : List Key} (hm : ∀ i, (XS i).mg "ord" = none) (h : DB XS w WT e sb) (t : DP XS w pos keys values ks sA) (hx : x.length = 1 := by decide +kernel) (hg : ∀ i, Gl (XS i) "ord" := by intro _; rfl)
    (he : ∀ i, starEach [(.Constant (.str x) j p2 : Expr)] (XS i).env = (false, eval (.Constant (.str x) j p2) (XS i).env) :: starEach [] (XS i).env := by intro _; rfl) (hpl : ∀ i, (backTo pos2 (starEach [] (XS i).env)).any (·.1) = false := by intro _; rfl) :
    DP XS w pos (some (.Call (.Name "ord" p) [.Constant (.str x) j p2] [] pos2) :: keys) (e :: values) (.inl (x.cps.getD 0 0 : Nat) :: ks) (saCons sb sA) := by
  obtain ⟨u, h1, h2⟩ := h
  obtain ⟨trs, k1, k2⟩ := t
  exact ⟨_, fun i => pps_cons (pe_ord (hm i) hx (hg i) (he i) (hpl i)) (h1 i) (k1 i), rp_cons (k := .inl (x.cps.getD 0 0 : Nat)) h2 k2⟩
end
end M7
/-! Defs with a keyword, called by name. -/
namespace M7
open PySem PySem.Spec PyProof.Rows L2
section
variable {w : WD} {W : WX} {π : Nat → V} {B B' B1 Z : Hp} {g : G} {σ : L2.St} {H H' : Hp} {v : V}
def seCallK (φ : Fn) (gD : List Ref → List Ref → List Ref) (sa sk : SA) : SE := fun g => (sa g).bind fun rs g1 => (sk g1).bind fun rk g2 => callO φ (gD rs rk) g2
/-- how the keywords' values stand in the row of arguments -/
def RelK (w : WD) (gV : List V → List V → List V) (gD : List Ref → List Ref → List Ref) : Prop := ∀ (B : Hp) (σ : L2.St) (vs zs : List V) (rs rk : List Ref), RefsOk w B σ vs rs → RefsOk w B σ zs rk → RefsOk w B σ (gV vs zs) (gD rs rk)
def tCallKS (sp : Sp) (gV : List V → List V → List V) (E : L2.St → XK) (t tk : TA) : TE := fun σ H Q => t σ H fun vs H1 => tk σ H1 fun zs H2 => sp (gV vs zs) H2 Q (E σ)
theorem re_callK {φ : Fn} {E : L2.St → XK} {ta tk : TA} {sa sk : SA} {gV : List V → List V → List V} {gD : List Ref → List Ref → List Ref} (hE : ∀ σ cls d H', W cls d σ H' → E σ cls d H') (hr : RelK w gV gD) (h : RA w W ta sa) (hk : RA w W tk sk) : RE w W (tCallKS (spD w φ) gV E ta tk) (seCallK φ gD sa sk) := fun π B Z g σ H Q s q =>
  h π B Z g σ H _ s (tailE.bA q fun rs g1 vs B1 H1 e1 s1 r1 q1 => hk π B1 Z g1 σ H1 _ s1 (tailE.bA q1 fun rk g2 zs B2 H2 e2 s2 r2 q2 => call_D s2 (hr _ _ _ _ _ _ (r1.mono e2) r2) (hE σ) q2))
theorem RefsOk.app {vs zs : List V} {rs rk : List Ref} (h : RefsOk w B σ vs rs) (k : RefsOk w B σ zs rk) : RefsOk w B σ (vs ++ zs) (rs ++ rk) := by
  induction h with
  | nil => exact k
  | cons a _ ih => exact .cons a ih
theorem relK_app : RelK w (fun vs zs => vs ++ zs) (fun rs rk => rs ++ rk) := fun _ _ _ _ _ _ h k => h.app k
/-- the default: data that stands in the fixed part -/
theorem relK_dfl {u : V} {d : D} (hd : ∀ B, Den w B u d) : RelK w (fun vs _ => vs ++ [u]) (fun rs _ => rs ++ [.dt d]) := fun B σ _ _ _ _ h _ => h.app (.cons (hd B) .nil)
theorem pe_callKM {X : Cx} {gb : Bool} {CX : CXT} {k : Nat} {f : Addr} {fd : FuncData} {ps ks : List Str} {sp : Sp} {E : L2.St → XK} {t tk : TA} {x : Str} {e : Expr} {es : List Expr} {kws : List Keyword} {p pos : Pos} {gg : List Value → List Value → List Value} {gV : List V → List V → List V} (F : FnX gb X.prog X.w X.K X.mg X.base CX k f fd ps sp) (hgd : Gd gb X.A) (hr : Room k X.A) (hg : Gl X x) (hm : X.mg x = some (.ref f)) (hk : PySem.W.keepIn X.K (.ref f) = true) (hb : KBinds X.K fd ps ks gg gV)
    (hx : ∀ σ, PassesAt CX X σ (E σ)) (ha : PA X (e :: es) t) (hkw : PK X kws tk) (hall : (backToKw pos (keywordEach kws X.env)).all (·.1.isSome) = true) (hks : (backToKw pos (keywordEach kws X.env)).filterMap (·.1) = ks)
    (hdb : (x == ("__debug__" : Str)) = false) (he : starEach (e :: es) X.env = (false, eval e X.env) :: starEach es X.env)
    (hpl : ((backTo pos (starEach (e :: es) X.env)).any (·.1) || (backToKw pos (keywordEach kws X.env)).any (·.1.isNone)) = false) : PE X (.Call (.Name x p) (e :: es) kws pos) (tCallKS sp gV E t tk) := by
  refine ⟨fun pins s σ H Q I h => ?_⟩
  refine wpAny_Call_Name_kw (ld_glob I hg hm ?_ hdb)
  refine PySem.W.callWith_KW (h₀ := X.base) I.ok.mod.kin hk hall (thn (ha.run pos pins s σ H _ I h) fun us s1 ⟨vs, H1, I1, r, q⟩ => ?_) hpl he
  refine thn (hkw.run pos pins s1 σ H1 _ I1 q) fun ws s2 ⟨zs, H2, I2, rz, q2⟩ => ⟨I2.kIn, ?_⟩
  rw [hks]
  have r2 := hb.rel r rz
  have hl : (gg us ws).length = ps.length := by rw [← r2.length]; exact F.len _ _ _ _ q2
  refine wpAny_call (codeAny_mono (F.go X.A X.stack s2 H2 ⟨us, ks.zip ws⟩ (gg us ws) (gV vs zs) Q (E σ) hgd hr I2.env0 (hb.to s2 us ws I2.kIn hl) r2 q2) fun res s3 hq => ?_)
  cases res with
  | error e => exact hx σ pins H2 s2 e s3 I2 hq
  | ok fl =>
    cases fl with
    | ret u => exact I2.after hq
    | next => exact hq.elim
    | brk => exact hq.elim
    | cont => exact hq.elim
end
section
variable {P : Program} {wl : World} {mg : Str → Option Value} {base : Heap} {w : WD} {W : WX} {ι : Type} {XS : ι → Cx} {gb gb' b : Bool} {n k : Nat} {x : Str} {e : Expr} {es : List Expr} {kws : List Keyword} {p pos : Pos} {args sk : SA}
/-- a def that is called with the keywords ks -/
def CalK (P : Program) (wl : World) (mg : Str → Option Value) (base : Heap) (w : WD) (gb b : Bool) (k : Nat) (x : Str) (ks : List Str) (gD : List Ref → List Ref → List Ref) (φ : Fn) : Prop :=
  ∃ f fd ps gg gV, FnX gb P wl w.K mg base (CXb b P wl) k f fd ps (spD w φ) ∧ KBinds w.K fd ps ks gg gV ∧ RelK w gV gD ∧ PySem.W.keepIn w.K (.ref f) = true ∧ mg x = some (.ref f)
theorem de_callK {φ : Fn} {ks : List Str} {gD : List Ref → List Ref → List Ref} (F : Fam P wl mg base w gb n XS) (tk : Tk b XS W) (c : CalK P wl mg base w gb' b k x ks gD φ) (ha : DA XS w W (e :: es) args) (hkw : DK XS w W kws sk) (hgb : gb' = true → gb = true := by decide) (hk : k ≤ n := by decide) (hg : ∀ i, Gl (XS i) x := by intro _; rfl)
    (hall : ∀ i, (backToKw pos (keywordEach kws (XS i).env)).all (·.1.isSome) = true := by intro _; rfl) (hks : ∀ i, (backToKw pos (keywordEach kws (XS i).env)).filterMap (·.1) = ks := by intro _; rfl)
    (hdb : (x == ("__debug__" : Str)) = false := by decide) (he : ∀ i, starEach (e :: es) (XS i).env = (false, eval e (XS i).env) :: starEach es (XS i).env := by intro _; rfl)
    (hpl : ∀ i, ((backTo pos (starEach (e :: es) (XS i).env)).any (·.1) || (backToKw pos (keywordEach kws (XS i).env)).any (·.1.isNone)) = false := by intro _; rfl) : DE XS w W (.Call (.Name x p) (e :: es) kws pos) (seCallK φ gD args sk) := by
  obtain ⟨t, h1, h2⟩ := ha
  obtain ⟨u, k1, k2⟩ := hkw
  obtain ⟨f, fd, ps, gg, gV, c1, c2, c3, c4, c5⟩ := c
  refine ⟨_, fun i => ?_, re_callK (E := WEb b W) WEb.of c3 h2 k2⟩
  have t1 := tk.at i
  rw [F.prog i, F.wl i] at t1
  exact pe_callKM (CX := CXb b P wl) (by rw [F.prog i, F.wl i, F.K i, F.mg i, F.base i]; exact c1) (fun z => F.gd i (hgb z)) ((F.room i).mono hk) (hg i) (by rw [F.mg i]; exact c5) (by rw [F.K i]; exact c4) (by rw [F.K i]; exact c2) t1 (h1 i) (k1 i) (hall i) (hks i) hdb (he i) (hpl i)
/-- def_D without the way of binding -/
theorem defX_D {ss : SS} {gb bx : Bool} {y qual : Str} {s : Stmt} {f : Addr} {fd : FuncData} {N ps : List Str} {k : Nat} {kws : List (Str × V)} (Fd : FunD w.K y qual (defArgs s) (defBody s) (defScope s) [] kws f fd) (S : FnScope N ps (defScope s))
    (hb : ∀ (cdv : Value) (A : Around) (outer : List Env) (sh : Shared) (H : Hp) (E : XK), Gd gb A → Room k (A.deeper (envOfC qual (defScope s) sh.heap.objs.size f cdv)) →
      DSs (fun _ : Unit => cxOf (CXb bx P wl) P wl w.K mg base N qual (defScope s) f cdv A outer sh H E) w (fun cls d _ H => E cls d H) (defBody s) ss) : FnX gb P wl w.K mg base (CXb bx P wl) (k + 1) f fd ps (spD w (bodyFn ps.length N.length ss)) := by
  obtain ⟨oc, od, dV, kV, doc, pm, an, cdv, ct, osl, rfl, lk, hcd, hD, hK⟩ := Fd.ex
  rcases hD with ⟨_, rfl⟩ | ⟨e, _⟩
  rotate_left
  · exact absurd rfl e
  refine ⟨fun vs H Q E h => spD_len h, fun A outer s H args us vs Q E hg hr e0 hbd r h => ?_⟩
  refine LamX.run_ofS lk hcd S hr e0 hbd r (spD_len h) fun hr' => ?_
  obtain ⟨t, h1, h2⟩ := hb cdv A outer s H E hg hr'
  exact ⟨t, h1 (), body_D h h2 fun _ _ _ _ z => z⟩
end
end M7
/-! One keyword, given or not. -/
namespace M7
open PySem PySem.Spec PyProof.Rows L2
def kwD (rs rk : List Ref) : List Ref := if rk.length = 1 then rs ++ rk else []
def dflD (rs _rk : List Ref) : List Ref := rs ++ [.dt (.tup [])]
def kwV {α : Type} (vs zs : List α) : List α := if zs.length = 1 then vs ++ zs else []
theorem RefsOk.length {w : WD} {B : Hp} {σ : L2.St} {vs : List V} {rs : List Ref} (h : RefsOk w B σ vs rs) : vs.length = rs.length := by
  induction h with
  | nil => rfl
  | cons _ _ ih => rw [List.length_cons, List.length_cons, ih]
theorem relK_kw {w : WD} : RelK w kwV kwD := fun B σ vs zs rs rk h k => by
  unfold kwV kwD
  rw [k.length]
  split
  · exact h.app k
  · exact .nil
theorem kwV_vals {vs zs : List V} {us ws : List Value} (r : Vals vs us) (t : Vals zs ws) : Vals (kwV vs zs) (kwV us ws) := by
  unfold kwV
  rw [t.length]
  split
  · exact r.append t
  · exact .nil
end M7
/-! list.count of a text. -/
namespace M7
open PySem PySem.Spec PyProof.Rows L2
def rLCnt (K : PySem.W.Frag) : V → List V → Hp → VK → Prop := fun x xs H Q => ∃ (p : Addr) (ys : List Str) (k : Str), x = .ref p ∧ xs = [.str k] ∧ SqL K H p (ys.map V.str) ∧ Q (.int (countIn (.str k) (ys.map PyData.str))) H
theorem mt_lcountS {X : Cx} : MtR X "list.count" (rLCnt X.K) := by
  intro pins s σ H x xs v us Q I rx rxs h
  obtain ⟨p, ys, k, rfl, rfl, hs, q⟩ := h
  cases rx
  obtain ⟨u, rfl, ru⟩ := rxs.one
  obtain ⟨t, rfl⟩ := ru
  obtain ⟨its, rv, hl, _⟩ := I.list hs
  exact count_list_strs hl.isList rv.strs ⟨.int _, H, I.tok _, ⟨_, rfl⟩, q⟩
section
variable {w : WD} {W : WX} {ι : Type} {XS : ι → Cx} {e o : Expr} {sa sb : SB} {apos pos : Pos}
def dLCount : D → D → Option (Bool × D)
  | .lst ds, .str k => (strsD ds).map fun ys => (false, .int (countIn (.str k) (ys.map PyData.str)))
  | _, _ => none
theorem od_lcount : OpD w (fun x y H Q => rLCnt w.K x [y] H Q) dLCount := fun π B Z g σ H Q v u d e s h1 h2 q => by
  cases d <;> first | exact q.elim | skip
  cases e <;> first | exact q.elim | skip
  rename_i ds k
  have q : PostF w π B Z g σ Q ((strsD ds).map fun ys => (false, .int (countIn (.str k) (ys.map PyData.str)))) := q
  cases hs : strsD ds with
  | none => rw [hs] at q; exact q.elim
  | some ys =>
    rw [hs] at q
    obtain ⟨a, xs, rfl, ha, hx⟩ := lk_lst s.sub h1
    rw [dens_strs hx hs] at ha
    exact ⟨a, ys, k, rfl, by rw [lk_str h2], .inl (.inl ha), fin_d s q (.int _)⟩
def seLM (f : D → D → Option (Bool × D)) (sa sb : SB) : SE := fun g => (sa g).bind fun r1 g1 => match r1.get g1 with
  | some (.lst _) => (sb g1).bind fun r2 g2 => match r1.get g2, r2.get g2 with
    | some d, some e => ofOpt g2 (f d e)
    | _, _ => .fail
  | _ => .fail
theorem re_lm {r : V → List V → Hp → VK → Prop} {f : D → D → Option (Bool × D)} {ta tb : TE} {sa sb : SB} (hf : OpD w (fun x y H Q => r x [y] H Q) f) (ha : RB w W ta sa) (hb : RB w W tb sb) : RE w W (tBM w.K "list" r ta (tCons tb tNil)) (seLM f sa sb) := fun π B Z g σ H Q s q =>
  ha π B Z g σ H _ s (tailE.bB q fun a g1 v B1 H1 e1 s1 r1 q1 => by
    split at q1
    · rename_i ds hx
      obtain ⟨p, xs, rfl, hp, _⟩ := lk_lst s1.sub (s1.lk r1 hx)
      refine ⟨?_, hb π B1 Z g1 σ H1 _ s1 (tailE.bB q1 fun b g2 u B2 H2 e2 s2 r2 q2 => ?_)⟩
      · exact .inl ⟨rfl, xs, .inl (.inl hp)⟩
      · split at q2
        · rename_i d e h1 h2
          refine hf π B2 Z g2 σ H2 Q _ u d e s2 (s2.lk (r1.mono e2) h1) (s2.lk r2 h2) ?_
          cases hq : f d e with
          | none => rw [hq] at q2; exact q2.elim
          | some r => rw [hq] at q2; exact q2
        · exact q2.elim
    · exact q1.elim)
theorem de_lcount (ha : DB XS w W o sa) (hb : DB XS w W e sb) (hK : ∀ i, (XS i).K = w.K := by intro _; rfl) (hbase : ∀ i, attributeBase o "count" (XS i).env (eval o (XS i).env) = eval o (XS i).env := by intro _; rfl)
    (hfew : ∀ i, ((backTo pos (starEach [e] (XS i).env)).all (fun x => !x.1) && (backToKw pos (keywordEach [] (XS i).env)).all (fun x => x.1.isSome)
      && decide (([e] : List Expr).length + ([] : List Keyword).length + (if ([] : List Keyword).isEmpty then 0 else 1) < 30)) = true := by intro _; rfl)
    (hline : (apos.endLine == pos.line) = true := by rfl) (hs : ∀ i, starEach [e] (XS i).env = (false, eval e (XS i).env) :: starEach [] (XS i).env := by intro _; rfl) (hpl : ∀ i, (backTo pos (starEach [] (XS i).env)).any (·.1) = false := by intro _; rfl) :
    DE XS w W (.Call (.Attribute o "count" apos) [e] [] pos) (seLM dLCount sa sb) := by
  obtain ⟨t, h1, h2⟩ := ha
  obtain ⟨u, k1, k2⟩ := hb
  refine ⟨_, fun i => ?_, re_lm (r := rLCnt w.K) od_lcount h2 k2⟩
  have z := pe_bm (apos := apos) (cpos := pos) PySem.F.plainAttrs_list PySem.F.slot_list_count PySem.F.type_list_count mt_lcountS (h1 i) (pa_cons (k1 i) pa_nil (hs i)) (hbase i) (hfew i) hline (hs i) (hpl i)
  rw [hK i] at z
  exact z
end
end M7
set_option maxHeartbeats 4000000
/-! tuple * int for 0 times and less. -/
namespace L2
open PySem PySem.Spec PyProof.Rows
theorem tuple_mul0 (l : Addr) (items : Array Value) (n : Nat) (dd : Option Addr) (sl : Array (Option Value)) (x : Int) (u : Tok) (c0 : (decide (x < -(2 ^ 63)) || decide (x ≥ 2 ^ 63)) = false) (c1 : (items.isEmpty || x == 1) = false) (c2 : (decide (x ≤ 0) || items.isEmpty) = true) :
    Meets (Builtin.«tuple.__mul__» ⟨[.ref l, .int x u], []⟩) (fun _ R s => s.heap.get? l = some { cls := .type "tuple", dict := dd, data := .seq items n, slots := sl } ∧
      R (.ok (.ret (Value.ref s.heap.objs.size))) { s with heap := s.heap.push { cls := Value.type "tuple", data := Data.seq #[] }, toks := s.toks }) :=
  .of_wp fun prog w A R s h => by
    obtain ⟨hp, g, d, tk, os⟩ := s
    obtain ⟨hl, h⟩ := h
    have f1 := AutoSeq1.idx_int
    wp_walk using wpAny_loadPart' hl
    repeat (first
      | (refine wpAny_ite_false (decide_eq_false (by rw [c0]; exact Bool.false_ne_true)) ?_; wp_walk using wpAny_loadPart' hl)
      | (refine wpAny_ite_false (decide_eq_false (by rw [c1]; exact Bool.false_ne_true)) ?_; wp_walk using wpAny_loadPart' hl)
      | (refine wpAny_ite_true (decide_eq_true c2) ?_; wp_walk using wpAny_loadPart' hl))
    exact ⟨_, rfl, h⟩
def rRep0 (K : PySem.W.Frag) : R2 := fun x y H Q => ∃ l k xs, x = .ref l ∧ y = .int k ∧ SqT K H l xs ∧ xs ≠ [] ∧ k ≤ 0 ∧ -1000 ≤ k ∧ ∀ p, H p = none → Q (.ref p) (upd H p (.tup []))
section
variable {X : Cx}
theorem op_rep0 : OpR X (binaryOp .Mult) (rRep0 X.K) := by
  intro pins s σ H x y v u Q I rx ry h
  obtain ⟨l, k, xs, rfl, rfl, hT, hne, h1, h2, q⟩ := h
  cases rx
  obtain ⟨t, rfl⟩ := ry
  obtain ⟨its, r, ⟨⟨cls, dd, data, sl⟩, ho, hc, n, hd⟩, hs⟩ := I.tuple hT
  simp only at hc hd
  subst hc hd
  have hle : its.length = xs.length := r.length.symm
  have hn : its ≠ [] := fun e => hne (by
    rw [e] at hle
    exact List.eq_nil_of_length_eq_zero hle.symm)
  have hi : its.toArray.isEmpty = false := by
    cases its with
    | nil => exact absurd rfl hn
    | cons a b => rfl
  have c0 : (decide (k < -(2 ^ 63)) || decide (k ≥ 2 ^ 63)) = false := by
    rw [decide_eq_false (by omega), decide_eq_false (by omega)] <;> rfl
  have c1 : (its.toArray.isEmpty || k == 1) = false := by
    rw [hi, Bool.false_or]
    exact beq_eq_false_iff_ne.mpr (by omega)
  have c2 : (decide (k ≤ 0) || its.toArray.isEmpty) = true := by
    rw [decide_eq_true h1] <;> rfl
  refine wpAny_binaryOp_repeat_ref (T := "tuple") (U := "int") (by decide) ⟨_, ho, rfl⟩ (fun s' => typeIs_int s' k t) noFill_tuple_mul F.fills_int_mul F.slot_int_rmul repeat_tuple F.slot_int_index.lookup
    (call_meets F.slot_int_rmul (typeIs_int s k t) F.entry_int_rmul (F.args_int_rmul_2 _ _) (int_rmul_tuple k t l its.toArray n dd sl)
      ⟨ho, rfl, ⟨_, ho, rfl⟩, call_meets F.slot_tuple_mul ⟨_, ho, rfl⟩ F.entry_tuple_mul (F.args_tuple_mul_2 _ _) (tuple_mul0 l its.toArray n dd sl k t c0 c1 c2) ⟨ho, ?_⟩⟩)
  refine ⟨.ref s.heap.objs.size, _, I.laid (t' := s.toks) (o := .tup []) (fun b ob q => Heap.get?_push_of_some _ q) (Nat.le_refl _) ?_, rfl, q _ (I.hok.fresh (Nat.le_refl _))⟩
  exact ⟨by show 0 ≤ sizeLine; decide, [], .nil, IsTup.new _ _⟩
end
end L2
/-! * of ints; a tuple, many times or none. -/
namespace M7
open PySem PySem.Spec PyProof.Rows L2
section
variable {w : WD} {W : WX} {π : Nat → V} {B B' B1 Z : Hp} {g : G} {σ : L2.St} {H H' : Hp} {v : V}
def dMulT : D → D → Option (Bool × D)
  | .tup ds, .int k => if ds ≠ [] ∧ 2 ≤ k ∧ k ≤ 1000 ∧ ds.length ≤ 1000 then some (false, .tup (List.replicate k.toNat ds).flatten) else if ds ≠ [] ∧ k ≤ 0 ∧ -1000 ≤ k then some (false, .tup []) else none
  | d, e => dMulI d e
def rMulT (K : PySem.W.Frag) : R2 := fun x y H Q => (rI CMul fun i j => .int (i * j)) x y H Q ∨ (fun x y H Q => rRepT K x y H Q ∨ rRep0 K x y H Q) x y H Q
theorem op_mulT {X : Cx} : OpR X (binaryOp .Mult) (rMulT X.K) := OpR.or op_mul (OpR.or op_repT op_rep0)
theorem od_mulT : OpD w (rMulT w.K) dMulT := fun π B Z g σ H Q v u d e s h1 h2 q => by
  cases d with
  | tup ds =>
    cases e with
    | int k =>
      unfold dMulT at q
      simp only at q
      obtain ⟨a, xs, rfl, ha, hx⟩ := lk_tup s.sub h1
      split at q
      · rename_i hc
        exact .inr (.inl ⟨a, k, xs, rfl, lk_int h2, ha, fun z => hc.1 (by subst z; cases hx; rfl), hc.2.1, hc.2.2.1, by rw [hx.len]; exact hc.2.2.2, fun p hp => fin_T s q (dens_repL hx _) hp⟩)
      · split at q
        · rename_i hc
          exact .inr (.inr ⟨a, k, xs, rfl, lk_int h2, ha, fun z => hc.1 (by subst z; cases hx; rfl), hc.2.1, hc.2.2, fun p hp => fin_T s q .nil hp⟩)
        · exact q.elim
    | _ => exact q.elim
  | _ => exact .inl (od_mulI π B Z g σ H Q v u _ e s h1 h2 (by cases e <;> exact q))
end
end M7
/-! t[::-1] of a tuple. -/
namespace L2
open PySem PySem.Spec PyProof.Rows
section
variable {prog : Program} {w : World} {A : Around} {E : Value → Shared → Prop} {s : Shared}
theorem sliceApplied_rev {sl : Addr} {vl vu vs : Value} {n : Nat} {Q : Int × Int × Nat → Shared → Prop} (hs : s.heap.IsSliceOf sl vl vu vs) (pl : IsPart vl none) (pu : IsPart vu none) (ps : IsPart vs (some (-1)))
    (h : Q ((n : Int) - 1, -1, n) s) : wpAny (model prog w) A (Builtin.Slice.sliceApplied (.ref sl) (pure (n : Int))) Q E s := by
  obtain ⟨os, hos, hcs, hds⟩ := id hs
  unfold Builtin.Slice.sliceApplied Builtin.Slice.sliceFields
  refine wpAny_bind (wpAny_bind (wpAny_field hos hds (x := vl) rfl (wpAny_bind (wpAny_field hos hds (x := vu) rfl (wpAny_bind (wpAny_field hos hds (x := vs) rfl (wpAny_pure ?_)))))))
  refine wpAny_bind (HT.slicePart_ ps ?_)
  show wpAny _ _ (if ((-1 : Int) == 0) = true then _ else _) _ _ s
  rw [if_neg (by decide)]
  refine wpAny_bind (HT.slicePart_ pl (wpAny_bind (HT.slicePart_ pu (wpAny_bind (wpAny_pure ?_)))))
  show wpAny _ _ (match Builtin.Slice.sliceAdjust none none (-1) (n : Int) with | (lo, hi) => pure (lo, (-1 : Int), Builtin.Slice.slicePlaces lo hi (-1))) _ _ s
  have e1 : Builtin.Slice.sliceAdjust none none (-1) (n : Int) = ((n : Int) - 1, -1) := by
    first
    | rfl
    | simp [Builtin.Slice.sliceAdjust]
  have e2 : Builtin.Slice.slicePlaces ((n : Int) - 1) (-1) (-1) = n := by
    unfold Builtin.Slice.slicePlaces
    simp
    split <;> omega
  rw [e1]
  show wpAny _ _ (pure ((n : Int) - 1, (-1 : Int), Builtin.Slice.slicePlaces ((n : Int) - 1) (-1) (-1))) _ _ s
  rw [e2]
  exact wpAny_pure h
theorem fm_congr {f g : Nat → Option Value} : ∀ l : List Nat, (∀ m ∈ l, f m = g m) → l.filterMap f = l.filterMap g
  | [], _ => rfl
  | a :: l, h => by rw [List.filterMap_cons, List.filterMap_cons, h a (.head _), fm_congr l fun m q => h m (.tail _ q)]
theorem pick_rev (xs : Array Value) : ((List.range xs.size).filterMap fun (m : Nat) => xs[(((xs.size : Nat) : Int) - 1 + (m : Int) * (-1)).toNat]?).toArray = xs.toList.reverse.toArray := by
  have e : (List.range xs.size).filterMap (fun (m : Nat) => xs[(((xs.size : Nat) : Int) - 1 + (m : Int) * (-1)).toNat]?) = (((List.range xs.size).map fun k => xs.size - 1 - k).filterMap (xs[·]?)) := by
    rw [List.filterMap_map]
    refine fm_congr _ fun m hm => ?_
    have : (((xs.size : Nat) : Int) - 1 + (m : Int) * (-1)).toNat = xs.size - 1 - m := by
      have := List.mem_range.mp hm
      omega
    rw [this]
    rfl
  rw [e, PySem.W.krv_range, List.filterMap_reverse, PySem.W.krv_all]
theorem getItem_tuple_rev {t sl : Addr} {items : Array Value} {vl vu vs : Value} {Q : Value → Shared → Prop} (ht : IsTup s.heap t items) (hs : s.heap.IsSliceOf sl vl vu vs) (pl : IsPart vl none) (pu : IsPart vu none) (ps : IsPart vs (some (-1)))
    (h : Q (.ref s.heap.objs.size) { s with heap := s.heap.push { cls := .type "tuple", data := .seq items.toList.reverse.toArray } })
    (hsz : items.size ≤ sizeLine) : wpAny (model prog w) A (getItem (.ref t) (.ref sl)) Q E s := by
  have htake : sizeOk (.seq items.toList.reverse.toArray) := by
    show items.toList.reverse.toArray.size ≤ sizeLine
    rw [List.size_toArray, List.length_reverse, Array.length_toList]
    exact hsz
  obtain ⟨os, hos, hcs, hds⟩ := id hs
  have hTs : s.TypeIs (.ref sl) "slice" := ⟨os, hos, hcs⟩
  unfold getItem
  try with_reducible refine wpAny_holding ?_
  first | refine wpAny_bind (wpAny_pure ?_) | skip
  refine wpAny_bind (wpAny_sequenceKey ht.typeIs (by decide) ?_)
  refine wpAny_bind (wpAny_callSpecial?_slot (name := Str.ofString "__getitem__") ht.typeIs PyProof.Rows.slot_tuple_getitem
    (wpAny_call_entry PyProof.Rows.slot_tuple_getitem ht.typeIs entry_tuple_getitem ?_ (args_tuple_getitem _ _)))
  show wpAny _ _ (Builtin.Tuple.tupleItemsOf (.ref t) >>= _) _ _ s
  refine wpAny_bind (tupleItemsOf_ ht ?_)
  refine wpAny_bind (wpAny_typeOf hTs ?_)
  rw [if_pos (by decide)]
  refine wpAny_bind (sliceApplied_rev hs pl pu ps ?_)
  have hno : ¬ ((((items.size : Nat) : Int) - 1 == 0 && (-1 : Int) == 1 && items.size == items.size) = true) := by
    intro q
    rw [Bool.and_eq_true, Bool.and_eq_true] at q
    exact absurd q.1.2 (by decide)
  show wpAny _ _ (if (((items.size : Nat) : Int) - 1 == 0 && (-1 : Int) == 1 && items.size == items.size) = true then _ else _) _ _ s
  rw [if_neg hno, pick_rev]
  exact wpAny_bind (m := Builtin.Tuple.tupleExact _) (wpAny_newObj_type (wpAny_pure ⟨_, rfl, wpAny_pure h⟩) htake)
end
end L2
/-! x[::-1] of a list or a tuple. -/
namespace L2
open PySem PySem.Spec PyProof.Rows
section
variable {X : Cx}
def tRevU (K : PySem.W.Frag) (te : TE) : TE := fun σ H Q => te σ H fun x H1 => (∃ a xs, x = .ref a ∧ SqL K H1 a xs ∧ ∀ p, H1 p = none → Q (.ref p) (upd H1 p (.lst xs.reverse))) ∨ ∃ a xs, x = .ref a ∧ SqT K H1 a xs ∧ ∀ p, H1 p = none → Q (.ref p) (upd H1 p (.tup xs.reverse))
theorem pe_revU {e : Expr} {te : TE} {k : Nat} {p1 p2 p3 pos : Pos} (he : PE X e te) : PE X (.Subscript e (.Slice none none (some (.UnaryOp .USub (.Constant (.int 1) k p1) p2)) p3) pos) (tRevU X.K te) := by
  refine ⟨fun pins s σ H Q I h => ?_⟩
  refine Subscript_ (thn (he.run pins s σ H _ I h) fun v s1 ⟨x, H1, I1, r1, q1⟩ => ?_)
  obtain ⟨a, ex⟩ : ∃ a, x = .ref a := by
    rcases q1 with ⟨a, xs, ex, _⟩ | ⟨a, xs, ex, _⟩
    · exact ⟨a, ex⟩
    · exact ⟨a, ex⟩
  subst ex
  cases r1
  have hst : PO X (some (.UnaryOp .USub (.Constant (.int 1) k p1) p2)) (tPart (tUn (rU fun i => .int (-i)) (tC (.int 1)))) := po_some (pe_un un_neg pe_int)
  refine wpAny_Slice (thn (po_none.run pins s1 σ H1 (fun o H2 => o = none ∧ H2 = H1) I1 ⟨rfl, rfl⟩) fun vl s2 ⟨l, H2, I2, pl, el, e2⟩ => ?_)
  subst el e2
  refine thn (po_none.run pins s2 σ H2 (fun o H3 => o = none ∧ H3 = H2) I2 ⟨rfl, rfl⟩) fun vu s3 ⟨u, H3, I3, pu, eu, e3⟩ => ?_
  subst eu e3
  refine thn (hst.run pins s3 σ H3 (fun o H4 => o = some (-1) ∧ H4 = H3) I3 ⟨1, rfl, -1, rfl, rfl, rfl⟩) fun vs s4 ⟨o, H4, I4, ps, eo, e4⟩ => ?_
  subst eo e4
  have I5 : Inv X pins σ H4 { s4 with heap := s4.heap.push { cls := .type "slice", data := .fields #[vl, vu, vs] } } := I4.kept (t' := s4.toks) fun b ob q => Heap.get?_push_of_some _ q
  show wpAny (model X.prog X.w) X.A (subscriptTail e (.Slice none none (some (.UnaryOp .USub (.Constant (.int 1) k p1) p2)) p3) (.ref a) (.ref s4.heap.objs.size)) (EP X pins σ Q) X.xe { s4 with heap := s4.heap.push { cls := .type "slice", data := .fields #[vl, vu, vs] } }
  rcases q1 with ⟨a', xs, ex, hx, q⟩ | ⟨a', xs, ex, hx, q⟩
  · cases ex
    obtain ⟨its, r, ht, hz⟩ := I5.list hx
    have hlen := r.length
    refine tail_any (ops := [.ref a, .ref s4.heap.objs.size]) ht.isList.typeIs (PySem.slot_list_getitem.lookup) ?_ (by with_unfolding_all rfl)
    refine wpAny_getItem_list_slice ht.isList (Heap.IsSliceOf.new _ vl vu vs) pl pu ps (by decide) ?_ (by rw [List.size_toArray]; omega)
    rw [PySem.W.krv_pick]
    refine ⟨.ref _, _, I5.laid (t' := s4.toks) (o := .lst xs.reverse) (fun b ob q => Heap.get?_push_of_some _ q) (Nat.le_refl _) ?_, rfl, q _ (I5.hok.fresh (Nat.le_refl _))⟩
    exact ⟨by rw [List.length_reverse]; exact hz, _, 0, r.reverse, Heap.get?_push_size _ rfl⟩
  · cases ex
    obtain ⟨its, r, ht, hz⟩ := I5.tuple hx
    have hlen := r.length
    refine tail_any (ops := [.ref a, .ref s4.heap.objs.size]) ht.typeIs (PyProof.Rows.slot_tuple_getitem.lookup) ?_ (by with_unfolding_all rfl)
    refine getItem_tuple_rev ht (Heap.IsSliceOf.new _ vl vu vs) pl pu ps ?_ (by rw [List.size_toArray]; omega)
    refine ⟨.ref _, _, I5.laid (t' := s4.toks) (o := .tup xs.reverse) (fun b ob q => Heap.get?_push_of_some _ q) (Nat.le_refl _) ?_, rfl, q _ (I5.hok.fresh (Nat.le_refl _))⟩
    exact ⟨by rw [List.length_reverse]; exact hz, _, r.reverse, IsTup.new _ _⟩
end
end L2
namespace M7
open PySem PySem.Spec PyProof.Rows L2
section
variable {w : WD} {W : WX} {ι : Type} {XS : ι → Cx} {e : Expr} {sb : SB} {p1 p2 p3 pos : Pos}
def seRevU (sb : SB) : SE := fun g => (sb g).bind fun r g1 => match r.get g1 with
  | some (.lst ds) => .ok (true, .lst ds.reverse) g1
  | some (.tup ds) => .ok (false, .tup ds.reverse) g1
  | _ => .fail
theorem re_revU {ta : TE} {sb : SB} (h : RB w W ta sb) : RE w W (tRevU w.K ta) (seRevU sb) := fun π B Z g σ H Q s q =>
  h π B Z g σ H _ s (tailE.bB q fun r g1 v B1 H1 e1 s1 r1 q1 => by
    split at q1
    · rename_i ds hr
      obtain ⟨a, xs, rfl, ha, hx⟩ := lk_lst s1.sub (s1.lk r1 hr)
      exact .inl ⟨a, xs, rfl, .inl (.inl ha), fun p hp => q1 _ B1 _ (Ext.refl _) (s1.grow (Ext.new hp)) (s1.new_res hp (.lst upd_same hx.rev))⟩
    · rename_i ds hr
      obtain ⟨a, xs, rfl, ha, hx⟩ := lk_tup s1.sub (s1.lk r1 hr)
      exact .inr ⟨a, xs, rfl, ha, fun p hp => fin_T s1 q1 hx.rev hp⟩
    · exact q1.elim)
theorem de_revU {k : Nat} (h : DB XS w W e sb) (hK : ∀ i, (XS i).K = w.K := by intro _; rfl) : DE XS w W (.Subscript e (.Slice none none (some (.UnaryOp .USub (.Constant (.int 1) k p1) p2)) p3) pos) (seRevU sb) := by
  obtain ⟨t, h1, h2⟩ := h
  exact ⟨_, fun i => by rw [← hK i]; exact pe_revU (h1 i), re_revU h2⟩
end
end M7
/-! a value that nobody changes any more -/
namespace M7
open PySem PySem.Spec PyProof.Rows L2
section
variable {w : WD} {W : WX} {ι : Type} {XS : ι → Cx} {e : Expr}
def seFz (se : SE) : SE := fun g => (se g).bind fun r g1 => .ok (false, r.2) g1
theorem re_fz {t : TE} {se : SE} (h : RE w W t se) : RE w W t (seFz se) := fun π B Z g σ H Q s q =>
  h π B Z g σ H _ s (tailE.bE q fun o d g1 v B1 H1 e1 s1 r1 q1 => by
    obtain ⟨B2, e2, s2, hd⟩ := r1.freeze s1
    exact q1 v B2 H1 e2 s2 hd)
theorem de_fz {se : SE} (h : DE XS w W e se) : DE XS w W e (seFz se) := by
  obtain ⟨t, h1, h2⟩ := h
  exact ⟨t, h1, re_fz h2⟩
theorem ds_setLcFz {st : ST} {se : SE} {y : Str} {py pos spos : Pos} {elt tg iter : Expr} {ifs : List Expr} {scope : Scope} (k : Nat) (own : List (Str × Nat)) {si : SI} {sg : SG} (hnd : ∀ i, (XS i).N.Nodup) (ok : ∀ i, BlkOk (XS i).N (XS i).env.scope scope own) (hi : DI XS w W tg iter si) (hg : DG (blkS XS scope) w (own.map (·.2)) tg sg) (ht : DTs (blkS XS scope) w WT ifs st) (he : DE (blkS XS scope) w WT elt se)
    (hk : ∀ i, (XS i).env.scope.kind = .function := by intro _; rfl) (hy : ∀ i, (XS i).N[k]? = some y := by intro _; rfl) (hyl : ∀ i, (XS i).env.scope.names.lookup y = some .local := by intro _; rfl) (hl : (py.line == pos.line) = true := by rfl) (ha : (scope.names.any fun (n, k) => n == y && (k == .local || k == .cell)) = false := by rfl)
    (hc : ∀ i, (XS i).calm = true := by intro _; rfl) (hs : ∀ i x, foldedSetIterable iter (XS i).env x = pure x := by intro _ _; rfl) : DS XS w W (.Assign [.Name y py] (.ListComp elt [⟨tg, iter, ifs, 0⟩] scope pos) spos) (ssAsg (seFz (seLc si sg st se (own.map (·.2)))) (sgName k)) := by
  obtain ⟨t, h1, h2⟩ := hi
  obtain ⟨u, k1, k2, k3⟩ := hg
  obtain ⟨v, l1, l2⟩ := ht
  obtain ⟨te, m1, m2⟩ := he
  exact ⟨_, fun i => ps_setLc (hc i) (hnd i) (hy i) (hyl i) (sw_true (hk i) (hyl i) hl ha) (h1 i) (ok i) (fun s H C cl fp => k1 (i, s, H, C, cl, fp)) (fun s H C cl fp => l1 (i, s, H, C, cl, fp)) (fun s H C cl fp => m1 (i, s, H, C, cl, fp)) (hs i), rs_asg (re_fz (re_lc h2 k2 k3 l2 m2)) rg_name⟩
end
end M7
/-! A lambda that is handed to a def which calls it: its body is evaluated while one's own objects are put aside. -/
namespace M7
open PySem PySem.Spec PyProof.Rows L2
section
variable {w : WD} {W : WX} {π : Nat → V} {B B' B1 Z : Hp} {g g1 : G} {σ σ' : L2.St} {H H' H1 : Hp} {v : V}
def offS : Option (Fl × D) → Option (Fl × D)
  | some (c, d) => if c.own = true then none else some (c, d)
  | none => none
def offG (g : G) : G := g.map offS
theorem offG_get {i : Nat} {c : Fl} {d : D} (h : (offG g)[i]? = some (some (c, d))) : g[i]? = some (some (c, d)) ∧ c.own = false := by
  unfold offG at h
  rw [List.getElem?_map] at h
  cases e : g[i]? with
  | none => rw [e] at h; cases h
  | some s =>
    rw [e] at h
    cases s with
    | none => cases h
    | some x =>
      obtain ⟨c', d'⟩ := x
      have h : some (offS (some (c', d'))) = some (some (c, d)) := h
      unfold offS at h
      cases ho : c'.own with
      | true => simp [ho] at h
      | false =>
        simp [ho] at h
        obtain ⟨rfl, rfl⟩ := h
        exact ⟨rfl, ho⟩
theorem Sat.off (s : Sat w π B Z g σ H) : Sat w π B (guardZ Z H g σ []) (offG g) σ H := by
  refine ⟨s.sub, fun a o q => ?_, fun a o q => ?_, by unfold offG; rw [List.length_map]; exact s.len, fun i c d q z => s.fz i c d (offG_get q).1 z, fun i c d q z => ?_, fun i j c c' d e a q1 q2 z1 z2 => ?_, fun i c d q z => s.pin i c d (offG_get q).1 z, fun a q h => (s.tz a q h).elim fun o z => ⟨o, guard_z z⟩⟩
  · rcases guard_some q with z | ⟨_, z, i, c, d, h1, h2, h3, _⟩
    · exact s.keep a o z
    · obtain ⟨a', k1, k2, k3, k4⟩ := s.ow i c d h1 h2
      rw [h3] at k1
      cases k1
      obtain ⟨u, hu, pu⟩ := k4.pl
      rw [z] at hu
      cases hu
      exact .inl ⟨s.tn0 k3, pu, z⟩
  · rcases guard_some q with z | ⟨_, _, i, c, d, h1, h2, h3, _⟩
    · exact s.dis a o z
    · obtain ⟨a', k1, k2, _⟩ := s.ow i c d h1 h2
      rw [h3] at k1
      cases k1
      exact k2
  · rw [(offG_get q).2] at z
    cases z
  · rw [(offG_get q1).2] at z1
    cases z1
theorem Sat.on (s : Sat w π B Z g σ H) (e : Ext B B') (t : Sat w π B' (guardZ Z H g σ []) g1 σ' H') : Sat w π B' Z g σ H' := by
  refine ⟨t.sub, t.keep.sub (fun a o q => guard_z q), fun a o q => t.dis a o (guard_z q), s.len, fun i c d q z => ?_, fun i c d q z => ?_, s.dj, s.pin, s.tz⟩
  · obtain ⟨v, h1, h2⟩ := s.fz i c d q z
    exact ⟨v, h1, h2.mono e⟩
  · obtain ⟨a, k1, k2, k3, k4⟩ := s.ow i c d q z
    obtain ⟨u, hu⟩ := k4.there
    have gz : guardZ Z H g σ [] a = some u := by rw [guard_own k3 q z k1 (by simp)]; exact hu
    exact ⟨a, k1, t.dis a u gz, k3, (k4.mono e).at ((t.keep.at (s.tn0 k3) gz).trans hu.symm)⟩
/-- the tables that are known -/
structure TabsOf (w : WD) (T : List (Addr × Str)) : Prop where
  all : ∀ a q, w.tn a = some q → (a, q) ∈ T
  of : ∀ p ∈ T, w.tn p.1 = some p.2
theorem Sat.tabs {T : List (Addr × Str)} (s : Sat w π B Z g σ H) (hT : TabsOf w T) : LamX.Tabs T H := fun p hp => by
  have h := hT.of p hp
  obtain ⟨o, z⟩ := s.tz _ _ h
  rcases s.keep _ o z with ⟨h1, _⟩ | ⟨q, h1, h2⟩
  · rw [h] at h1; cases h1
  · rw [h] at h1
    cases h1
    exact h2
theorem plain_ne {o : HO} (p : plain o = true) : ∀ ps, o ≠ .tbl ps := fun ps e => by
  rw [e] at p
  cases p
theorem Sat.made {T : List (Addr × Str)} (s : Sat w π B Z g σ H) (hT : TabsOf w T) (n : LamX.ExtN H H1) (t : LamX.Tabs T H1) : Sat w π B Z g σ H1 := by
  refine s.heap (fun a o q => ?_) (fun a o q => ?_) fun a d _ _ o => ?_
  · obtain ⟨p, h⟩ := s.sub a o q
    refine ⟨p, ?_⟩
    rcases h with h | ⟨l, ob, h⟩
    · exact .inl (n _ _ h (plain_ne p))
    · exact .inr ⟨l, ob, n _ _ h (fun ps z => by cases z)⟩
  · rcases s.keep a o q with ⟨h1, h2, h3⟩ | ⟨m, h1, h2⟩
    · exact .inl ⟨h1, h2, n _ _ h3 (plain_ne h2)⟩
    · exact .inr ⟨m, h1, t _ (hT.all a m h1)⟩
  · obtain ⟨u, hu, pu⟩ := o.pl
    exact o.at ((n _ _ hu (plain_ne pu)).trans hu.symm)
/-- try: return (v0, a()) / except x: return (w0,) : on data -/
def seOut (mt : XN → Bool) (v0 w0 : Str) (se : SE) : SE := fun g => match se (offG g) with
  | .ok r _ => .ok (false, .tup [.str v0, r.2]) g
  | .ex x _ _ => if mt x = true then .ok (false, .tup [.str w0]) g else .fail
  | .fail => .fail
def TOut (K : PySem.W.Frag) (CE : Addr) (v0 w0 : Str) : (XK → Hp → VK → Prop) → Hp → VK → Prop := fun tl H Q =>
  tl (fun cls _ H' => ∃ b, PySem.W.exmOne K cls (.ref CE) = some b ∧ (b = true → ∀ t, H' t = none → Q (.ref t) (upd H' t (.tup [.str w0]))) ∧ (b = false → False)) H (fun v H' => 2 ≤ sizeLine ∧ ∀ t, H' t = none → Q (.ref t) (upd H' t (.tup [.str v0, v])))
theorem re_out {T : List (Addr × Str)} {t : XK → TE} {se : SE} {mt : XN → Bool} {CE : Addr} {v0 w0 : Str} (hT : TabsOf w T) (hm : Ctc w (.ref CE) mt) (h : ∀ E : XK, RE w (fun cls d _ H => E cls d H) (t E) se) : RE w W (LamX.tLam T (TOut w.K CE v0 w0) t) (seOut mt v0 w0 se) := fun π B Z g σ H Q s q => by
  refine ⟨s.tabs hT, fun H1 n ht => ?_⟩
  have s1 := s.made hT n ht
  refine h _ π B (guardZ Z H1 g σ []) (offG g) σ H1 _ s1.off ?_
  unfold seOut at q
  cases e : se (offG g) with
  | ok r g1 =>
    rw [e] at q
    obtain ⟨o, d⟩ := r
    intro v B' H' e' t' r'
    obtain ⟨B2, e2, s2, hd⟩ := r'.freeze t'
    have s3 := s1.on (e'.trans e2) s2
    refine ⟨by decide, fun p hp => ?_⟩
    exact q _ _ _ ((e'.trans e2).trans (Ext.new (s3.sub.none hp))) (s3.newB hp) (Den.tup (xs := [.str v0, v]) (.inl (.inl upd_same)) (.cons (.str _) (.cons (hd.mono (Ext.new (s3.sub.none hp))) .nil)))
  | ex x f g1 =>
    rw [e] at q
    intro hx dd B' H' σ' e' t' xo
    refine ⟨mt x, hm x hx, fun hb p hp => ?_, fun hb => ?_⟩
    · simp only [hb, if_true] at q
      have s3 := s1.on e' t'
      exact q _ _ _ (e'.trans (Ext.new (s3.sub.none hp))) (s3.newB hp) (Den.tup (xs := [.str w0]) (.inl (.inl upd_same)) (.cons (.str _) .nil))
    · simp only [hb, Bool.false_eq_true, if_false] at q
      exact q
  | fail =>
    rw [e] at q
    exact q.elim
end
/-! ### the contexts of a lambda's body -/
section
variable {P : Program} {wl : World} {mg : Str → Option Value} {base : Heap} {w : WD} {W : WX} {ι : Type} {XS : ι → Cx}
structure LIx (XS : ι → Cx) (scope : Scope) (k : Nat) where
  i : ι
  A : Around
  outer : List Env
  s : Shared
  H : Hp
  f : Addr
  c : Addr
  room : Room k (A.deeper (LamX.lamEnv (XS i) scope s.heap.objs.size f c))
def lamS (XS : ι → Cx) (scope : Scope) (k : Nat) (E : XK) : LIx XS scope k → Cx := fun q => LamX.lamCx (XS q.i) q.A q.outer q.s q.H E scope q.f q.c
theorem Fam.lam {gb : Bool} {n : Nat} (F : Fam P wl mg base w gb n XS) (scope : Scope) (k : Nat) (E : XK) : Fam P wl mg base w false k (lamS XS scope k E) :=
  ⟨fun q => F.prog q.i, fun q => F.wl q.i, fun q => F.K q.i, fun q => F.mg q.i, fun q => F.base q.i, fun _ z => (by cases z), fun q => q.room⟩
theorem lam_takes {scope : Scope} {k : Nat} {E : XK} (q : LIx XS scope k) : Takes (lamS XS scope k E q) (fun cls d _ H => E cls d H) := takes_of rfl rfl rfl rfl
/-- the def that is given the lambda: try: return (v0, a()) / except x: return (w0,) -/
structure OutK (P : Program) (wl : World) (mg : Str → Option Value) (base : Heap) (w : WD) (x v0 w0 : Str) (mt : XN → Bool) : Prop where
  ex : ∃ (g : Addr) (CE : Addr) (a : Str) (Ng : List Str) (pg : Arguments) (bg : List Stmt) (sg : Scope) (dV kV doc pm cdv ct oc : Value) (an od : Option Addr) (osl : Array (Option Value)),
    mg x = some (.ref g) ∧ PySem.W.keepIn w.K (.ref g) = true ∧ w.K.lookup g = some ⟨oc, od, .func (PySem.W.fnOf x x pg bg sg dV kV doc pm an cdv ct), osl⟩ ∧ PySem.W.codeIn w.K cdv x = true ∧ L2.Binds w.K (PySem.W.fnOf x x pg bg sg dV kV doc pm an cdv ct) [a] [] ∧ FnScope Ng [a] sg ∧ Ng[0]? = some a ∧ Vis sg a ∧
    Ctc w (.ref CE) mt ∧ (∀ X : Cx, X.prog = P → X.w = wl → X.K = w.K → X.mg = mg → X.base = base → ∀ q, LamX.GivesTo X Ng x sg g cdv bg a q (TOut w.K CE v0 w0)) ∧ (a == ("__debug__" : Str)) = false ∧ (a == ("__classdict__" : Str)) = false
theorem de_out {gb : Bool} {k : Nat} {T : List (Addr × Str)} {c Pt : Addr} {x v0 w0 q0 : Str} {mt : XN → Bool} {params : Arguments} {body : Expr} {scope : Scope} {p lpos pos : Pos} {se : SE} (F : Fam P wl mg base w gb (k + 2) XS) (OU : OutK P wl mg base w x v0 w0 mt) (hT : TabsOf w T) (TB : LamX.TabB base mg c Pt) (hP : w.tn Pt = some (q0 ++ "<lambda>"))
    (hb : ∀ E : XK, DE (lamS XS scope k E) w (fun cls d _ H => E cls d H) body se) (hL : ∀ i, LamX.LamS (XS i).env.scope scope)
    (hcode : ∀ i, (XS i).env.code = .ref c := by intro _; rfl) (hq : ∀ i, (XS i).env.qual = q0 := by intro _; rfl) (hg : ∀ i, Gl (XS i) x := by intro _; rfl) (hdef : ∀ i, defaultsOf params (XS i).env = ([], []) := by intro _; rfl)
    (hbind : ∀ (q : Str) (cl : List (Str × Addr)) (pm cv ctv : Value), bindArgs (PySem.W.kla_fn "<lambda>" q params body scope cl pm cv ctv) ⟨[], []⟩ = pure [] := by intro _ _ _ _ _; rfl)
    (hdb : (x == ("__debug__" : Str)) = false := by decide) : DE XS w W (.Call (.Name x p) [.Lambda params body scope lpos] [] pos) (seOut mt v0 w0 se) := by
  obtain ⟨g, CE, a, Ng, pg, bg, sg, dV, kV, doc, pm, cdv, ct, oc, an, od, osl, h1, h2, h3, h4, h5, h6, h7, h8, h9, h10, h11, h12⟩ := OU.ex
  refine ⟨LamX.tLam T (TOut w.K CE v0 w0) fun E => (hb E).choose, fun i => ?_, re_out hT h9 fun E => (hb E).choose_spec.2⟩
  have hmem : (Pt, (XS i).env.qual ++ "<lambda>") ∈ T := by rw [hq i]; exact hT.all _ _ hP
  exact LamX.pe_lamcall (hg i) (by rw [F.mg i]; exact h1) (by rw [F.K i]; exact h2) (by rw [F.K i]; exact h3) (by rw [F.K i]; exact h4) (by rw [F.K i]; exact h5) h6 h7 h8
    (h10 _ (F.prog i) (F.wl i) (F.K i) (F.mg i) (F.base i) _) (by rw [F.base i, F.mg i]; exact TB) (hcode i) hmem (fun p hp e => by
      have := hT.of p hp
      rw [e, hP] at this
      rw [hq i]
      exact (Option.some.inj this).symm) (F.room i) (hL i) (hdef i) hbind
    (fun A outer s H E f c' hr => (hb E).choose_spec.1 ⟨i, A, outer, s, H, f, c', hr⟩) hdb h11 h12
/-! ### a def that makes lambdas: its code object is known -/
structure FunC (K : PySem.W.Frag) (x qual : Str) (st : Stmt) (c : Addr) (f : Addr) (fd : FuncData) : Prop where
  ex : ∃ (oc : Value) (od : Option Addr) (kV doc pm : Value) (an : Option Addr) (ct : Value) (osl : Array (Option Value)),
    fd = PySem.W.fnOf x qual (defArgs st) (defBody st) (defScope st) .none kV doc pm an (.ref c) ct ∧ K.lookup f = some ⟨oc, od, .func fd, osl⟩ ∧ PySem.W.codeIn K (.ref c) qual = true
  kp : PySem.W.keepIn K (.ref f) = true
theorem FunC.binds {K : PySem.W.Frag} {x qual : Str} {st : Stmt} {c f : Addr} {fd : FuncData} {ps : List Str} (F : FunC K x qual st c f fd)
    (h : ∀ (kV doc pm : Value) (an : Option Addr) (cdv ct : Value) (us : List Value), us.length = ps.length → bindArgs (PySem.W.fnOf x qual (defArgs st) (defBody st) (defScope st) .none kV doc pm an cdv ct) ⟨us, []⟩ = pure (ps.zip us)) : Binds K fd ps [] := by
  obtain ⟨oc, od, kV, doc, pm, an, ct, osl, rfl, lk, hcd⟩ := F.ex
  exact .all (h kV doc pm an (.ref c) ct)
theorem fnx_C {gb bx : Bool} {y qual : Str} {s : Stmt} {f c : Addr} {fd : FuncData} {N ps : List Str} {k : Nat} {ss : SS} (Fd : FunC w.K y qual s c f fd) (S : FnScope N ps (defScope s))
    (hb : ∀ (A : Around) (outer : List Env) (sh : Shared) (H : Hp) (E : XK), Gd gb A → Room k (A.deeper (envOfC qual (defScope s) sh.heap.objs.size f (.ref c))) →
      DSs (fun _ : Unit => cxOf (CXb bx P wl) P wl w.K mg base N qual (defScope s) f (.ref c) A outer sh H E) w (fun cls d _ H => E cls d H) (defBody s) ss) : FnX gb P wl w.K mg base (CXb bx P wl) (k + 1) f fd ps (spD w (bodyFn ps.length N.length ss)) := by
  obtain ⟨oc, od, kV, doc, pm, an, ct, osl, rfl, lk, hcd⟩ := Fd.ex
  refine ⟨fun vs H Q E h => spD_len h, fun A outer s H args us vs Q E hg hr e0 hbd r h => ?_⟩
  refine LamX.run_ofS lk hcd S hr e0 hbd r (spD_len h) fun hr' => ?_
  obtain ⟨t, h1, h2⟩ := hb A outer s H E hg hr'
  exact ⟨t, h1 (), body_D h h2 fun _ _ _ _ z => z⟩
theorem def_C {gb bx : Bool} {y qual : Str} {s : Stmt} {f c : Addr} {fd : FuncData} {N ps : List Str} {k : Nat} {ss : SS} (Fd : FunC w.K y qual s c f fd) (S : FnScope N ps (defScope s)) (hbd : Binds w.K fd ps [])
    (hb : ∀ (A : Around) (outer : List Env) (sh : Shared) (H : Hp) (E : XK), Gd gb A → Room k (A.deeper (envOfC qual (defScope s) sh.heap.objs.size f (.ref c))) →
      DSs (fun _ : Unit => cxOf (CXb bx P wl) P wl w.K mg base N qual (defScope s) f (.ref c) A outer sh H E) w (fun cls d _ H => E cls d H) (defBody s) ss) : Def P wl mg base w gb bx (k + 1) f (bodyFn ps.length N.length ss) :=
  ⟨fd, ps, fnx_C Fd S hb, hbd, Fd.kp⟩
end
end M7
set_option maxHeartbeats 4000000
/-! tuple * 1; text * int. -/
namespace L2
open PySem PySem.Spec PyProof.Rows
theorem tuple_mul1 (l : Addr) (items : Array Value) (n : Nat) (dd : Option Addr) (sl : Array (Option Value)) (x : Int) (u : Tok) (c0 : (decide (x < -(2 ^ 63)) || decide (x ≥ 2 ^ 63)) = false) (c1 : (items.isEmpty || x == 1) = true) :
    Meets (Builtin.«tuple.__mul__» ⟨[.ref l, .int x u], []⟩) (fun _ R s => s.heap.get? l = some { cls := .type "tuple", dict := dd, data := .seq items n, slots := sl } ∧
      R (.ok (.ret (Value.ref l))) s) :=
  .of_wp fun prog w A R s h => by
    obtain ⟨hp, g, d, tk, os⟩ := s
    obtain ⟨hl, h⟩ := h
    have f1 := AutoSeq1.idx_int
    wp_walk using wpAny_loadPart' hl
    repeat (first
      | (refine wpAny_ite_false (decide_eq_false (by rw [c0]; exact Bool.false_ne_true)) ?_; wp_walk using wpAny_loadPart' hl)
      | (refine wpAny_ite_true (decide_eq_true c1) ?_; wp_walk using wpAny_loadPart' hl))
    exact ⟨_, rfl, h⟩
def rRep1 (K : PySem.W.Frag) : R2 := fun x y H Q => ∃ l xs, x = .ref l ∧ y = .int 1 ∧ SqT K H l xs ∧ xs ≠ [] ∧ Q (.ref l) H
section
variable {X : Cx}
theorem op_rep1 : OpR X (binaryOp .Mult) (rRep1 X.K) := by
  intro pins s σ H x y v u Q I rx ry h
  obtain ⟨l, xs, rfl, rfl, hT, hne, q⟩ := h
  cases rx
  obtain ⟨t, rfl⟩ := ry
  obtain ⟨its, r, ⟨⟨cls, dd, data, sl⟩, ho, hc, n, hd⟩, hs⟩ := I.tuple hT
  simp only at hc hd
  subst hc hd
  have c0 : (decide ((1 : Int) < -(2 ^ 63)) || decide ((1 : Int) ≥ 2 ^ 63)) = false := by decide
  have c1 : (its.toArray.isEmpty || (1 : Int) == 1) = true := by
    rw [show ((1 : Int) == 1) = true from rfl, Bool.or_true]
  refine wpAny_binaryOp_repeat_ref (T := "tuple") (U := "int") (by decide) ⟨_, ho, rfl⟩ (fun s' => typeIs_int s' 1 t) noFill_tuple_mul F.fills_int_mul F.slot_int_rmul repeat_tuple F.slot_int_index.lookup
    (call_meets F.slot_int_rmul (typeIs_int s 1 t) F.entry_int_rmul (F.args_int_rmul_2 _ _) (int_rmul_tuple 1 t l its.toArray n dd sl)
      ⟨ho, rfl, ⟨_, ho, rfl⟩, call_meets F.slot_tuple_mul ⟨_, ho, rfl⟩ F.entry_tuple_mul (F.args_tuple_mul_2 _ _) (tuple_mul1 l its.toArray n dd sl 1 t c0 c1) ⟨ho, ?_⟩⟩)
  exact ⟨.ref l, H, I, rfl, q⟩
def rMulS : R2 := fun x y H Q => ∃ a k, x = .str a ∧ y = .int k ∧ MulOk a k ∧ Q (.str (Txt.mul a k)) H
theorem op_mulS : OpR X (binaryOp .Mult) rMulS := by
  intro pins s σ H x y v u Q I rx ry h
  obtain ⟨i, j, rfl, rfl, hz, q⟩ := h
  obtain ⟨t, rfl⟩ := rx
  obtain ⟨t', rfl⟩ := ry
  exact SB.mul hz fun t' k => ⟨.str (Txt.mul i j), H, I.tok _, ⟨_, rfl⟩, q⟩
end
end L2
namespace M7
open PySem PySem.Spec PyProof.Rows L2
section
variable {w : WD} {W : WX} {π : Nat → V} {B B' B1 Z : Hp} {g : G} {σ : L2.St} {H H' : Hp} {v : V}
def dMulS : D → D → Option (Bool × D)
  | .str a, .int k => if 0 ≤ k ∧ k ≤ 1000 ∧ a.length ≤ 1000 then some (false, .str (Txt.mul a k)) else none
  | _, _ => none
theorem od_mulS : OpD w rMulS dMulS := fun π B Z g σ H Q v u d e s h1 h2 q => by
  cases d <;> first | exact q.elim | skip
  cases e <;> first | exact q.elim | skip
  rename_i i j
  unfold dMulS at q
  simp only at q
  split at q
  · rename_i hc
    refine ⟨i, j, lk_str h1, lk_int h2, ⟨?_, fun h3 h4 => ?_, fun h3 h4 => ?_⟩, fin_d s q (.str _)⟩
    · rw [decide_eq_false (by omega), decide_eq_false (by omega)]
      rfl
    · have h5 : (1000 : Int) ≤ (2 ^ 63 - 1) / j := by
        rw [Int.le_ediv_iff_mul_le (by omega)]
        have : 1000 * j ≤ 1000 * 1000 := by omega
        omega
      omega
    · unfold Builtin.Str.tooLong
      rw [sizeLine_eq]
      refine decide_eq_false ?_
      have : i.length * j.toNat ≤ 1000 * 1000 := Nat.mul_le_mul hc.2.2 (by omega)
      omega
  · exact q.elim
def dMulT1 : D → D → Option (Bool × D)
  | .tup ds, .int 1 => if ds ≠ [] then some (false, .tup ds) else none
  | d, e => dMulT d e
def rMulT1 (K : PySem.W.Frag) : R2 := fun x y H Q => rRep1 K x y H Q ∨ rMulT K x y H Q
theorem op_mulT1 {X : Cx} : OpR X (binaryOp .Mult) (rMulT1 X.K) := OpR.or op_rep1 op_mulT
theorem od_mulT1 : OpD w (rMulT1 w.K) dMulT1 := fun π B Z g σ H Q v u d e s h1 h2 q => by
  unfold dMulT1 at q
  split at q
  · rename_i ds
    obtain ⟨a, xs, rfl, ha, hx⟩ := lk_tup s.sub h1
    split at q
    · rename_i hc
      refine .inl ⟨a, xs, rfl, lk_int h2, ha, fun z => hc (by subst z; cases hx; rfl), ?_⟩
      cases h1 with
      | den h1 => exact fin_d s q h1
      | own _ h1 => cases h1
    · exact q.elim
  · exact .inr (od_mulT π B Z g σ H Q v u _ _ s h1 h2 q)
end
end M7
set_option maxHeartbeats 2000000
/-! enumerate(a text). -/
namespace R7
open PySem PySem.Spec PyProof.Rows L2
def Ies (z : Str) : It :=
  ⟨fun i H => ∃ c : Nat, z.cps[i]? = some c, fun i H v H' => ∃ T c, v = .ref T ∧ H T = none ∧ H' = upd H T (.tup [.int (i : Nat), .str ⟨#[c]⟩]) ∧ z.cps[i]? = some c, fun i H => i = z.cps.size⟩
theorem turn_enumS {P : Program} {w : World} {K : PySem.W.Frag} {elts : List Expr} {kk : Nat} {tpos : Pos} (x : Str) (t : Tok) (e it : Addr) :
    Turn P w K (.Tuple elts kk tpos) (Ies x) [e, it] e (fun i h => (∃ old, IsEnum h e it (i : Nat) old) ∧ h.IsStrIter it (strIterType x) x t i ∧ e ≠ it) where
  mem := by simp
  obj := fun i h st b hb => by
    obtain ⟨⟨old, he⟩, ⟨o, ho, hc, hd⟩, _⟩ := st
    have e' : b = e ∨ b = it := by simpa using hb
    rcases e' with z | z
    · rw [z]; exact ⟨_, he, fun v q => nomatch q⟩
    · rw [z]; exact ⟨o, ho, fun v q => by rw [hd] at q; cases q⟩
  keep := fun i h h' st k => let ⟨⟨old, he⟩, ⟨o, ho, r⟩, hne⟩ := st; ⟨⟨old, k e (by simp) _ he⟩, ⟨o, k it (by simp) _ ho, r⟩, hne⟩
  item := by
    intro X hP hw hK hc i pins s σ H E I hf st hg
    subst hP hw hK
    obtain ⟨⟨old, he⟩, hit, hne⟩ := st
    obtain ⟨c, hx⟩ := hg
    have hel : e < s.heap.objs.size := Heap.lt_size he
    have hil : it < s.heap.objs.size := by obtain ⟨_, q, _⟩ := hit; exact Heap.lt_size q
    have hi : i < x.cps.size := (Array.getElem?_eq_some_iff.mp hx).1
    refine wpAny_pyNext_enum_itemC (Draws.text (by show X.A.in1.handled = none; exact I.ok.hd hc) it x t) he hit hi hne (by simp [hne]) fun x' h' tk hx' ho hst' hT hsz hk => ?_
    obtain ⟨c', t2, hc', rfl⟩ := hx'
    obtain rfl : c = c' := by
      rw [hx] at hc'
      exact Option.some.inj hc'
    refine ⟨_, rfl, wpAny_letOwnedTupleGo_enum (s := { s with heap := h', toks := tk + 1 }) ho fun h'' he' sb => ?_⟩
    have hT2 : h''.get? s.heap.objs.size = some { cls := .type "tuple", data := .seq #[.int (i : Nat) tk, .str ⟨#[c]⟩ t2] } := (sb.2 _ (Nat.ne_of_gt hel)).trans hT
    have new : ObjOk X.prog X.w (upd H s.heap.objs.size (.tup [.int (i : Nat), .str ⟨#[c]⟩])) h'' s.heap.objs.size (.tup [.int (i : Nat), .str ⟨#[c]⟩]) :=
      ⟨by show 2 ≤ sizeLine; decide, [.int (i : Nat) tk, .str ⟨#[c]⟩ t2], .cons ⟨_, rfl⟩ (.cons ⟨t2, rfl⟩ .nil), ⟨_, hT2, rfl, _, rfl⟩⟩
    have I1 : Inv X pins σ (upd H s.heap.objs.size (.tup [.int (i : Nat), .str ⟨#[c]⟩])) { s with heap := h'', toks := tk + 1 } :=
      I.turnedNew (ch := [e, it]) (fun b ob hb q => (sb.2 b (fun z => hb (by simp [z]))).trans (hk b ob (fun z => hb (by simp [z])) (fun z => hb (by simp [z])) q)) hf (Nat.le_refl _) new
    refine ⟨.ref s.heap.objs.size, _, I1, rfl, ⟨_, c, rfl, I.hok.fresh (Nat.le_refl _), rfl, hx⟩, ⟨⟨.str ⟨#[c]⟩ t2, ?_⟩, ?_, hne⟩, fun b hb => ?_⟩
    · have e1 : ((i + 1 : Nat) : Int) = (i : Int) + 1 := by omega
      rw [e1]; exact he'
    · obtain ⟨o, ho, r⟩ := hst'
      exact ⟨o, (sb.2 it (Ne.symm hne)).trans ho, r⟩
    · have hb' : b < s.heap.objs.size := by
        have e' : b = e ∨ b = it := by simpa using hb
        rcases e' with z | z
        · rw [z]; exact hel
        · rw [z]; exact hil
      rw [upd_ne (Nat.ne_of_lt hb')]
      exact (hf b hb).1
  done := by
    intro X hP hw hK hc i pins s σ H E I hf st hg
    subst hP hw hK
    obtain ⟨⟨old, he⟩, hit, hne⟩ := st
    obtain ⟨f0, f1, f2, f3, f4, f5⟩ := hf it (by simp)
    have hg : i = x.cps.size := hg
    subst hg
    exact wpAny_pyNext_enum_endD (Draws.text (by show X.A.in1.handled = none; exact I.ok.hd hc) it x t) he hit fun h' hk => ⟨rfl, I.turned (t' := s.toks) (fun b o hb q => hk b o hb q) f0 f1 f3 f4 f5⟩
  self := fun A i s Q E st h => let ⟨⟨_, he⟩, _⟩ := st; wpAny_pyIter_enum he h
def iEnumV (K : PySem.W.Frag) (ta : TA) : TI := fun σ H R => ta σ H fun vs H1 => (∃ a xs, vs = [.ref a] ∧ SqL K H1 a xs ∧ R (Ite K a) H1) ∨ ∃ z, vs = [.str z] ∧ R (Ies z) H1
theorem pi_enumV {X : Cx} {e : Expr} {ta : TA} {p pos tpos : Pos} {elts : List Expr} {kk : Nat} (hg : Gl X "enumerate") (hm : X.mg "enumerate" = none) (ha : PA X [e] ta) (hs : starEach [e] X.env = [(false, eval e X.env)] := by rfl) :
    PI X (.Tuple elts kk tpos) (.Call (.Name "enumerate" p) [e] [] pos) (iEnumV X.K ta) := by
  refine ⟨fun pins s σ H R I h => ?_⟩
  refine Call_ (ld_blt I hg hm boot_enumerate (PyProof.Rows.callWith_type1 (thn (ha.run pos pins s σ H _ I h) fun us s1 ⟨vs, H1, I1, r1, q1⟩ => ?_) hs rfl))
  have fresh : ∀ b, b ∈ [s1.heap.objs.size + 1, s1.heap.objs.size] → FpOk X pins H1 b := fun b hb => by
    have e' : b = s1.heap.objs.size + 1 ∨ b = s1.heap.objs.size := by simpa using hb
    have hle : s1.heap.objs.size ≤ b := by
      rcases e' with z | z
      · rw [z]; exact Nat.le_add_right _ _
      · rw [z]; exact Nat.le_refl _
    exact I1.fpOk hle (I1.hok.fresh hle)
  rcases q1 with ⟨a, xs, ex, hq, q⟩ | ⟨z, ex, q⟩
  · subst ex
    cases r1 with
    | cons r rr =>
      cases rr
      cases r
      obtain ⟨its, rv, p', hz⟩ := I1.list hq
      refine call_enumerate_list p'.isList fun h' he hit hsz hk => wpAny_pyIter_enum he ?_
      have I2 : Inv X pins σ H1 { s1 with heap := h' } := I1.kept (t' := s1.toks) hk
      exact ⟨s1.heap.objs.size + 1, [s1.heap.objs.size + 1, s1.heap.objs.size], _, _, H1, rfl, I2, turn_enum a (s1.heap.objs.size + 1) s1.heap.objs.size, ⟨⟨.none, he⟩, hit, Nat.succ_ne_self _⟩, fresh, q⟩
  · subst ex
    cases r1 with
    | cons r rr =>
      cases rr
      obtain ⟨t, rfl⟩ := r
      refine call_enumerate_str fun h' he hit hsz hk => wpAny_pyIter_enum he ?_
      have I2 : Inv X pins σ H1 { s1 with heap := h' } := I1.kept (t' := s1.toks) hk
      exact ⟨s1.heap.objs.size + 1, [s1.heap.objs.size + 1, s1.heap.objs.size], _, _, H1, rfl, I2, turn_enumS z t (s1.heap.objs.size + 1) s1.heap.objs.size, ⟨⟨.none, he⟩, hit, Nat.succ_ne_self _⟩, fresh, q⟩
theorem walk_enumS {z : Str} : Walk (Ies z) z.cps.size (fun _ => True) (YPair (fun i => some (.int (i : Nat))) (fun i => (z.cps[i]?).map fun c => .str ⟨#[c]⟩)) := by
  refine ⟨fun i _ hi _ => ⟨z.cps[i], by simp [hi]⟩, fun _ _ => rfl, fun i H v H' _ q y => ?_⟩
  obtain ⟨T, c, h1, h2, h3, h4⟩ := y
  exact ⟨T, .int (i : Nat), .str ⟨#[c]⟩, h1, h2, h3, rfl, by show (z.cps[i]?).map _ = _; rw [h4]; rfl⟩
end R7
namespace M7
open PySem PySem.Spec PyProof.Rows L2
section
variable {w : WD} {W : WX} {π : Nat → V} {B B' B1 Z : Hp} {g : G} {σ : L2.St} {H H' : Hp} {v : V}
def en2 : List D → Option (List D)
  | [.str z] => some (enumD 0 (chars z))
  | ds => en1 ds
theorem ri_enumV {ta : TA} {sa : SA} (h : RA w W ta sa) : RI w W (R7.iEnumV w.K ta) (siV en2 sa) := fun π B Z g σ H R s q =>
  h π B Z g σ H _ s (Tail.bAI q fun rs g1 vs B1 H1 e1 s1 r1 q1 => by
    split at q1
    · rename_i ds hr
      have hd := r1.datas hr
      split at q1
      · rename_i es he
        unfold en2 at he
        split at he
        · rename_i z
          cases he
          cases hd with
          | cons a t =>
            cases t
            refine .inr ⟨z, by rw [lk_str (H := H1) (.den a)], q1 _ B1 H1 (Ext.refl _) s1 ?_⟩
            refine walks_of R7.walk_enumS (by rw [enumD_len]; unfold chars; rw [List.length_map, Array.length_toList]) (fun _ _ _ _ => True.intro) fun B2 i d H2 x H3 e2 s2 q2 y => ?_
            obtain ⟨e, k1, rfl⟩ := enumD_get q2
            rw [Nat.zero_add]
            exact ypair (B := B1) (ds := fun i => some (.int (i : Nat))) (es := fun i => (chars z)[i]?) (fun i d q => by cases q; exact ⟨_, rfl, .int _⟩) (fun i d q => by
              obtain ⟨c, hc, rfl⟩ := chars_get q
              exact ⟨.str ⟨#[c]⟩, by rw [hc]; rfl, .str _⟩) B2 i _ e H2 x H3 e2 s2 rfl k1 y
        · unfold en1 at he
          split at he
          · rename_i ds
            cases he
            cases hd with
            | cons a t =>
              cases t
              cases a with
              | lst hb hx =>
                refine .inl ⟨_, _, rfl, .inl (.inl (s1.sub.at hb rfl)), q1 _ B1 H1 (Ext.refl _) s1 ?_⟩
                refine walks_of walk_enum (by rw [enumD_len, hx.len]) (fun B2 H2 e2 s2 => .inl (.inl (s2.at (e2 _ _ hb) rfl))) fun B2 i d H2 x H3 e2 s2 q2 y => ?_
                obtain ⟨e, k1, rfl⟩ := enumD_get q2
                rw [Nat.zero_add]
                exact ypair (B := B1) (ds := fun i => some (.int (i : Nat))) (fun i d q => by cases q; exact ⟨_, rfl, .int _⟩) (fun i d q => hx.get (i := i) (d := d) q) B2 i _ e H2 x H3 e2 s2 rfl k1 y
          · cases he
      · exact q1.elim
    · exact q1.elim)
theorem di_enumV {ι : Type} {XS : ι → Cx} {elts : List Expr} {kk : Nat} {tpos p pos : Pos} {e : Expr} {args : SA} (hm : ∀ i, (XS i).mg "enumerate" = none) (ha : DA XS w W [e] args) (hg : ∀ i, Gl (XS i) "enumerate" := by intro _; rfl) (hs : ∀ i, starEach [e] (XS i).env = [(false, eval e (XS i).env)] := by intro _; rfl) (hK : ∀ i, (XS i).K = w.K := by intro _; rfl) :
    DI XS w W (.Tuple elts kk tpos) (.Call (.Name "enumerate" p) [e] [] pos) (siV en2 args) := by
  obtain ⟨t, h1, h2⟩ := ha
  exact ⟨_, fun i => by rw [← hK i]; exact R7.pi_enumV (hg i) (hm i) (h1 i) (hs i), ri_enumV h2⟩
end
end M7
/-! A lambda handed to a def with several except clauses: try: return (v0, a()) / except X1: return (w1,) / except X2: return (w2,) .. -/
namespace M7
open PySem PySem.Spec PyProof.Rows L2
section
variable {w : WD} {W : WX} {π : Nat → V} {B B' B1 Z : Hp} {g g1 : G} {σ σ' : L2.St} {H H' H1 : Hp} {v : V}
def pickW : List ((XN → Bool) × Str) → XN → Option Str
  | [], _ => none
  | (m, w0) :: hs, x => if m x = true then some w0 else pickW hs x
def seOutL (hs : List ((XN → Bool) × Str)) (v0 : Str) (se : SE) : SE := fun g => match se (offG g) with
  | .ok r _ => .ok (false, .tup [.str v0, r.2]) g
  | .ex x _ _ => match pickW hs x with
    | some w0 => .ok (false, .tup [.str w0]) g
    | none => .fail
  | .fail => .fail
def ansL (K : PySem.W.Frag) (Q : VK) (cls : Value) (H' : Hp) : List (Addr × Str) → Prop
  | [] => False
  | (C, w0) :: cs => ∃ b, PySem.W.exmOne K cls (.ref C) = some b ∧ (b = true → ∀ t, H' t = none → Q (.ref t) (upd H' t (.tup [.str w0]))) ∧ (b = false → ansL K Q cls H' cs)
def TOutL (K : PySem.W.Frag) (cs : List (Addr × Str)) (v0 : Str) : (XK → Hp → VK → Prop) → Hp → VK → Prop := fun tl H Q =>
  tl (fun cls _ H' => ansL K Q cls H' cs) H (fun v H' => 2 ≤ sizeLine ∧ ∀ t, H' t = none → Q (.ref t) (upd H' t (.tup [.str v0, v])))
/-- the clauses on data and on the heap are the same ones -/
inductive CtcL (w : WD) : List (Addr × Str) → List ((XN → Bool) × Str) → Prop
  | nil : CtcL w [] []
  | cons {C : Addr} {m : XN → Bool} {w0 : Str} {cs : List (Addr × Str)} {hs : List ((XN → Bool) × Str)} : Ctc w (.ref C) m → CtcL w cs hs → CtcL w ((C, w0) :: cs) ((m, w0) :: hs)
theorem ansL_of {cs : List (Addr × Str)} {hs : List ((XN → Bool) × Str)} (hc : CtcL w cs hs) {x : XN} (hx : w.has x) {w0 : Str} (hp : pickW hs x = some w0) {Q : VK} (h : ∀ t, H' t = none → Q (.ref t) (upd H' t (.tup [.str w0]))) : ansL w.K Q (.ref (w.exc x)) H' cs := by
  induction hc with
  | nil => cases hp
  | cons c r ih =>
    rename_i C m w1 cs hs
    refine ⟨m x, c x hx, fun hb => ?_, fun hb => ?_⟩
    · unfold pickW at hp
      rw [if_pos hb] at hp
      cases hp
      exact h
    · unfold pickW at hp
      rw [if_neg (by rw [hb]; decide)] at hp
      exact ih hp
theorem re_outL {T : List (Addr × Str)} {t : XK → TE} {se : SE} {cs : List (Addr × Str)} {hs : List ((XN → Bool) × Str)} {v0 : Str} (hT : TabsOf w T) (hm : CtcL w cs hs) (h : ∀ E : XK, RE w (fun cls d _ H => E cls d H) (t E) se) : RE w W (LamX.tLam T (TOutL w.K cs v0) t) (seOutL hs v0 se) := fun π B Z g σ H Q s q => by
  refine ⟨s.tabs hT, fun H1 n ht => ?_⟩
  have s1 := s.made hT n ht
  refine h _ π B (guardZ Z H1 g σ []) (offG g) σ H1 _ s1.off ?_
  unfold seOutL at q
  cases e : se (offG g) with
  | ok r g1 =>
    rw [e] at q
    obtain ⟨o, d⟩ := r
    intro v B' H' e' t' r'
    obtain ⟨B2, e2, s2, hd⟩ := r'.freeze t'
    have s3 := s1.on (e'.trans e2) s2
    refine ⟨by decide, fun p hp => ?_⟩
    exact q _ _ _ ((e'.trans e2).trans (Ext.new (s3.sub.none hp))) (s3.newB hp) (Den.tup (xs := [.str v0, v]) (.inl (.inl upd_same)) (.cons (.str _) (.cons (hd.mono (Ext.new (s3.sub.none hp))) .nil)))
  | ex x f g1 =>
    rw [e] at q
    simp only at q
    cases hp : pickW hs x with
    | none =>
      rw [hp] at q
      exact q.elim
    | some w0 =>
      rw [hp] at q
      intro hx dd B' H' σ' e' t' xo
      have s3 := s1.on e' t'
      exact ansL_of hm hx hp fun p hp => q _ _ _ (e'.trans (Ext.new (s3.sub.none hp))) (s3.newB hp) (Den.tup (xs := [.str w0]) (.inl (.inl upd_same)) (.cons (.str _) .nil))
  | fail =>
    rw [e] at q
    exact q.elim
end
section
variable {P : Program} {wl : World} {mg : Str → Option Value} {base : Heap} {w : WD} {W : WX} {ι : Type} {XS : ι → Cx}
structure OutKL (P : Program) (wl : World) (mg : Str → Option Value) (base : Heap) (w : WD) (x v0 : Str) (hs : List ((XN → Bool) × Str)) : Prop where
  ex : ∃ (g : Addr) (cs : List (Addr × Str)) (a : Str) (Ng : List Str) (pg : Arguments) (bg : List Stmt) (sg : Scope) (dV kV doc pm cdv ct oc : Value) (an od : Option Addr) (osl : Array (Option Value)),
    mg x = some (.ref g) ∧ PySem.W.keepIn w.K (.ref g) = true ∧ w.K.lookup g = some ⟨oc, od, .func (PySem.W.fnOf x x pg bg sg dV kV doc pm an cdv ct), osl⟩ ∧ PySem.W.codeIn w.K cdv x = true ∧ L2.Binds w.K (PySem.W.fnOf x x pg bg sg dV kV doc pm an cdv ct) [a] [] ∧ FnScope Ng [a] sg ∧ Ng[0]? = some a ∧ Vis sg a ∧
    CtcL w cs hs ∧ (∀ X : Cx, X.prog = P → X.w = wl → X.K = w.K → X.mg = mg → X.base = base → ∀ q, LamX.GivesTo X Ng x sg g cdv bg a q (TOutL w.K cs v0)) ∧ (a == ("__debug__" : Str)) = false ∧ (a == ("__classdict__" : Str)) = false
theorem de_outL {gb : Bool} {k : Nat} {T : List (Addr × Str)} {c Pt : Addr} {x v0 q0 : Str} {hs : List ((XN → Bool) × Str)} {params : Arguments} {body : Expr} {scope : Scope} {p lpos pos : Pos} {se : SE} (F : Fam P wl mg base w gb (k + 2) XS) (OU : OutKL P wl mg base w x v0 hs) (hT : TabsOf w T) (TB : LamX.TabB base mg c Pt) (hP : w.tn Pt = some (q0 ++ "<lambda>"))
    (hb : ∀ E : XK, DE (lamS XS scope k E) w (fun cls d _ H => E cls d H) body se) (hL : ∀ i, LamX.LamS (XS i).env.scope scope)
    (hcode : ∀ i, (XS i).env.code = .ref c := by intro _; rfl) (hq : ∀ i, (XS i).env.qual = q0 := by intro _; rfl) (hg : ∀ i, Gl (XS i) x := by intro _; rfl) (hdef : ∀ i, defaultsOf params (XS i).env = ([], []) := by intro _; rfl)
    (hbind : ∀ (q : Str) (cl : List (Str × Addr)) (pm cv ctv : Value), bindArgs (PySem.W.kla_fn "<lambda>" q params body scope cl pm cv ctv) ⟨[], []⟩ = pure [] := by intro _ _ _ _ _; rfl)
    (hdb : (x == ("__debug__" : Str)) = false := by decide) : DE XS w W (.Call (.Name x p) [.Lambda params body scope lpos] [] pos) (seOutL hs v0 se) := by
  obtain ⟨g, cs, a, Ng, pg, bg, sg, dV, kV, doc, pm, cdv, ct, oc, an, od, osl, h1, h2, h3, h4, h5, h6, h7, h8, h9, h10, h11, h12⟩ := OU.ex
  refine ⟨LamX.tLam T (TOutL w.K cs v0) fun E => (hb E).choose, fun i => ?_, re_outL hT h9 fun E => (hb E).choose_spec.2⟩
  have hmem : (Pt, (XS i).env.qual ++ "<lambda>") ∈ T := by rw [hq i]; exact hT.all _ _ hP
  exact LamX.pe_lamcall (hg i) (by rw [F.mg i]; exact h1) (by rw [F.K i]; exact h2) (by rw [F.K i]; exact h3) (by rw [F.K i]; exact h4) (by rw [F.K i]; exact h5) h6 h7 h8
    (h10 _ (F.prog i) (F.wl i) (F.K i) (F.mg i) (F.base i) _) (by rw [F.base i, F.mg i]; exact TB) (hcode i) hmem (fun p hp e => by
      have := hT.of p hp
      rw [e, hP] at this
      rw [hq i]
      exact (Option.some.inj this).symm) (F.room i) (hL i) (hdef i) hbind
    (fun A outer s H E f c' hr => (hb E).choose_spec.1 ⟨i, A, outer, s, H, f, c', hr⟩) hdb h11 h12
end
end M7
/-! Keywords in any order. -/
namespace M7
open PySem PySem.Spec PyProof.Rows L2
def permL {α : Type} (p : List Nat) (zs : List α) : List α := p.filterMap fun i => zs[i]?
theorem vals_permL {zs : List V} {ws : List Value} (h : Vals zs ws) : ∀ p : List Nat, Vals (permL p zs) (permL p ws)
  | [] => .nil
  | i :: p => by
    have ih := vals_permL h p
    have hl : zs.length = ws.length := h.length
    unfold permL at ih ⊢
    cases e : zs[i]? with
    | none =>
      have e2 : ws[i]? = none := by
        rw [List.getElem?_eq_none_iff] at e ⊢
        omega
      simp only [List.filterMap_cons, e, e2]
      exact ih
    | some v =>
      obtain ⟨u, hu, ru⟩ := h.get e
      simp only [List.filterMap_cons, e, hu]
      exact .cons ru ih
theorem dens_permL {w : WD} {B : Hp} {zs : List V} {ds : List D} (h : Dens w B zs ds) : ∀ p : List Nat, Dens w B (permL p zs) (permL p ds)
  | [] => .nil
  | i :: p => by
    have ih := dens_permL h p
    have hl : zs.length = ds.length := h.len
    unfold permL at ih ⊢
    cases e : ds[i]? with
    | none =>
      have e2 : zs[i]? = none := by
        rw [List.getElem?_eq_none_iff] at e ⊢
        omega
      simp only [List.filterMap_cons, e, e2]
      exact ih
    | some d =>
      obtain ⟨v, hv, dv⟩ := h.get e
      simp only [List.filterMap_cons, e, hv]
      exact .cons dv ih
theorem gv_permL {w : WD} {m : Nat} (p : List Nat) : GV w m (permL p) (permL p) := fun _ _ _ h _ => dens_permL h p
end M7
/-! tuple(range(a, b)). -/
namespace M7
open PySem PySem.Spec PyProof.Rows L2
section
variable {w : WD} {W : WX} {π : Nat → V} {B B' B1 Z : Hp} {g : G} {σ : L2.St} {H H' : Hp} {v : V}
def seTupRg (s1 s2 : SE) : SE := fun g => (s1 g).bind fun r g1 => (s2 g1).bind fun u g2 => match r.2, u.2 with
  | .int i, .int j => if 0 ≤ i ∧ i ≤ 100000 ∧ 0 ≤ j ∧ j ≤ 100000 then .ok (false, .tup (rangeD i (j - i).toNat)) g2 else .fail
  | _, _ => .fail
theorem rg_dens {i j : Int} : Dens w B (rgV i j) (rangeD i (j - i).toNat) := by
  unfold rgV rangeD
  generalize List.range (j - i).toNat = l
  induction l with
  | nil => exact .nil
  | cons a l ih => exact .cons (.int _) ih
theorem re_tupRg {t1 t2 : TE} {s1 s2 : SE} (h1 : RE w W t1 s1) (h2 : RE w W t2 s2) : RE w W (tTupRg (tRg2 t1 t2)) (seTupRg s1 s2) := fun π B Z g σ H Q s q =>
  h1 π B Z g σ H _ s (tailE.bE q fun o d g1 v B1 H1 e1 k1 r1 q1 => by
    obtain ⟨B2, e2, k2, hd⟩ := r1.freeze k1
    have q1 := PostE.mono e2 q1
    refine h2 π B2 Z g1 σ H1 _ k2 (tailE.bE q1 fun o' d' g2 u B3 H3 e3 k3 r3 q3 => ?_)
    obtain ⟨B4, e4, k4, hd'⟩ := r3.freeze k3
    have q3 := PostE.mono e4 q3
    cases d with
    | int i =>
      cases d' with
      | int j =>
        have q3 : PostE w W π B4 Z σ Q (if 0 ≤ i ∧ i ≤ 100000 ∧ 0 ≤ j ∧ j ≤ 100000 then .ok (false, .tup (rangeD i (j - i).toNat)) g2 else .fail) := q3
        by_cases hc : 0 ≤ i ∧ i ≤ 100000 ∧ 0 ≤ j ∧ j ≤ 100000
        · rw [if_pos hc] at q3
          have v1 : v = .int i := lk_int (H := H3) (.den hd)
          have v2 : u = .int j := lk_int (H := H3) (.den hd')
          refine ⟨i, j, v1, v2, RgOk.of_le hc.1 (by omega) (by omega) hc.2.2.1, fun p hp => ?_⟩
          exact q3 _ _ _ (Ext.new (k4.sub.none hp)) (k4.newB hp) (Den.tup (xs := rgV i j) (.inl (.inl upd_same)) rg_dens)
        · rw [if_neg hc] at q3
          exact q3.elim
      | _ => exact q3.elim
    | _ =>
      cases d' <;> exact q3.elim)
end
section
variable {ι : Type} {XS : ι → Cx} {w : WD} {W : WX}
theorem de_tupRg {e1 e2 : Expr} {s1 s2 : SE} {p p' pos pos' : Pos} (hm : ∀ i, (XS i).mg "tuple" = none) (hr : ∀ i, (XS i).mg "range" = none) (h1 : DE XS w W e1 s1) (h2 : DE XS w W e2 s2) (hc : ∀ i, (XS i).calm = true := by intro _; rfl) (hg : ∀ i, Gl (XS i) "tuple" := by intro _; rfl) (hg' : ∀ i, Gl (XS i) "range" := by intro _; rfl)
    (na : ∀ i, starEach [e1, e2] (XS i).env = (false, eval e1 (XS i).env) :: starEach [e2] (XS i).env := by intro _; rfl) (nb : ∀ i, starEach [e2] (XS i).env = (false, eval e2 (XS i).env) :: starEach [] (XS i).env := by intro _; rfl) (hp : ∀ i, (backTo pos' (starEach [e2] (XS i).env)).any (·.1) = false := by intro _; rfl)
    (nc : ∀ i, starEach [.Call (.Name "range" p') [e1, e2] [] pos'] (XS i).env = (false, eval (.Call (.Name "range" p') [e1, e2] [] pos') (XS i).env) :: starEach [] (XS i).env := by intro _; rfl) :
    DE XS w W (.Call (.Name "tuple" p) [.Call (.Name "range" p') [e1, e2] [] pos'] [] pos) (seTupRg s1 s2) := by
  obtain ⟨t1, a1, a2⟩ := h1
  obtain ⟨t2, b1, b2⟩ := h2
  exact ⟨_, fun i => pe_tupRg (hc i) (hg i) (hm i) (prg_2 (hg' i) (hr i) (a1 i) (b1 i) (na i) (nb i) (hp i)) (nc i), re_tupRg a2 b2⟩
end
end M7
set_option maxHeartbeats 4000000
/-! sorted(xs), xs a list of pairs (text, value), the texts different ones; list(d.items()); d[k] = v; keywords left out. -/
namespace R7
open PySem PySem.Spec PyProof.Rows L2
open SrtO Srt
/-- one text before another -/
def ltS (x y : Str) : Bool := decide (x.cps.toList < y.cps.toList)
theorem swo_S {α : Type} (k : α → Str) : Swo fun x y => ltS (k x) (k y) := by
  refine ⟨fun x y h => ?_, fun x y z h1 h2 => ?_⟩
  · have a := of_decide_eq_true h
    exact decide_eq_false (List.lt_asymm a)
  · have a := of_decide_eq_false h1
    have b := of_decide_eq_false h2
    exact decide_eq_false (List.not_lt.mpr (List.le_trans (List.not_lt.mp a) (List.not_lt.mp b)))
def IsSP (h : Heap) (v : Value) (x : Str) : Prop := ∃ a o t u n, v = .ref a ∧ h.get? a = some o ∧ o.cls = .type "tuple" ∧ o.data = .seq #[.str x t, u] n
section
variable {prog : Program} {w : World} {A : Around} {E : Value → Shared → Prop} {s : Shared}
theorem sp_cmp {vs : List Value} {k : Value → Str} (hp : ∀ v ∈ vs, IsSP s.heap v (k v)) (hd : ∀ v ∈ vs, ∀ u ∈ vs, k v = k u → v = u) : Cmp prog w A s (tuples' true) (fun p => p.1 ∈ vs) (lt2 fun v u => ltS (k v) (k u)) := by
  rintro ⟨p, pk⟩ ⟨q, qk⟩ hm hm'
  have h1 := hp _ hm
  have h2 := hp _ hm'
  have hne := hd _ hm _ hm'
  show wpAny (model prog w) A (keyLt' (tuples' true) p q) (fun r s' => s' = s ∧ r = ltS (k p) (k q)) (fun _ _ => False) s
  have h1 : IsSP s.heap p (k p) := h1
  have h2 : IsSP s.heap q (k q) := h2
  have hne : k p = k q → p = q := hne
  generalize k p = x1 at h1 hne ⊢
  generalize k q = x2 at h2 hne ⊢
  obtain ⟨a, o, t, u, n, rfl, ho, hc, hda⟩ := h1
  obtain ⟨a', o', t', u', n', rfl, ho', hc', hda'⟩ := h2
  refine PySem.W.kat_lt ho hda ho' hda' ?_
  show PySem.W.KatLex prog w A true (decide (2 < 2)) _ [(.str x1 t, .str x2 t'), (u, u')] 0 s
  refine PySem.W.kat_cons (SeqAt.EqAt.str_str x1 t x2 t' prog w _ _ ?_)
  refine PySem.W.kat_go (fun e1 => ?_) (fun e1 => ?_)
  · have ex : x1 = x2 := eq_of_beq e1
    have ea := hne ex
    subst ex
    cases ea
    rw [ho] at ho'
    cases ho'
    rw [hda] at hda'
    injection hda' with z _
    have ez : u = u' := by
      have := congrArg Array.toList z
      simpa using (List.cons.inj (List.cons.inj this).2).1
    subst ez
    refine PySem.W.kat_yes (PySem.W.kat_cons (SeqAt.EqAt.same u prog w _ _ ?_))
    refine PySem.W.kat_go (fun e2 => ?_) (fun e2 => nomatch e2)
    exact PySem.W.kat_yes (PySem.W.kat_nil ⟨rfl, (decide_eq_false (List.lt_irrefl _)).symm⟩)
  · exact PySem.W.kat_no (oneLt_str ⟨rfl, rfl⟩)
theorem firstsS {h : Heap} {k : Value → Str} : ∀ {vs : List Value}, (∀ v ∈ vs, IsSP h v (k v)) → ∃ fs : List Value, PySem.W.KatTups h vs fs ∧ fs.length = vs.length ∧ ∀ f ∈ fs, ∃ x t, f = Value.str x t
  | [], _ => ⟨[], PySem.W.KatTups.nil, rfl, fun _ hm => by simp at hm⟩
  | v :: vs, hp => by
    obtain ⟨fs, h1, h2, h3⟩ := firstsS (vs := vs) fun v' hm => hp v' (List.mem_cons_of_mem _ hm)
    obtain ⟨a, o, t, u, n, e, ho, hc, hd⟩ := hp v (List.mem_cons_self ..)
    subst e
    refine ⟨.str _ t :: fs, PySem.W.KatTups.cons ho hc hd rfl h1, by rw [List.length_cons, List.length_cons, h2], fun f hm => ?_⟩
    rcases List.mem_cons.mp hm with rfl | hm
    · exact ⟨_, t, rfl⟩
    · exact h3 f hm
theorem IsSP.keeps {h h' : Heap} {v : Value} {x : Str} (p : IsSP h v x) (k : ∀ b o, h.get? b = some o → o.cls = .type "tuple" → h'.get? b = some o) : IsSP h' v x := by
  obtain ⟨a, o, t, u, n, e, ho, hc, hd⟩ := p
  exact ⟨a, o, t, u, n, e, k _ _ ho hc, hc, hd⟩
theorem sp_sortable {a : Addr} {vs : List Value} {k : Value → Str} (h0 : 0 < vs.length) (hp : ∀ v ∈ vs, IsSP s.heap v (k v)) (hd : ∀ v ∈ vs, ∀ u ∈ vs, k v = k u → v = u) (ha : ∀ o, s.heap.get? a = some o → o.cls ≠ .type "tuple") : SortableO prog w A s a vs fun v u => ltS (k v) (k u) := by
  intro h' keep
  have hp' : ∀ v ∈ vs, IsSP h' v (k v) := fun v hm => (hp v hm).keeps fun b o e c => keep b o (fun z => by subst z; exact ha o e c) e
  obtain ⟨fs, h1, h2, h3⟩ := firstsS hp'
  refine ⟨tuples' true, fun Q E hq => ?_, sp_cmp hp' hd⟩
  refine PySem.W.kat_kind (T := .type "str") h1 (by omega) (fun f hm => ?_) (by rfl) ?_
  · obtain ⟨x, t, rfl⟩ := h3 f hm
    exact PySem.W.Looks.now
  · have e : (Value.type "str" != Value.type "tuple") = true := by first | decide +kernel | rfl | decide
    rw [e]
    exact hq
end
def SPat (K : PySem.W.Frag) (H : Hp) (x : V) (z : Str) : Prop := ∃ t y, x = V.ref t ∧ SqT K H t [.str z, y]
/-- sorted(xs) of such pairs; zs: their texts -/
def rSortedSP (K : PySem.W.Frag) : List V → Hp → VK → Prop := fun vs H Q => ∃ (a : Addr) (xs : List V) (zs : List Str), vs = [V.ref a] ∧ SqL K H a xs ∧ Paired (SPat K H) xs zs ∧ zs.Nodup ∧
  ∀ (k : V → Str) (ys : List V) p, zs = xs.map k → ys.Perm xs → ys.Pairwise (fun x y => ltS (k y) (k x) = false) → H p = none → Q (.ref p) (upd H p (.lst ys))
theorem nodup_inj {α β : Type} {k : α → β} : ∀ {xs : List α}, (xs.map k).Nodup → ∀ x ∈ xs, ∀ y ∈ xs, k x = k y → x = y
  | [], _, _, h, _, _, _ => by cases h
  | a :: l, hn, x, hx, y, hy, e => by
    rw [List.map_cons, List.nodup_cons] at hn
    rcases List.mem_cons.mp hx with h1 | h1 <;> rcases List.mem_cons.mp hy with h2 | h2
    · rw [h1, h2]
    · exact absurd (List.mem_map.mpr ⟨y, h2, by rw [← e, h1]⟩) hn.1
    · exact absurd (List.mem_map.mpr ⟨x, h1, by rw [e, h2]⟩) hn.1
    · exact nodup_inj hn.2 x h1 y h2 e
theorem paired_map {α β : Type} {R : α → β → Prop} {k : α → β} (hk : ∀ x z, R x z → k x = z) : ∀ {xs : List α} {zs : List β}, Paired R xs zs → zs = xs.map k
  | _, _, .nil => rfl
  | _, _, .cons r t => by rw [List.map_cons, hk _ _ r, ← paired_map hk t]
theorem paired_memL {α β : Type} {R : α → β → Prop} : ∀ {xs : List α} {ys : List β}, Paired R xs ys → ∀ x ∈ xs, ∃ y ∈ ys, R x y
  | _, _, .cons r t, x, hx => by
    rcases List.mem_cons.mp hx with rfl | hx
    · exact ⟨_, List.mem_cons_self, r⟩
    · obtain ⟨y, h1, h2⟩ := paired_memL t x hx
      exact ⟨y, List.mem_cons_of_mem _ h1, h2⟩
theorem paired_permL {α β : Type} {R : α → β → Prop} {xs ys : List α} (h : ys.Perm xs) : ∀ {ps : List β}, Paired R xs ps → ∃ qs, qs.Perm ps ∧ Paired R ys qs := by
  induction h with
  | nil => exact fun {ps} hp => ⟨ps, .refl _, hp⟩
  | cons x _ ih =>
    intro ps hp
    cases hp with
    | cons r t =>
      obtain ⟨qs, q1, q2⟩ := ih t
      exact ⟨_ :: qs, q1.cons _, .cons r q2⟩
  | swap x y l =>
    intro ps hp
    cases hp with
    | cons r t =>
      cases t with
      | cons r2 t2 => exact ⟨_, List.Perm.swap _ _ _, .cons r2 (.cons r t2)⟩
  | trans _ _ ih1 ih2 =>
    intro ps hp
    obtain ⟨qs, q1, q2⟩ := ih2 hp
    obtain ⟨rs, r1, r2⟩ := ih1 q2
    exact ⟨rs, r1.trans q1, r2⟩
theorem paired_mapR {α β γ : Type} {R : α → β → Prop} {S : α → γ → Prop} {f : β → γ} (h : ∀ a b, R a b → S a (f b)) : ∀ {xs : List α} {ys : List β}, Paired R xs ys → Paired S xs (ys.map f)
  | _, _, .nil => .nil
  | _, _, .cons r t => .cons (h _ _ r) (paired_mapR h t)
theorem paired_mapL {α β γ : Type} {R : α → β → Prop} {f : α → γ} {f' : β → γ} (h : ∀ a b, R a b → f' b = f a) : ∀ {xs : List α} {ys : List β}, Paired R xs ys → ys.map f' = xs.map f
  | _, _, .nil => rfl
  | _, _, .cons r t => by rw [List.map_cons, List.map_cons, h _ _ r, paired_mapL h t]
theorem paired_monoL {α β : Type} {R R' : α → β → Prop} (h : ∀ a b, R a b → R' a b) : ∀ {xs : List α} {ys : List β}, Paired R xs ys → Paired R' xs ys
  | _, _, .nil => .nil
  | _, _, .cons r t => .cons (h _ _ r) (paired_monoL h t)
theorem paired_eqL {α β γ : Type} {R : α → β → Prop} {f : α → γ} {f' : β → γ} : ∀ {xs : List α} {ys : List β}, Paired R xs ys → ys.map f' = xs.map f → Paired (fun a b => R a b ∧ f' b = f a) xs ys
  | _, _, .nil, _ => .nil
  | _, _, .cons r t, e => by
    rw [List.map_cons, List.map_cons] at e
    injection e with e1 e2
    exact .cons ⟨r, e1⟩ (paired_eqL t e2)
section
variable {X : Cx}
open Classical in
theorem cr_sortedSP : CallR X (.builtin "sorted") (rSortedSP X.K) := by
  intro pins s σ H vs us Q I r h
  obtain ⟨a, xs, zs, rfl, hs, hx, hnd, q⟩ := h
  have fn : ∀ x z z', SPat X.K H x z → SPat X.K H x z' → z = z' := fun x z z' ⟨t, y, e, h1⟩ ⟨t', y', e', h2⟩ => by
    rw [e] at e'
    cases e'
    have := I.tuple_inj h1 h2
    injection this with e1 _
    injection e1
  let k : V → Str := fun x => if h : ∃ z, SPat X.K H x z then h.choose else Str.empty
  have hk : ∀ x z, SPat X.K H x z → k x = z := fun x z h => by
    have hz : ∃ z, SPat X.K H x z := ⟨z, h⟩
    show (if h : ∃ z, SPat X.K H x z then h.choose else Str.empty) = z
    rw [dif_pos hz]
    exact fn _ _ _ hz.choose_spec h
  have ez : zs = xs.map k := paired_map hk hx
  have hx' : ∀ x ∈ xs, ∃ t y, x = V.ref t ∧ SqT X.K H t [.str (k x), y] := fun x m => by
    obtain ⟨z, _, t, y, e, h1⟩ := paired_memL hx x m
    exact ⟨t, y, e, by rw [hk x z ⟨t, y, e, h1⟩]; exact h1⟩
  have hdis : ∀ x ∈ xs, ∀ y ∈ xs, k x = k y → x = y := nodup_inj (by rw [← ez]; exact hnd)
  obtain ⟨its, rv, hl, hz⟩ := I.list hs
  obtain ⟨u, rfl, ru⟩ := vals1 r
  obtain rfl : u = Value.ref a := ru
  obtain ⟨e1, e2⟩ := refs_back rv fun x m => by
    obtain ⟨t, y, e, _⟩ := hx' x m
    exact ⟨t, e⟩
  have mem : ∀ {t : Addr}, Value.ref t ∈ its → V.ref t ∈ xs := fun {t} hv => by rw [e1]; exact List.mem_map.mpr ⟨_, hv, rfl⟩
  have hp : ∀ v ∈ its, IsSP s.heap v (k (backV v)) := fun v hv => by
    obtain ⟨t, rfl⟩ := e2 v hv
    obtain ⟨t', y, e, ht⟩ := hx' _ (mem hv)
    cases e
    obtain ⟨its2, r2, ⟨o, ho, hc, n, hd⟩, _⟩ := I.tuple ht
    obtain ⟨u1, u2, rfl, ri, rj⟩ := vals2 r2
    obtain ⟨t1, rfl⟩ := ri
    exact ⟨t, o, t1, u2, n, rfl, ho, hc, hd⟩
  have hdis' : ∀ v ∈ its, ∀ u ∈ its, k (backV v) = k (backV u) → v = u := fun v hv u hu e => by
    obtain ⟨t, rfl⟩ := e2 v hv
    obtain ⟨t', rfl⟩ := e2 u hu
    have := hdis _ (mem hv) _ (mem hu) e
    injection this with this
    rw [this]
  refine SrtO.sorted_ord (swo_S fun u => k (backV u)) hl.isList (by rw [← rv.length]; exact hz) (fun h2 h₁ a' ha kk => ?_) fun out h1 h2 => ?_
  · refine sp_sortable (k := fun u => k (backV u)) (s := { s with heap := h₁ }) (by omega) (fun v hm => (hp v hm).keeps fun b o e _ => (kk b o e).2) hdis' fun o e => ?_
    have e' : some o = some (seqObj "list" its.toArray 0) := e.symm.trans ha
    cases e'
    intro c
    exact absurd (Value.type.inj c) (by decide)
  · have h3 : ∀ u ∈ out, ∃ a, u = Value.ref a := fun u hu => e2 u (h2.perm.mem_iff.mp hu)
    obtain ⟨n, hn⟩ := PyProof.Rows.sortedAll_at s.heap its out.toArray
    have hperm : (out.map backV).Perm xs := by
      rw [e1]
      exact h2.perm.map _
    refine ⟨.ref _, upd H (s.heap.objs.size + 1) (.lst (out.map backV)), I.laid (t' := s.toks) (fun _ _ => PyProof.Rows.sortedAll_old) (Nat.le_succ _) ⟨?_, out, n, vals_back h3, hn⟩, rfl, q k _ _ ez hperm ?_ (I.hok.fresh (Nat.le_succ _))⟩
    · rw [hperm.length_eq]
      exact hz
    · exact List.pairwise_map.mpr h1
end
end R7
namespace M7
open PySem PySem.Spec PyProof.Rows L2 R7
/-! ### the same, of data -/
def pairsD : List D → Option (List (Str × D))
  | [] => some []
  | .tup [.str z, d] :: r => (pairsD r).map ((z, d) :: ·)
  | _ => none
def insP (p : Str × D) : List (Str × D) → List (Str × D)
  | [] => [p]
  | q :: r => if ltS p.1 q.1 = true then p :: q :: r else q :: insP p r
def sortP : List (Str × D) → List (Str × D)
  | [] => []
  | p :: r => insP p (sortP r)
def tupP (p : Str × D) : D := .tup [.str p.1, p.2]
def dSortP : List D → Option (Bool × D)
  | [.lst ds] => (pairsD ds).bind fun ps => if (ps.map (·.1)).Nodup then some (true, .lst ((sortP ps).map tupP)) else none
  | _ => none
theorem insP_perm (p : Str × D) : ∀ l, (insP p l).Perm (p :: l)
  | [] => .refl _
  | q :: r => by
    unfold insP
    split
    · exact .refl _
    · exact ((insP_perm p r).cons q).trans (.swap _ _ _)
theorem sortP_perm : ∀ l, (sortP l).Perm l
  | [] => .refl _
  | p :: r => (insP_perm p _).trans ((sortP_perm r).cons p)
def leP (p q : Str × D) : Prop := ltS q.1 p.1 = false
theorem insP_sorted (p : Str × D) : ∀ {l}, l.Pairwise leP → (insP p l).Pairwise leP
  | [], _ => by simp [insP]
  | q :: r, h => by
    have sw := swo_S (fun x : Str × D => x.1)
    rw [List.pairwise_cons] at h
    unfold insP
    split
    · rename_i hlt
      rw [List.pairwise_cons]
      refine ⟨fun x hx => ?_, List.pairwise_cons.mpr h⟩
      rcases List.mem_cons.mp hx with rfl | hx
      · exact sw.asym _ _ hlt
      · exact sw.tr p q x (sw.asym _ _ hlt) (h.1 x hx)
    · rename_i hn
      rw [List.pairwise_cons]
      refine ⟨fun x hx => ?_, insP_sorted p h.2⟩
      rcases List.mem_cons.mp ((insP_perm p r).mem_iff.mp hx) with rfl | hx
      · exact Bool.eq_false_iff.mpr hn
      · exact h.1 x hx
theorem sortP_sorted : ∀ l, (sortP l).Pairwise leP
  | [] => .nil
  | p :: r => insP_sorted p (sortP_sorted r)
theorem uniqP {α : Type} {r : α → α → Prop} : ∀ {a b : List α}, a.Perm b → a.Pairwise r → b.Pairwise r → (∀ x ∈ a, ∀ y ∈ a, r x y → r y x → x = y) → a = b
  | [], b, h, _, _, _ => h.symm.eq_nil.symm
  | x :: a, [], h, _, _, _ => absurd h.length_eq (by simp)
  | x :: a, y :: b, h, ha, hb, an => by
    rw [List.pairwise_cons] at ha hb
    have e : x = y := by
      rcases List.mem_cons.mp (h.mem_iff.mp List.mem_cons_self) with e | hx
      · exact e
      rcases List.mem_cons.mp (h.mem_iff.mpr List.mem_cons_self) with e | hy
      · exact e.symm
      · exact an x List.mem_cons_self y (List.mem_cons_of_mem _ hy) (ha.1 y hy) (hb.1 x hx)
    subst e
    rw [uniqP (List.Perm.cons_inv h) ha.2 hb.2 fun p hp q hq => an p (List.mem_cons_of_mem _ hp) q (List.mem_cons_of_mem _ hq)]
theorem str_eq {x y : Str} (h : x.cps.toList = y.cps.toList) : x = y := by
  cases x
  cases y
  congr 1
  exact Array.toList_inj.mp h
theorem leP_anti {ps : List (Str × D)} (hn : (ps.map (·.1)).Nodup) : ∀ x ∈ ps, ∀ y ∈ ps, leP x y → leP y x → x = y := fun x hx y hy h1 h2 => by
  refine nodup_inj hn x hx y hy (str_eq ?_)
  have a := of_decide_eq_false h1
  have b := of_decide_eq_false h2
  exact List.le_antisymm (List.not_lt.mp a) (List.not_lt.mp b)
section
variable {w : WD} {W : WX} {π : Nat → V} {B B' B1 Z : Hp} {g : G} {σ : L2.St} {H H' : Hp} {v : V}
theorem dens_pairs : ∀ {vs : List V} {ds : List D} {ps : List (Str × D)}, Dens w B vs ds → pairsD ds = some ps → Paired (fun x p => (∃ t y, x = V.ref t ∧ SqT w.K B t [.str p.1, y] ∧ Den w B y p.2)) vs ps
  | _, _, ps, .nil, e => by cases e; exact .nil
  | v :: vs, d :: ds, ps, .cons r t, e => by
    unfold pairsD at e
    split at e
    · rename_i e0; cases e0
    · rename_i z d1 r1 e0
      cases e0
      cases hp : pairsD ds with
      | none => rw [hp] at e; cases e
      | some qs =>
        rw [hp] at e
        cases e
        refine .cons ?_ (dens_pairs t hp)
        cases r with
        | tup hs hd =>
          cases hd with
          | cons h1 h2 =>
            cases h2 with
            | cons h2 h3 =>
              cases h3
              cases h1
              exact ⟨_, _, rfl, hs, h2⟩
    · cases e
theorem pairs_dens : ∀ {vs : List V} {ps : List (Str × D)}, Paired (fun x p => (∃ t y, x = V.ref t ∧ SqT w.K B t [.str p.1, y] ∧ Den w B y p.2)) vs ps → Dens w B vs (ps.map tupP)
  | _, _, .nil => .nil
  | _, _, .cons ⟨t, y, e, h1, h2⟩ r => by
    subst e
    exact .cons (.tup h1 (.cons (.str _) (.cons h2 .nil))) (pairs_dens r)
theorem cd_sortP : CallD w (rSortedSP w.K) dSortP := fun π B Z g σ H Q vs ds s h q => by
  unfold dSortP at q
  split at q
  · obtain ⟨v, rfl, hv⟩ := lks1 h
    rename_i ds
    obtain ⟨a, xs, rfl, ha, hx⟩ := lk_lst s.sub hv
    cases hi : pairsD ds with
    | none => rw [hi] at q; exact q.elim
    | some ps =>
      rw [hi, Option.bind_some] at q
      split at q
      · rename_i hn
        have hP := dens_pairs hx hi
        refine ⟨a, xs, ps.map (·.1), rfl, .inl (.inl ha), ?_, hn, fun k ys p ez pm pw hp => ?_⟩
        · exact paired_mapR (fun x p ⟨t, y, e, h1, _⟩ => ⟨t, y, e, s.sub.sqT h1⟩) hP
        · have hP2 := paired_eqL hP ez
          obtain ⟨qs, q1, q2⟩ := paired_permL pm hP2
          have hq := paired_monoL (R' := fun x p => (∃ t y, x = V.ref t ∧ SqT w.K B t [.str p.1, y] ∧ Den w B y p.2)) (fun _ _ z => z.1) q2
          have hk : qs.map (·.1) = ys.map k := paired_mapL (fun _ _ z => z.2) q2
          have hs : qs.Pairwise leP := by
            have z : (ys.map k).Pairwise (fun x y => ltS y x = false) := List.pairwise_map.mpr pw
            rw [← hk] at z
            exact (List.pairwise_map (f := fun p : Str × D => p.1)).mp z
          have e := uniqP (q1.trans (sortP_perm ps).symm) hs (sortP_sorted ps) fun x hx y hy => leP_anti hn x (q1.mem_iff.mp hx) y (q1.mem_iff.mp hy)
          rw [← e] at q
          exact fin_L s q (pairs_dens hq) hp
      · exact q.elim
  · exact q.elim
/-! ### list(d.items()) -/
def keyDD : Key → D
  | .inl i => .int i
  | .inr x => .str x
def itemsD (kvs : List (Key × D)) : D := .lst (kvs.map fun kv => .tup [keyDD kv.1, kv.2])
theorem den_kV (B : Hp) : ∀ k : Key, Den w B (kV k) (keyDD k)
  | .inl i => .int i
  | .inr x => .str x
theorem items_dens : ∀ {ks : List Key} {ts : List Addr} {vs : List V} {ds : List D}, ks.length = vs.length → Dens w B vs ds → Paired (fun (t : Addr) (q : Key × V) => H' t = some (.tup [kV q.1, q.2])) ts (ks.zip vs) → (∀ t ∈ ts, B t = H' t) → Dens w B (ts.map V.ref) ((ks.zip ds).map fun kv => .tup [keyDD kv.1, kv.2])
  | [], ts, _, _, _, _, hP, _ => by
    rw [List.zip_nil_left] at hP
    cases hP
    exact .nil
  | k :: ks, ts, [], _, l, _, _, _ => by cases l
  | k :: ks, ts, v :: vs, _, l, .cons r t, hP, hb => by
    rw [List.zip_cons_cons] at hP
    cases hP with
    | cons e hP =>
      rename_i a ts
      exact .cons (.tup (.inl (.inl ((hb a List.mem_cons_self).trans e))) (.cons (den_kV _ k) (.cons r .nil))) (items_dens (by simpa using l) t hP fun t ht => hb t (List.mem_cons_of_mem _ ht))
theorem items_core {a : Addr} {ks : List Key} {vs : List V} {ds : List D} {Q : VK} (s : Sat w π B Z g σ H) (ha : H a = some (.dK (ks.zip vs))) (l : ks.length = vs.length) (hx : Dens w B vs ds) (q : PostF w π B Z g σ Q (some (true, itemsD (ks.zip ds)))) : LiI.rItemsL (.ref a) H Q := by
  refine ⟨a, ks.zip vs, rfl, ha, fun H' p ts ext hp hts hpt hH hP => ?_⟩
  have s1 := s.grow ext
  let B' : Hp := fun b => if b ∈ ts then H' b else B b
  have off : ∀ b, b ∉ ts → B' b = B b := fun b h => if_neg h
  have on : ∀ b, b ∈ ts → B' b = H' b := fun b h => if_pos h
  have there : ∀ b u, H b = some u → b ∉ ts := fun b u e z => by rw [hts b z] at e; cases e
  have hext : Ext B B' := fun b o e => by
    rw [off b fun z => by rw [s.sub.none (hts b z)] at e; cases e]
    exact e
  have pl : ∀ b, b ∈ ts → ∀ o, H' b = some o → plain o = true := fun b hb o e => by
    obtain ⟨q, _, h⟩ := paired_memL hP b hb
    rw [e] at h
    cases h
    rfl
  have hsub : Sub B' H' := fun b o e => by
    by_cases hb : b ∈ ts
    · rw [on b hb] at e
      exact ⟨pl b hb o e, .inl e⟩
    · rw [off b hb] at e
      exact s1.sub b o e
  have s2 := s1.more hext hsub (fun b o e => by
    obtain ⟨u, hu⟩ := s.keep.there e
    rw [off b (there b u hu)]
    exact s.dis b o e) fun i c d b q1 q2 q3 => by
    obtain ⟨b', p1, p2, p3, p4⟩ := s.ow i c d q1 q2
    rw [q3] at p1
    cases p1
    obtain ⟨u, hu⟩ := p4.there
    rw [off b (there b u hu)]
    exact p2
  refine q _ B' H' hext s2 ⟨p, rfl, ?_, s.keep.no hp, .lst hH (items_dens l (hx.mono hext) hP on), fun i c e q1 q2 q3 => ?_⟩
  · rw [off p hpt]
    exact s.sub.none hp
  · obtain ⟨b', p1, p2, p3, p4⟩ := s.ow i c e q1 q2
    rw [q3] at p1
    cases p1
    obtain ⟨u, hu⟩ := p4.there
    rw [hp] at hu
    cases hu
def seItems (se : SE) : SE := fun g => (se g).bind fun r g1 => match r with
  | (true, .dct kvs) => .ok (true, itemsD kvs) g1
  | _ => .fail
def seItemsV (k : Nat) : SE := fun g => match ownAt g k with
  | some (_, .dct kvs) => .ok (true, itemsD kvs) g
  | _ => .fail
theorem re_items {te : TE} {se : SE} (h : RE w W te se) : RE w W (LiI.tListItems te) (seItems se) := fun π B Z g σ H Q s q =>
  h π B Z g σ H _ s (tailE.bE q fun o d g1 v B1 H1 e s1 r q1 => by
    cases o with
    | false => exact q1.elim
    | true =>
      cases d <;> first | exact q1.elim | skip
      obtain ⟨a, rfl, hb, hz, ho, hn⟩ := r
      cases ho with
      | dct e l hx => exact items_core s1 e l hx q1)
theorem re_itemsV {k : Nat} : RE w W (LiI.tListItems (tVar k)) (seItemsV k) := fun π B Z g σ H Q s q => by
  unfold seItemsV at q
  split at q
  · rename_i c kvs h
    obtain ⟨h1, h2⟩ := ownAt_some h
    obtain ⟨a, p1, p2, p3, p4⟩ := s.ow k c _ h1 h2
    refine ⟨.ref a, p1, ?_⟩
    cases p4 with
    | dct e l hx => exact items_core s e l hx q
  · exact q.elim
/-! ### d[k] = v -/
def ssSetD (i : Nat) (sv : SE) (si : SE) : SS := fun g => ofO (sv g) fun r g1 => match ownAt g1 i with
  | some _ => ofO (si g1) fun k g2 => match ownAt g2 i, keyD k.2 with
    | some (c, .dct kvs), some q => if kvs.length < 1000000 then .nx (g2.set i (some (c, .dct (putKD kvs q r.2)))) else .fail
    | _, _ => .fail
  | none => .fail
theorem rs_setD {i : Nat} {tv ti : TE} {sv si : SE} (hv : RE w W tv sv) (hi : RE w W ti si) : RS w W (tAsg tv (gSub (tVar i) ti rSetD)) (ssSetD i sv si) := fun π B Z g σ H D s q =>
  hv π B Z g σ H _ s (postS_E q fun o d g1 v B1 H1 e1 s1 r q1 => by
    obtain ⟨B2, e2, s2, hd⟩ := r.freeze s1
    split at q1
    · rename_i x e0
      obtain ⟨c0, d0⟩ := x
      obtain ⟨e0, o0⟩ := ownAt_some e0
      obtain ⟨a, h1, h2, h3, h4⟩ := s2.ow i c0 d0 e0 o0
      refine ⟨.ref a, h1, hi π B2 Z g1 σ H1 _ s2 (postS_E (q1.mono e2) fun o' k g2 u B3 H3 e3 s3 r3 q3 => ?_)⟩
      obtain ⟨B4, e4, s4, hk⟩ := r3.freeze s3
      split at q3
      · rename_i c kvs kk k1 hj
        obtain ⟨k1, o1⟩ := ownAt_some k1
        obtain ⟨a', m1, m2, m3, m4⟩ := s4.ow i c _ k1 o1
        rw [h1] at m1
        cases m1
        split at q3
        · rename_i hlt
          cases m4 with
          | @dct ks vs ds e l hx =>
            obtain ⟨ks', vs', ds', p1, p2, p3, p4, p5⟩ := zip_putK (k := kk) (hd.mono (e3.trans e4)) l hx
            refine ⟨a, _, rfl, .inl ⟨_, kk, e, den_key hk hj, Nat.lt_trans ?_ million, rfl⟩, ?_⟩
            · rw [List.length_zip] at hlt ⊢
              rw [← hx.len] at hlt
              exact hlt
            · rw [p1]
              have q3 : PostS w W π B3 Z D (.nx (g2.set i (some (c, .dct (putKD (ks.zip ds) kk d))))) := q3
              rw [p2] at q3
              exact q3 B4 _ σ e4 (s4.write k1 o1 h1 (.dct upd_same p3 p4))
        · exact q3.elim
      · exact q3.elim
    · exact q1.elim)
/-! ### keywords left out -/
theorem len1 {α : Type} {l : List α} (h : l.length = 1) : ∃ a, l = [a] := by
  match l, h with
  | [a], _ => exact ⟨a, rfl⟩
def dflL (n : Nat) (l : List D) : List D := List.replicate n (.tup []) ++ l
theorem dfl_dens : ∀ {Ts : List V}, (∀ t ∈ Ts, ∀ B, Den w B t (.tup [])) → ∀ B, Dens w B Ts (List.replicate Ts.length (.tup []))
  | [], _, _ => .nil
  | t :: Ts, h, B => .cons (h t List.mem_cons_self B) (dfl_dens (fun t ht => h t (List.mem_cons_of_mem _ ht)) B)
theorem gv_dfl {m : Nat} (Ts : List V) (h : ∀ t ∈ Ts, ∀ B, Den w B t (.tup [])) : GV w m (fun l => Ts ++ l) (dflL Ts.length) := fun B zs es d _ => (dfl_dens h B).app d
end
section
variable {w : WD} {W : WX} {ι : Type} {XS : ι → Cx} {P : Program} {wl : World} {mg : Str → Option Value} {base : Heap} {gb : Bool} {n : Nat} {e : Expr} {se : SE} {p apos cpos pos : Pos}
theorem de_items (h : DE XS w W e se) (hm : ∀ i, (XS i).mg "list" = none) (hc : ∀ i, (XS i).calm = true := by intro _; rfl) (hg : ∀ i, Gl (XS i) "list" := by intro _; rfl) (hv : bootBuiltins "list" = some (.type "list") := by decide +kernel) (hbase : ∀ i, attributeBase e "items" (XS i).env (eval e (XS i).env) = eval e (XS i).env := by intro _; rfl) (hline : (apos.endLine == cpos.line) = true := by rfl)
    (hs : ∀ i, starEach [.Call (.Attribute e "items" apos) [] [] cpos] (XS i).env = (false, eval (.Call (.Attribute e "items" apos) [] [] cpos) (XS i).env) :: starEach [] (XS i).env := by intro _; rfl) :
    DE XS w W (.Call (.Name "list" p) [.Call (.Attribute e "items" apos) [] [] cpos] [] pos) (seItems se) := by
  obtain ⟨t, h1, h2⟩ := h
  exact ⟨_, fun i => LiI.pe_listItems (hc i) (h1 i) (hg i) (hm i) hv (hbase i) hline (hs i), re_items h2⟩
theorem de_itemsV {y : Str} {py : Pos} (k : Nat) (hm : ∀ i, (XS i).mg "list" = none) (hN : ∀ i, (XS i).N[k]? = some y := by intro _; rfl) (hvis : ∀ i, Vis (XS i).env.scope y := by intro _; first | exact Or.inl rfl | exact Or.inr (Or.inl rfl) | exact Or.inr (Or.inr rfl)) (hd : (y == ("__debug__" : Str)) = false := by decide) (hcd : (y == ("__classdict__" : Str)) = false := by decide) (hc : ∀ i, (XS i).calm = true := by intro _; rfl) (hg : ∀ i, Gl (XS i) "list" := by intro _; rfl) (hv : bootBuiltins "list" = some (.type "list") := by decide +kernel) (hbase : ∀ i, attributeBase (.Name y py) "items" (XS i).env (eval (.Name y py) (XS i).env) = eval (.Name y py) (XS i).env := by intro _; rfl) (hline : (apos.endLine == cpos.line) = true := by rfl)
    (hs : ∀ i, starEach [.Call (.Attribute (.Name y py) "items" apos) [] [] cpos] (XS i).env = (false, eval (.Call (.Attribute (.Name y py) "items" apos) [] [] cpos) (XS i).env) :: starEach [] (XS i).env := by intro _; rfl) :
    DE XS w W (.Call (.Name "list" p) [.Call (.Attribute (.Name y py) "items" apos) [] [] cpos] [] pos) (seItemsV k) :=
  ⟨_, fun i => LiI.pe_listItems (hc i) (pe_var (hN i) (hvis i) hd hcd) (hg i) (hm i) hv (hbase i) hline (hs i), re_itemsV⟩
/-- y[i] = v, y a name with a dict of one's own -/
theorem ds_setD {ev ei : Expr} {y : Str} {pos pos' py : Pos} {sv si : SE} (k : Nat) (F : Fam P wl mg base w gb n XS) (hv : DE XS w W ev sv) (hi : DE XS w W ei si) (hN : ∀ i, (XS i).N[k]? = some y := by intro _; rfl) (hvis : ∀ i, Vis (XS i).env.scope y := by intro _; first | exact Or.inl rfl | exact Or.inr (Or.inl rfl) | exact Or.inr (Or.inr rfl)) (hd : (y == ("__debug__" : Str)) = false := by decide) (hcd : (y == ("__classdict__" : Str)) = false := by decide)
    (ha : ∀ i v, assign (.Subscript (.Name y py) ei pos') (XS i).env v = (do
      let ov ← holding [v] (eval (.Name y py) (XS i).env)
      let iv ← holding [v, ov] (eval ei (XS i).env)
      standAt pos'
      holding [v, ov, iv] (setItem ov iv v)
      release [v, ov, iv] []) := by intro _ _; rfl)
    (hs : ∀ i, swapsWithSole [.Subscript (.Name y py) ei pos'] ev pos.line (XS i).env = pure false := by intro _; rfl) (hw : ∀ i, swappedStores [.Subscript (.Name y py) ei pos'] ev (XS i).env = pure none := by intro _; rfl) (h1 : ∀ i, (assignEach [.Subscript (.Name y py) ei pos'] (XS i).env).map (·.2) = [assign (.Subscript (.Name y py) ei pos') (XS i).env] := by intro _; rfl) :
    DS XS w W (.Assign [.Subscript (.Name y py) ei pos'] ev pos) (ssSetD k sv si) := by
  obtain ⟨t, k1, k2⟩ := hv
  obtain ⟨u, l1, l2⟩ := hi
  exact ⟨_, fun i => ps_asg (k1 i) (pg_sub (pe_var (hN i) (hvis i) hd hcd) (l1 i) (set_dict (by have := (F.room i).units; omega)) (ha i)) (hs i) (hw i) (h1 i), rs_setD k2 l2⟩
end
end M7
/-! A def called without arguments. -/
namespace M7
open PySem PySem.Spec PyProof.Rows L2
section
variable {ι : Type} {XS : ι → Cx} {P : Program} {wl : World} {mg : Str → Option Value} {base : Heap} {w : WD} {W : WX} {x : Str} {p pos : Pos}
theorem pe_callM0 {X : Cx} {gb : Bool} {CX : CXT} {k : Nat} {f : Addr} {fd : FuncData} {ps : List Str} {sp : Sp} {E : L2.St → XK} (F : FnX gb X.prog X.w X.K X.mg X.base CX k f fd ps sp) (hgd : Gd gb X.A) (hr : Room k X.A) (hg : Gl X x) (hm : X.mg x = some (.ref f)) (hk : PySem.W.keepIn X.K (.ref f) = true) (hb : Binds X.K fd ps [])
    (hx : ∀ σ, PassesAt CX X σ (E σ)) (hdb : (x == ("__debug__" : Str)) = false) : PE X (.Call (.Name x p) [] [] pos) (tCallS sp E tNil) := by
  constructor
  intro pins s σ H Q I h
  apply wpAny_Call_Name_kw
  refine ld_glob I hg hm ?_ hdb
  have h : sp [] H Q (E σ) := h
  have hl : (([] : List Value) ++ []).length = ps.length := F.len [] _ _ _ h
  refine PySem.W.callWith_K0 I.kIn hk (wpAny_call (codeAny_mono (F.go X.A X.stack s H ⟨[], []⟩ [] [] Q (E σ) hgd hr I.env0 ?_ .nil h) fun res s2 hq => ?_))
  · have := hb s [] I.kIn hl
    rwa [List.append_nil] at this
  · cases res with
    | error e => exact hx σ pins H s e s2 I hq
    | ok fl =>
      cases fl with
      | ret u => exact I.after hq
      | next => exact hq.elim
      | brk => exact hq.elim
      | cont => exact hq.elim
theorem de_call0 {gb gb' b : Bool} {n k : Nat} {φ : Fn} (F : Fam P wl mg base w gb n XS) (tk : Tk b XS W) (c : Cal P wl mg base w gb' b k x φ) (hgb : gb' = true → gb = true := by decide) (hk : k ≤ n := by decide) (hg : ∀ i, Gl (XS i) x := by intro _; rfl) (hdb : (x == ("__debug__" : Str)) = false := by decide) :
    DE XS w W (.Call (.Name x p) [] [] pos) (seCall φ saNil) := by
  obtain ⟨f, ⟨fd, ps, c1, c2, c4⟩, c3⟩ := c
  refine ⟨_, fun i => ?_, re_call (E := WEb b W) WEb.of ra_nil⟩
  have t1 := tk.at i
  rw [F.prog i, F.wl i] at t1
  exact pe_callM0 (CX := CXb b P wl) (by rw [F.prog i, F.wl i, F.K i, F.mg i, F.base i]; exact c1) (fun z => F.gd i (hgb z)) ((F.room i).mono hk) (hg i) (by rw [F.mg i]; exact c3) (by rw [F.K i]; exact c4) (by rw [F.K i]; exact c2) t1 hdb
end
end M7
set_option maxHeartbeats 2000000
/-! enumerate(a tuple). -/
namespace M7
open PySem PySem.Spec PyProof.Rows L2
section
variable {w : WD} {W : WX} {π : Nat → V} {B B' B1 Z : Hp} {g : G} {σ : L2.St} {H H' : Hp} {v : V}
def en3 : List D → Option (List D)
  | [.tup ds] => some (enumD 0 ds)
  | _ => none
theorem ri_enumT {ta : TA} {sa : SA} (h : RA w W ta sa) : RI w W (R7.iEnumT w.K ta) (siV en3 sa) := fun π B Z g σ H R s q =>
  h π B Z g σ H _ s (Tail.bAI q fun rs g1 vs B1 H1 e1 s1 r1 q1 => by
    split at q1
    · rename_i ds hr
      have hd := r1.datas hr
      split at q1
      · rename_i es he
        unfold en3 at he
        split at he
        · rename_i ds
          cases he
          cases hd with
          | cons a t =>
            cases t
            cases a with
            | tup hb hx =>
              refine ⟨_, _, rfl, s1.sub.sqT hb, q1 _ B1 H1 (Ext.refl _) s1 ?_⟩
              refine walks_of R7.walk_enumT (by rw [enumD_len, hx.len]) (fun B2 H2 e2 s2 => s2.sqT (e2.sqT hb)) fun B2 i d H2 x H3 e2 s2 q2 y => ?_
              obtain ⟨e, k1, rfl⟩ := enumD_get q2
              rw [Nat.zero_add]
              exact ypair (B := B1) (ds := fun i => some (.int (i : Nat))) (fun i d q => by cases q; exact ⟨_, rfl, .int _⟩) (fun i d q => hx.get (i := i) (d := d) q) B2 i _ e H2 x H3 e2 s2 rfl k1 y
        · cases he
      · exact q1.elim
    · exact q1.elim)
theorem di_enumT {ι : Type} {XS : ι → Cx} {elts : List Expr} {kk : Nat} {tpos p pos : Pos} {e : Expr} {args : SA} (hm : ∀ i, (XS i).mg "enumerate" = none) (ha : DA XS w W [e] args) (hg : ∀ i, Gl (XS i) "enumerate" := by intro _; rfl) (hs : ∀ i, starEach [e] (XS i).env = [(false, eval e (XS i).env)] := by intro _; rfl) (hK : ∀ i, (XS i).K = w.K := by intro _; rfl) :
    DI XS w W (.Tuple elts kk tpos) (.Call (.Name "enumerate" p) [e] [] pos) (siV en3 args) := by
  obtain ⟨t, h1, h2⟩ := ha
  exact ⟨_, fun i => by rw [← hK i]; exact R7.pi_enumT (hg i) (hm i) (h1 i) (hs i), ri_enumT h2⟩
end
end M7
set_option maxHeartbeats 4000000
/-! An own exception's __init__: super().__init__(..); self.f = y. -/
namespace M7
open PySem PySem.Spec PyProof.Rows L2
theorem mw_call1 {M : Model} {A : Around} {E : Value → Shared → Prop} {s : Shared} {i : String} {u x : Addr} {pos : Pos} {env : Env} {e : Expr} {rest : List Expr} {Q : Value → Shared → Prop}
    (h : wpAny M A (spliced (backTo pos (starEach (e :: rest) env))) (fun vs s₁ => PySem.W.KxsAt i u x s₁.heap ∧ wpAny M A (call (.ref u) vs) Q E s₁) E s)
    (he : starEach (e :: rest) env = (false, eval e env) :: starEach rest env) (hplain : (backTo pos (starEach rest env)).any (·.1) = false) :
    wpAny M A (callWith pos (.ref u) [] (backTo pos (starEach (e :: rest) env)) []) Q E s := by
  rw [he] at h ⊢
  refine PySem.W.kxs_callWith (i := i) (x := x) (by show (false || (backTo pos (starEach rest env)).any (·.1)) = false; rw [hplain]; rfl) ?_
  exact Calls.evalArgs_plain h
/-- what the class at C must have for super().__init__ in its own __init__ -/
structure SupI (K : PySem.W.Frag) (C : Addr) : Prop where
  at_ : PySem.W.ks_superIn K C C "__init__" = some (some (.builtin "ValueError.__init__"))
  sub : PySem.W.mroIn K C (.ref C) = some true
  cls : (PySem.W.clsIn K C).isSome = true
  op : PySem.W.nsIn K cStatics "thirdparty.any" = some none
  ve : PySem.W.subIn K (.ref C) (.type "ValueError") = some true
  oex : OexC K C
section
variable {w : WD} {P : Program} {wl : World} {mg : Str → Option Value} {base : Heap}
theorem supinit_run {CX : CXT} {K : PySem.W.Frag} {qual file : Str} {scope : Scope} {N ps : List Str} {f cda cc C : Addr} {A : Around} {outer : List Env} {s0 s : Shared} {H0 H : Hp} {E : XK} {body : List Stmt} {p0 p1 p3 apos : Pos} {e : Expr} {te : TE} {pins : List (Addr × Obj)} {σ : L2.St}
    {ccl cdd vs ccs tf cl cld csl} {oc : Value} {od : Option Addr} {osl : Array (Option Value)} {fd : FuncData} {ar : Arg} {a : Addr}
    (S : ScopeS N ps scope) (U : SupX P mg file) (lk : K.lookup f = some ⟨oc, od, .func fd, osl⟩) (hp : (fd.params.posonlyargs ++ fd.params.args).head? = some ar) (h0 : N[0]? = some ar.arg) (har : scope.names.lookup ar.arg = some .local)
    (hcode : K.lookup cda = some ⟨ccl, cdd, .fields vs, ccs⟩) (hvs : vs[2]? = some (.str file tf)) (hcell : K.lookup cc = some ⟨cl, cld, .cell (some (.ref C)), csl⟩)
    (hS : SupI K C) (he : PE (cxS CX P wl K mg base N qual scope f cda cc A outer s0 H0 E) e te) (hte : ∀ Q : VK, (∀ x : Str, Q (.str x) H) → te σ H Q)
    {pl : Sem Bool} (ht : eval (.Call (.Attribute (.Call (.Name "super" p0) [] [] p1) "__init__" apos) [e] [] p3) (envS qual scope s0.heap.objs.size f cda cc) = (do
      let ov ← attributeBase (.Call (.Name "super" p0) [] [] p1) "__init__" (envS qual scope s0.heap.objs.size f cda cc) (eval (.Call (.Name "super" p0) [] [] p1) (envS qual scope s0.heap.objs.size f cda cc))
      standAt apos.atName
      let (g, first) ← holding [ov] (getMethod ov "__init__" pl)
      callWith p3 g first (backTo p3 (starEach [e] (envS qual scope s0.heap.objs.size f cda cc))) []))
    (hst : starEach [e] (envS qual scope s0.heap.objs.size f cda cc) = (false, eval e (envS qual scope s0.heap.objs.size f cda cc)) :: starEach [] (envS qual scope s0.heap.objs.size f cda cc))
    (I : Inv (cxS CX P wl K mg base N qual scope f cda cc A outer s0 H0 E) pins σ H s) (hs0 : σ[0]? = some (some (.ref a))) (ha : H a = some (exo a C none)) :
    _root_.PySem.wpAt (model P wl) (A.deeper (envS qual scope s0.heap.objs.size f cda cc)) (.func body (envS qual scope s0.heap.objs.size f cda cc)) (eval (.Call (.Attribute (.Call (.Name "super" p0) [] [] p1) "__init__" apos) [e] [] p3) (envS qual scope s0.heap.objs.size f cda cc))
      (EP (cxS CX P wl K mg base N qual scope f cda cc A outer s0 H0 E) pins σ (fun v H' => v = .non ∧ H' = H)) (cxS CX P wl K mg base N qual scope f cda cc A outer s0 H0 E).xe s := by
  have X : K.In s.heap := I.kIn
  obtain ⟨t1, ob⟩ := exo_at I.hok ha
  obtain ⟨hh, g, d, t, os⟩ := s
  obtain ⟨oD, cdD, hD1, hD2⟩ : ∃ oD cdD, hh.get? C = some oD ∧ oD.data = .cls cdD := by
    have := hS.cls
    unfold PySem.W.clsIn at this
    split at this
    · rename_i c d cd' sl ho
      exact ⟨_, cd', X _ _ ho, rfl⟩
    · cases this
  refine ks_wpAt_MethodCall (pl := pl) ?_ ht
  refine ks_wpAt_super_base (env := envS qual scope s0.heap.objs.size f cda cc) S.sup S.cls (by decide) rfl (X _ _ lk) rfl hp rfl (X _ _ hcode) rfl hvs U.file U.top ?_
  have hns : (base.Ns mainGlobals mg) := I.mod.glob
  obtain ⟨mb, hb1, hbb⟩ := I.mod.blt
  refine PySem.W.ks_loadName_global S.kind S.sup (Calls.loadGlobal_builtin (env := envS qual scope s0.heap.objs.size f cda cc) (hns.keeps I.bk) U.mg (hb1.keeps I.bk) ((hbb "super" (by decide)).trans (by first | rfl | kernel_rfl)) ⟨rfl, ?_⟩)
  refine wpAny_loadName_free S.kind S.cls rfl ⟨_, X _ _ hcell, rfl⟩ ?_
  obtain ⟨ml, hl1, hl2⟩ := I.loc
  obtain ⟨u, ru, look⟩ := hl2 0 ar.arg (.ref a) h0 hs0 (.inl har)
  obtain rfl : u = Value.ref a := ru
  have hml : ml ar.arg = some (.ref a) := by
    rcases look with ⟨_, e⟩ | ⟨e, _⟩
    · exact e
    · have har' : (envS qual scope s0.heap.objs.size f cda cc).kindOf ar.arg = some .local := har
      have e : (envS qual scope s0.heap.objs.size f cda cc).kindOf ar.arg = some .cell ∨ (envS qual scope s0.heap.objs.size f cda cc).kindOf ar.arg = some .free := e
      rw [har'] at e
      rcases e with e | e <;> cases e
  refine wpAny_loadName_local S.kind har hl1 hml ?_
  refine ks_wpAny_isType_cls hD1 hD2 ⟨rfl, ?_⟩
  refine ks_wpAny_call_super hD1 hD2 ob rfl (fun c e => by cases e) (PySem.W.looks_mroIn X hS.sub) (fun h' e' k => ?_)
  have I1 : Inv (cxS CX P wl K mg base N qual scope f cda cc A outer s0 H0 E) ((hh.objs.size, PySem.W.ks_superObj C a C) :: pins) σ H ⟨h', g, d, t, os⟩ := ClX.pin_new (s := ⟨hh, g, d, t, os⟩) (t' := t) I k (Nat.le_refl _) e' (fun v z => nomatch z)
  have X1 : K.In h' := I1.kIn
  obtain ⟨cdC, hcC⟩ : ∃ cd, PySem.W.clsIn K C = some cd := by
    cases z : PySem.W.clsIn K C with
    | none =>
      have := hS.cls
      rw [z] at this
      cases this
    | some cd => exact ⟨cd, rfl⟩
  have hal : PySem.W.alongIn K "__init__" ((cdC.mro.dropWhile (· != .ref C)).drop 1) = some (some (.builtin "ValueError.__init__")) := by
    have := hS.at_
    unfold PySem.W.ks_superIn at this
    rw [hcC] at this
    exact this
  have hne : a ≠ C := by
    rintro rfl
    unfold PySem.W.clsIn at hcC
    split at hcC
    · rename_i c d cd' sl ho
      have e := X _ _ ho
      rw [ob] at e
      cases e
    · cases hcC
  obtain ⟨t2, ob1⟩ := exo_at I1.hok ha
  have IA : PySem.W.InstAt h' a ({ cls := .ref C, dict := none, data := .fields #[.ref t2, .none, .none, .none, .bool false, .none] } : Obj) C none := ⟨ob1, rfl, rfl, trivial⟩
  refine PySem.W.kxs_getMethod PySem.W.kxs_ValueError e' (PySem.W.looks_opaque X1 hS.op) (l₀ := cdC.mro) (fun A Q E s k q => wpAny_bind ((PySem.W.looks_clsIn X1 hcC) A _ E s k (wpAny_pure q))) rfl X1 hal (IA.type.andThen (PySem.W.looks_subIn X1 hS.ve)) hne (by decide) ?_
  have kk : ∀ b o, h'.get? b = some o → (h'.push (PySem.W.kxs_mw "ValueError.__init__" a)).get? b = some o := fun b o e => Heap.get?_push_of_some _ e
  have I2 : Inv (cxS CX P wl K mg base N qual scope f cda cc A outer s0 H0 E) ((h'.objs.size, PySem.W.kxs_mw "ValueError.__init__" a) :: (hh.objs.size, PySem.W.ks_superObj C a C) :: pins) σ H ⟨h'.push (PySem.W.kxs_mw "ValueError.__init__" a), g, d, t + 1, os⟩ := ClX.pin_new (s := ⟨h', g, d, t, os⟩) (t' := t + 1) I1 kk (Nat.le_refl _) (Heap.get?_push_size _ rfl) (fun v z => nomatch z)
  have hrun := (pa_cons he pa_nil hst).run p3 _ _ σ H (fun us H1 => (∃ x : Str, us = [.str x]) ∧ H1 = H) I2 (hte _ fun x => ⟨⟨x, rfl⟩, rfl⟩)
  refine mw_call1 (i := "ValueError.__init__") (x := a) (thn hrun fun us s2 ⟨vs2, H2, I3, r, q⟩ => ?_) hst rfl
  obtain ⟨⟨x, rfl⟩, rfl⟩ := q
  have hu : s2.heap.get? h'.objs.size = some (PySem.W.kxs_mw "ValueError.__init__" a) := ClX.pin_at I3
  refine ⟨hu, ?_⟩
  have hlen : us.length ≤ sizeLine := by
    rw [← r.length, sizeLine_eq]
    show 1 ≤ 16777216
    decide
  obtain ⟨nm, q, NN, bs, bm, sn, sub, ab, col, dd, k0, k1, k2, k3, k5, hC, hbm⟩ := hS.oex.cls
  obtain ⟨t3, ob2⟩ := exo_at I3.hok ha
  have hC2 := I3.kIn _ _ hC
  obtain ⟨h2, g2, d2, tk2, os2⟩ := s2
  refine wpAny_call (codeAny_of_tree ?_)
  show wpAny _ _ (callAny (.ref h'.objs.size) ⟨us, []⟩) _ _ _
  simp only [callAny]
  refine wpAny_bind (wpAny_load hu ?_)
  simp only [PySem.W.kxs_mw, show (Value.type "method-wrapper" == Value.type "method" || Value.type "method-wrapper" == Value.type "builtin_function_or_method" || Value.type "method-wrapper" == Value.type "method-wrapper") = true by decide, if_true]
  refine PySem.W.KFB.if_so (by decide) ?_
  refine wpAny_bind (PySem.W.check_bound_init F.excBase_ValueError.toExcCallFacts hC2 ob2 rfl ?_)
  refine wpAny_bind (wpAny_pure (wpAny_pure ?_))
  refine ⟨PySem.plainId_quiet F.excBase_ValueError.init.plain _, codeAny_builtin F.excBase_ValueError.initEntry ?_⟩
  refine PySem.W.exc_init_tree (cls := .ref C) (t0 := t3) (dv := none) (c2 := .none) (c3 := .none) (b4 := .bool false) ob2 hlen fun h3 k3 ob3 _ => ?_
  have J := I3.write (t' := tk2) (x := a) (e := a) (o := exo a C none) (by rw [ha]; exact True.intro) (.inl rfl) k3 ⟨_, ob3⟩ (exo_ok ob3)
  have eu : upd H2 a (exo a C none) = H2 := by
    funext b
    by_cases hb : b = a
    · rw [hb, upd_same, ha]
    · rw [upd_ne hb]
  rw [eu] at J
  exact ClX.unpinE (ClX.unpinE ⟨.non, H2, J, rfl, rfl, rfl⟩)
end
end M7
set_option maxHeartbeats 4000000
/-! raise X(e), X an own exception class with an __init__ of the form: super().__init__(..); self.f = y. -/
namespace M7
open PySem PySem.Spec PyProof.Rows L2
/-- what such an __init__ does -/
def spI (C : Addr) (fld : Str) (okV : V → Prop) : Sp := fun vs H Q _ => ∃ a v, vs = [.ref a, v] ∧ okV v ∧ H a = some (exo a C none) ∧ ∀ dx, H dx = none → dx ≠ a → Q .non (upd (upd H dx (exd dx [(fld, v)])) a (exo a C (some dx)))
section
variable {w : WD} {P : Program} {wl : World} {mg : Str → Option Value} {base : Heap}
theorem init_X {b : Bool} {file qual fld y : Str} {st : Stmt} {C f : Addr} {fd : FuncData} {N : List Str} {k : Nat} {p0 p1 p3 p4 p5 p6 p7 p8 apos : Pos} {e : Expr} {okV : V → Prop} {pl : Sem Bool}
    (Fd : FunS w.K file "__init__" qual st C f fd) (S : ScopeS N ["self", y] (defScope st)) (U : SupX P mg file) (hN : N.length = 2) (hbd : Binds w.K fd ["self", y] [])
    (hst : defBody st = [.Expr (.Call (.Attribute (.Call (.Name "super" p0) [] [] p1) "__init__" apos) [e] [] p3) p4, .Assign [.Attribute (.Name "self" p5) fld p6] (.Name y p7) p8]) (har : ((defArgs st).posonlyargs ++ (defArgs st).args).head?.map (·.arg) = some "self")
    (hyd : (y == ("__debug__" : Str)) = false) (hyc : (y == ("__classdict__" : Str)) = false) (hS : SupI w.K C) (hno : PySem.W.findIn w.K (.ref C) fld = some none)
    (ht : ∀ env : Env, eval (.Call (.Attribute (.Call (.Name "super" p0) [] [] p1) "__init__" apos) [e] [] p3) env = (do
      let ov ← attributeBase (.Call (.Name "super" p0) [] [] p1) "__init__" env (eval (.Call (.Name "super" p0) [] [] p1) env)
      standAt apos.atName
      let (g, first) ← holding [ov] (getMethod ov "__init__" pl)
      callWith p3 g first (backTo p3 (starEach [e] env)) []))
    (hstar : ∀ env : Env, starEach [e] env = (false, eval e env) :: starEach [] env)
    (hi : ∀ (cda cc : Addr) (s : Shared), interactive (envS qual (defScope st) s.heap.objs.size f cda cc) = false) (hs1 : ∀ env : Env, swapsWith (.Call (.Attribute (.Call (.Name "super" p0) [] [] p1) "__init__" apos) [e] [] p3) none p4.line env = pure false) (hs2 : ∀ env : Env, swapsWith (.Name y p7) (some (.Attribute (.Name "self" p5) fld p6)) p8.line env = pure false)
    (hb : ∀ (cda cc : Addr) (A : Around) (outer : List Env) (sh : Shared) (H : Hp) (E : XK), ∃ te, PE (cxS (CXb b P wl) P wl w.K mg base N qual (defScope st) f cda cc A outer sh H E) e te ∧ ∀ (a : Addr) (v : V) (H : Hp) (Q : VK), okV v → (∀ x : Str, Q (.str x) H) → te (L2.start N [.ref a, v]) H Q) :
    FnX false P wl w.K mg base (CXb b P wl) (k + 1) f fd ["self", y] (spI C fld okV) := by
  obtain ⟨oc, od, kV, doc, pm, an, cda, ct, osl, cc, ccl, cdd, vs, ccs, tf, cl, cld, csl, rfl, lk, hcd, hcode, hvs, hcell⟩ := Fd.ex
  refine ⟨fun vs H Q E h => ?_, fun A outer s H args us vv Q E hgd hr e0 hbt r h => ?_⟩
  · obtain ⟨a, v, rfl, _⟩ := h
    rfl
  have KX : w.K.In s.heap := e0.mod.kin.keeps fun b o e => (e0.bs b o e).1
  have lim : s.heap.NoLimit := e0.mod.nolimit.keeps fun b o e => (e0.bs b o e).1
  obtain ⟨a, v, rfl, hv, ha, hq⟩ := h
  refine ks_codeAny_call_defAt hr.depth (KX _ _ lk) rfl lim (PySem.W.codeRec_of KX hcd) rfl hbt S.cell (fun x hx => S.par _ (List.of_mem_zip (show (x.1, x.2) ∈ _ from hx)).1) (fun h₁ hns hk => ?_) S.co S.gen S.kind
  obtain ⟨te, hpe, hte⟩ := hb cda cc A outer s H E
  have I := inv_S (CX := CXb b P wl) (P := P) (w := wl) (K := w.K) (mg := mg) (base := base) (N := N) (ps := ["self", y]) (qual := qual) (scope := defScope st) (f := f) (cda := cda) (cc := cc) (D := C) (A := A) (outer := outer) (s := s) (H := H) (E := E) (us := us) (vs := [.ref a, v]) (tk := s.toks + ((["self", y] : List Str).zip us).length) S hr.hd e0 rfl r hcell hns hk
  obtain ⟨ar, har1, har2⟩ : ∃ ar, ((defArgs st).posonlyargs ++ (defArgs st).args).head? = some ar ∧ ar.arg = "self" := by
    cases e : ((defArgs st).posonlyargs ++ (defArgs st).args).head? with
    | none => rw [e] at har; cases har
    | some ar => rw [e] at har; exact ⟨ar, rfl, by simpa using har⟩
  have hN0 : N[0]? = some ("self" : Str) := by
    have := S.pre
    match N, hN with
    | [n0, n1], _ => simp at this; simp [this.1]
  have hN1 : N[1]? = some y := by
    have := S.pre
    match N, hN with
    | [n0, n1], _ => simp at this; simp [this.2]
  have hstart0 : (L2.start N [.ref a, v])[0]? = some (some (.ref a)) := by
    match N, hN with
    | [n0, n1], _ => rfl
  have hstart1 : (L2.start N [.ref a, v])[1]? = some (some v) := by
    match N, hN with
    | [n0, n1], _ => rfl
  show _root_.PySem.wpAt (model P wl) (A.deeper (envS qual (defScope st) s.heap.objs.size f cda cc)) (.func (defBody st) (envS qual (defScope st) s.heap.objs.size f cda cc)) (execs (defBody st) (envS qual (defScope st) s.heap.objs.size f cda cc)) _ _ _
  rw [hst]
  refine ks_wpAt_execs_cons (ks_wpAt_Expr_any ?_ (hi cda cc s) (hs1 _))
  refine _root_.PySem.wpAt_mono (supinit_run (CX := CXb b P wl) (e := e) (te := te) (a := a) (C := C) S U lk har1 (by rw [har2]; exact hN0) (by rw [har2]; exact S.par _ (by simp)) hcode hvs hcell hS hpe (fun Q h => hte a v H Q hv h) (ht _) (hstar _) I hstart0 ha) (fun u s' hv => ?_) fun e s' he => he
  obtain ⟨v', H', J, rv, rfl, rfl⟩ := hv
  have self : PE (cxS (CXb b P wl) P wl w.K mg base N qual (defScope st) f cda cc A outer s H' E) (.Name "self" p5) (tVar 0) := pe_var hN0 (.inl (S.par _ (by simp))) (by decide) (by decide)
  have yy : PE (cxS (CXb b P wl) P wl w.K mg base N qual (defScope st) f cda cc A outer s H' E) (.Name y p7) (tVar 1) := pe_var hN1 (.inl (S.par _ (by simp))) hyd hyc
  have run := (pss_one (ps_ost (f := fld) (p' := p6) (pos := p8) self yy (hs2 _))).run [] s' _ H' { nx := fun _ H2 => Q .non H2, rt := Q } J ⟨v, hstart1, .ref a, hstart0, a, C, rfl, hS.oex, hno, .inl ⟨ha, hq⟩⟩
  refine _root_.PySem.wpAt_of_wpAny (wpAny_mono run (fun fl s2 hs => ?_) fun e s2 hs => hs)
  have fin : ∀ {σ' : L2.St} {H2 : Hp} {v : V} {u : Value}, Inv (cxS (CXb b P wl) P wl w.K mg base N qual (defScope st) f cda cc A outer s H' E) [] σ' H2 s2 → L2.RelV v u → Q v H2 → CE outer P wl H' s Q u s2 :=
    fun {σ' H2 v u} J rv q => ⟨v, H2, J.os, J.bare, J.base, J.hok, rv, q⟩
  cases fl with
  | ret u =>
    obtain ⟨v, σ', H2, J, rv, q⟩ := hs
    exact fin J rv q
  | next =>
    obtain ⟨σ', H2, J, q⟩ := hs
    exact fin (v := V.non) (u := Value.none) J rfl q
  | brk =>
    obtain ⟨_, _, _, q⟩ := hs
    exact False.elim q
  | cont =>
    obtain ⟨_, _, _, q⟩ := hs
    exact False.elim q
end
/-- facts of an exception class with such an __init__ -/
structure ExnI (P : Program) (wl : World) (mg : Str → Option Value) (base : Heap) (w : WD) (k : Nat) (y : Str) (x : XN) (fld : Str) (okV : V → Prop) : Prop where
  ex : ∃ (f : Addr) (fd : FuncData) (ps : List Str), PySem.W.findIn w.K (.ref (w.exc x)) "__init__" = some (some (.ref f)) ∧ PySem.W.typeIn w.K (.ref f) = some (.type "function") ∧ FnX false P wl w.K mg base (CXb false P wl) k f fd ps (spI (w.exc x) fld okV) ∧ Binds w.K fd ps []
  at_ : mg y = some (.ref (w.exc x))
  oex : OexC w.K (w.exc x)
  has : w.has x
/-- raise X(e) with a datum -/
def ssRaiseI (x : XN) (fld : Str) (ok : D → Bool) (se : SE) : SS := fun g => ofO (se g) fun r g1 => if ok r.2 = true then .ex x (some (.dct [(.inr fld, r.2)])) g1 else .fail
section
variable {w : WD} {W : WX} {π : Nat → V} {B B' B1 Z : Hp} {g : G} {σ : L2.St} {H H' : Hp} {v : V}
theorem Sat.xd {p : Addr} {fs : List (Str × V)} (s : Sat w π B Z g σ H) (hp : H p = none) : Sat w π B Z g σ (upd H p (.xd fs)) := s.grow (Ext.new hp)
theorem rs_raiseI {x : XN} {fld : Str} {ok : D → Bool} {okV : V → Prop} {te : TE} {se : SE} (hx : w.has x) (ho : ∀ B v d, Den w B v d → ok d = true → okV v) (h : RE w W te se) :
    RS w W (fun _ σ H => tMkO (w.exc x) (spI (w.exc x) fld okV) [] (tCons te tNil) σ H (fun cls d H' => W cls d σ H')) (ssRaiseI x fld ok se) := fun π B Z g σ H D s q => by
  refine h π B Z g σ H _ s (postS_E q fun o d g1 v B1 H1 e1 s1 r1 q1 => ?_)
  obtain ⟨B2, e2, s2, hd⟩ := r1.freeze s1
  split at q1
  · rename_i hok
    refine ⟨by simp, fun a ha => ?_⟩
    refine ⟨a, v, rfl, ho _ _ _ hd hok, upd_same, fun dx hdx hne => ?_⟩
    have hdx1 : H1 dx = none := by
      rw [upd_ne hne] at hdx
      exact hdx
    refine ⟨rfl, dx, [(fld, v)], upd_same, ?_, hdx1, ?_⟩
    · rw [upd_ne hne, upd_same]
    · have e : upd (del (upd (upd (upd H1 a (exo a (w.exc x) none)) dx (exd dx [(fld, v)])) a (exo a (w.exc x) (some dx))) a) dx (.xd [(fld, v)]) = upd H1 dx (.xd [(fld, v)]) := by
        funext b
        by_cases hb : b = dx
        · rw [hb, upd_same, upd_same]
        · rw [upd_ne hb, upd_ne hb]
          by_cases hba : b = a
          · rw [hba, del_same, ha]
          · rw [del_ne hba, upd_ne hba, upd_ne hb, upd_ne hba]
      rw [e]
      exact (q1.mono e2) hx (some dx) B2 _ σ (Ext.refl _) (s2.xd hdx1) ⟨dx, v, rfl, upd_same, hd⟩
  · exact q1.elim
end
section
variable {w : WD} {W : WX} {ι : Type} {XS : ι → Cx} {P : Program} {wl : World} {mg : Str → Option Value} {base : Heap} {gb : Bool} {n k : Nat} {e : Expr} {se : SE} {p pos pos' : Pos}
theorem ds_raiseI {y fld : Str} {x : XN} {ok : D → Bool} {okV : V → Prop} (F : Fam P wl mg base w gb n XS) (T : ExnI P wl mg base w k y x fld okV) (ho : ∀ B v d, Den w B v d → ok d = true → okV v) (tk : ∀ i, Takes (XS i) W) (h : DE XS w W e se) (hk : k + 1 ≤ n := by decide) (hc : ∀ i, (XS i).calm = true := by intro _; rfl) (hg : ∀ i, Gl (XS i) y := by intro _; rfl)
    (hs : ∀ i, starEach [e] (XS i).env = (false, eval e (XS i).env) :: starEach [] (XS i).env := by intro _; rfl) (hdb : (y == ("__debug__" : Str)) = false := by decide) : DS XS w W (.Raise (some (.Call (.Name y p) [e] [] pos)) none pos') (ssRaiseI x fld ok se) := by
  obtain ⟨t, h1, h2⟩ := h
  obtain ⟨f, fd, ps, k1, k2, k3, k4⟩ := T.ex
  refine ⟨_, fun i => ?_, rs_raiseI T.has ho h2⟩
  have z := pmk_oex (X := XS i) (CX := CXb false P wl) (x := y) (C := w.exc x) (fI := f) (k := k) (fd := fd) (ps := ps) (sp := spI (w.exc x) fld okV) (ds := []) (dvs := []) (p := p) (pos := pos) (by rw [F.K i]; exact T.oex) (by rw [F.K i]; exact k1) (by rw [F.K i]; exact k2) (by rw [F.prog i, F.wl i, F.K i, F.mg i, F.base i]; exact k3.ok) ((F.room i).mono hk) (by rw [F.K i]; exact k4) .nil ?_ (hg i) (by rw [F.mg i]; exact T.at_) (pa_cons (h1 i) pa_nil (hs i)) hdb (hs i)
  · exact ps_raise (hc i) (tk i) z
  · exact fun pins σ H s e s' I z => z.elim
end
end M7
/-! A lambda handed to: try: return (v0, a()) / except X as error: return (w0, error.f). -/
namespace M7
open PySem PySem.Spec PyProof.Rows L2
section
variable {w : WD} {W : WX} {π : Nat → V} {B B' B2 Z : Hp} {g g1 : G} {σ σ' : L2.St} {H H' H1 : Hp} {v : V}
def fldOf (fld : Str) : Option D → Option D
  | some (.dct [(.inr n, d)]) => if n = fld then some d else none
  | _ => none
def seOutF (x : XN) (v0 w0 fld : Str) (se : SE) : SE := fun g => match se (offG g) with
  | .ok r _ => .ok (false, .tup [.str v0, r.2]) g
  | .ex y f _ => if y = x then match fldOf fld f with
    | some d => .ok (false, .tup [.str w0, d]) g
    | none => .fail else .fail
  | .fail => .fail
def TOutF (K : PySem.W.Frag) (CE : Addr) (v0 w0 fld : Str) : (XK → Hp → VK → Prop) → Hp → VK → Prop := fun tl H Q =>
  tl (fun cls d H' => PySem.W.exmOne K cls (.ref CE) = some true ∧ cls = .ref CE ∧ ∃ dd v, d = some dd ∧ H' dd = some (.xd [(fld, v)]) ∧ ∀ t, H' t = none → Q (.ref t) (upd H' t (.tup [.str w0, v]))) H (fun v H' => 2 ≤ sizeLine ∧ ∀ t, H' t = none → Q (.ref t) (upd H' t (.tup [.str v0, v])))
theorem fldOf_some {fld : Str} {f : Option D} {d : D} (h : fldOf fld f = some d) : f = some (.dct [(.inr fld, d)]) := by
  unfold fldOf at h
  split at h
  · split at h
    · rename_i e
      cases h
      rw [e]
    · cases h
  · cases h
theorem re_outF {T : List (Addr × Str)} {t : XK → TE} {se : SE} {mt : XN → Bool} {x : XN} {v0 w0 fld : Str} (hT : TabsOf w T) (hm : Ctc w (.ref (w.exc x)) mt) (hmx : mt x = true) (h : ∀ E : XK, RE w (fun cls d _ H => E cls d H) (t E) se) : RE w W (LamX.tLam T (TOutF w.K (w.exc x) v0 w0 fld) t) (seOutF x v0 w0 fld se) := fun π B Z g σ H Q s q => by
  refine ⟨s.tabs hT, fun H1 n ht => ?_⟩
  have s1 := s.made hT n ht
  refine h _ π B (guardZ Z H1 g σ []) (offG g) σ H1 _ s1.off ?_
  unfold seOutF at q
  cases e : se (offG g) with
  | ok r g1 =>
    rw [e] at q
    obtain ⟨o, d⟩ := r
    intro v B' H' e' t' r'
    obtain ⟨B2, e2, s2, hd⟩ := r'.freeze t'
    have s3 := s1.on (e'.trans e2) s2
    refine ⟨by decide, fun p hp => ?_⟩
    exact q _ _ _ ((e'.trans e2).trans (Ext.new (s3.sub.none hp))) (s3.newB hp) (Den.tup (xs := [.str v0, v]) (.inl (.inl upd_same)) (.cons (.str _) (.cons (hd.mono (Ext.new (s3.sub.none hp))) .nil)))
  | ex y f g1 =>
    rw [e] at q
    simp only at q
    split at q
    · rename_i hy
      subst hy
      split at q
      · rename_i d hf
        have ef := fldOf_some hf
        subst ef
        intro hx dd B' H' σ' e' t' xo
        obtain ⟨a, v, rfl, hxd, hd⟩ := xo
        have s3 := s1.on e' t'
        refine ⟨by rw [hm y hx, hmx], rfl, a, v, rfl, hxd, fun p hp => ?_⟩
        exact q _ _ _ (e'.trans (Ext.new (s3.sub.none hp))) (s3.newB hp) (Den.tup (xs := [.str w0, v]) (.inl (.inl upd_same)) (.cons (.str _) (.cons (hd.mono (Ext.new (s3.sub.none hp))) .nil)))
      · exact q.elim
    · exact q.elim
  | fail =>
    rw [e] at q
    exact q.elim
end
section
variable {P : Program} {wl : World} {mg : Str → Option Value} {base : Heap} {w : WD} {W : WX} {ι : Type} {XS : ι → Cx}
structure OutKF (P : Program) (wl : World) (mg : Str → Option Value) (base : Heap) (w : WD) (x v0 w0 fld : Str) (xn : XN) : Prop where
  ex : ∃ (g : Addr) (mt : XN → Bool) (a : Str) (Ng : List Str) (pg : Arguments) (bg : List Stmt) (sg : Scope) (dV kV doc pm cdv ct oc : Value) (an od : Option Addr) (osl : Array (Option Value)),
    mg x = some (.ref g) ∧ PySem.W.keepIn w.K (.ref g) = true ∧ w.K.lookup g = some ⟨oc, od, .func (PySem.W.fnOf x x pg bg sg dV kV doc pm an cdv ct), osl⟩ ∧ PySem.W.codeIn w.K cdv x = true ∧ L2.Binds w.K (PySem.W.fnOf x x pg bg sg dV kV doc pm an cdv ct) [a] [] ∧ FnScope Ng [a] sg ∧ Ng[0]? = some a ∧ Vis sg a ∧
    Ctc w (.ref (w.exc xn)) mt ∧ mt xn = true ∧ (∀ X : Cx, X.prog = P → X.w = wl → X.K = w.K → X.mg = mg → X.base = base → ∀ q, LamX.GivesTo X Ng x sg g cdv bg a q (TOutF w.K (w.exc xn) v0 w0 fld)) ∧ (a == ("__debug__" : Str)) = false ∧ (a == ("__classdict__" : Str)) = false
theorem de_outF {gb : Bool} {k : Nat} {T : List (Addr × Str)} {c Pt : Addr} {x v0 w0 fld q0 : Str} {xn : XN} {params : Arguments} {body : Expr} {scope : Scope} {p lpos pos : Pos} {se : SE} (F : Fam P wl mg base w gb (k + 2) XS) (OU : OutKF P wl mg base w x v0 w0 fld xn) (hT : TabsOf w T) (TB : LamX.TabB base mg c Pt) (hP : w.tn Pt = some (q0 ++ "<lambda>"))
    (hb : ∀ E : XK, DE (lamS XS scope k E) w (fun cls d _ H => E cls d H) body se) (hL : ∀ i, LamX.LamS (XS i).env.scope scope)
    (hcode : ∀ i, (XS i).env.code = .ref c := by intro _; rfl) (hq : ∀ i, (XS i).env.qual = q0 := by intro _; rfl) (hg : ∀ i, Gl (XS i) x := by intro _; rfl) (hdef : ∀ i, defaultsOf params (XS i).env = ([], []) := by intro _; rfl)
    (hbind : ∀ (q : Str) (cl : List (Str × Addr)) (pm cv ctv : Value), bindArgs (PySem.W.kla_fn "<lambda>" q params body scope cl pm cv ctv) ⟨[], []⟩ = pure [] := by intro _ _ _ _ _; rfl)
    (hdb : (x == ("__debug__" : Str)) = false := by decide) : DE XS w W (.Call (.Name x p) [.Lambda params body scope lpos] [] pos) (seOutF xn v0 w0 fld se) := by
  obtain ⟨g, mt, a, Ng, pg, bg, sg, dV, kV, doc, pm, cdv, ct, oc, an, od, osl, h1, h2, h3, h4, h5, h6, h7, h8, h9, h9b, h10, h11, h12⟩ := OU.ex
  refine ⟨LamX.tLam T (TOutF w.K (w.exc xn) v0 w0 fld) fun E => (hb E).choose, fun i => ?_, re_outF hT h9 h9b fun E => (hb E).choose_spec.2⟩
  have hmem : (Pt, (XS i).env.qual ++ "<lambda>") ∈ T := by rw [hq i]; exact hT.all _ _ hP
  exact LamX.pe_lamcall (hg i) (by rw [F.mg i]; exact h1) (by rw [F.K i]; exact h2) (by rw [F.K i]; exact h3) (by rw [F.K i]; exact h4) (by rw [F.K i]; exact h5) h6 h7 h8
    (h10 _ (F.prog i) (F.wl i) (F.K i) (F.mg i) (F.base i) _) (by rw [F.base i, F.mg i]; exact TB) (hcode i) hmem (fun p hp e => by
      have := hT.of p hp
      rw [e, hP] at this
      rw [hq i]
      exact (Option.some.inj this).symm) (F.room i) (hL i) (hdef i) hbind
    (fun A outer s H E f c' hr => (hb E).choose_spec.1 ⟨i, A, outer, s, H, f, c', hr⟩) hdb h11 h12
end
end M7
/-! text.isdigit(), text.split(t), isinstance(x, (A, B)). -/
namespace M7
open PySem PySem.Spec PyProof.Rows L2
section
variable {w : WD} {W : WX} {π : Nat → V} {B B' B2 Z : Hp} {g g1 : G} {σ σ' : L2.St} {H H' H1 : Hp} {v : V}
def seM0 (f : D → Option (Bool × D)) (sa : SB) : SE := fun g => (sa g).bind fun r1 g1 => match r1.get g1 with
  | some (.str z) => ofOpt g1 (f (.str z))
  | _ => .fail
theorem re_m0 {r : V → List V → Hp → VK → Prop} {f : D → Option (Bool × D)} {ta : TE} {sa : SB} (hf : ∀ π B Z g σ H Q z, Sat w π B Z g σ H → PostF w π B Z g σ Q (f (.str z)) → r (.str z) [] H Q) (ha : RB w W ta sa) : RE w W (tM0 r ta) (seM0 f sa) := fun π B Z g σ H Q s q =>
  ha π B Z g σ H _ s (tailE.bB q fun a g1 v B1 H1 e1 s1 r1 q1 => by
    split at q1
    · rename_i z hx
      have ev := lk_str (s1.lk r1 hx)
      subst ev
      exact ⟨⟨z, rfl⟩, hf π B1 Z g1 σ H1 Q z s1 (postE_opt q1)⟩
    · exact q1.elim)
def dIsdigit : D → Option (Bool × D)
  | .str a => some (false, .bl (Txt.isdigit a))
  | _ => none
def dSplit : D → D → Option (Bool × D)
  | .str a, .str b => if (b.length == 0) = false ∧ a.length + 2 ≤ sizeLine then some (true, .lst ((Txt.split a b).map .str)) else none
  | _, _ => none
theorem strs_dens (B : Hp) : ∀ ys : List Str, Dens w B (ys.map V.str) (ys.map M7.D.str)
  | [] => .nil
  | y :: ys => .cons (.str _) (strs_dens B ys)
theorem od_split : OpD w (fun x y H Q => (fun x xs H Q => ∃ a b, x = V.str a ∧ xs = [V.str b] ∧ (b.length == 0) = false ∧ a.length + 2 ≤ sizeLine ∧ rNewStrs (Txt.split a b) H Q) x [y] H Q) dSplit := fun π B Z g σ H Q v u d e s h1 h2 q => by
  cases d <;> first | exact q.elim | skip
  cases e <;> first | exact q.elim | skip
  rename_i a b
  unfold dSplit at q
  simp only at q
  split at q
  · rename_i hc
    exact ⟨a, b, lk_str h1, by rw [lk_str h2], hc.1, hc.2, fun p hp => fin_L s q (strs_dens B _) hp⟩
  · exact q.elim
def orT (a b : TK → Option Bool) : TK → Option Bool := fun k => match a k, b k with
  | some x, some y => some (x || y)
  | _, _ => none
def tIsi2 (K : PySem.W.Frag) (c1 c2 : V) (tx : TE) : TE := tCB (rIsiT K) (tCons tx (tCons (tTup (tCons (tC c1) (tCons (tC c2) tNil))) tNil))
theorem re_isi2 {u1 u2 : Value} {c1 c2 : V} {t1 t2 : TK → Option Bool} {tx : TE} {sb : SB} (h1 : ClsV c1 u1) (h2 : ClsV c2 u2) (F1 : IsiF w u1 t1) (F2 : IsiF w u2 t2) (h : RB w W tx sb) : RE w W (tIsi2 w.K c1 c2 tx) (seIsi (orT t1 t2) sb) := fun π B Z g σ H Q s q =>
  h π B Z g σ H _ s (tailE.bB q fun r g1 v B1 H1 e1 s1 r1 q1 => by
    split at q1
    · rename_i b hb
      cases k1 : r.get g1 with
      | none => rw [k1] at hb; cases hb
      | some d =>
        rw [k1] at hb
        have hb : (tkD d).bind (orT t1 t2) = some b := hb
        cases k2 : tkD d with
        | none => rw [k2] at hb; cases hb
        | some k =>
          rw [k2] at hb
          have hb : orT t1 t2 k = some b := hb
          unfold orT at hb
          split at hb
          · rename_i x y hx hy
            cases hb
            obtain ⟨f1, f2⟩ := F1 k x hx
            obtain ⟨f3, _⟩ := F2 k y hy
            refine ⟨(show 2 ≤ sizeLine by decide), fun p hp => ?_⟩
            have s2 := s1.grow (Ext.new (o := .tup [c1, c2]) hp)
            refine ⟨v, p, [c1, c2], _, [u1, u2], x || y, rfl, upd_same, .cons h1 (.cons h2 .nil), lk_ty s2.sub (s2.lk r1 k1) k2 f2, ?_, q1 _ B1 _ (Ext.refl _) s2 (.bl _)⟩
            refine kitAny_cons f1 (fun hx0 => ?_) (fun hx0 => by rw [hx0]; rfl)
            rw [hx0]
            refine kitAny_cons f3 (fun hy0 => ?_) (fun hy0 => by rw [hy0]; rfl)
            rw [hy0]
            exact kitAny_nil
          · cases hb
    · exact q1.elim)
end
section
variable {w : WD} {W : WX} {ι : Type} {XS : ι → Cx} {e o : Expr} {sa sb : SB} {apos pos p p2 p3 pt : Pos}
theorem de_isdigit (ha : DB XS w W o sa) (hbase : ∀ i, attributeBase o "isdigit" (XS i).env (eval o (XS i).env) = eval o (XS i).env := by intro _; rfl) (hline : (apos.endLine == pos.line) = true := by rfl) :
    DE XS w W (.Call (.Attribute o "isdigit" apos) [] [] pos) (seM0 dIsdigit sa) := by
  obtain ⟨t, h1, h2⟩ := ha
  refine ⟨_, fun i => ?_, re_m0 (r := fun x xs H Q => ∃ a, x = .str a ∧ xs = [] ∧ True ∧ Q (.bl (Txt.isdigit a)) H) (fun π B Z g σ H Q z s q => ⟨z, rfl, rfl, trivial, fin_d s q (.bl _)⟩) h2⟩
  exact pe_m0 (apos := apos) (pos := pos) F.slot_str_isdigit F.type_str_isdigit mt_isdigit (h1 i) (hbase i) hline
theorem de_split (ha : DB XS w W o sa) (hb : DB XS w W e sb) (hs : ∀ i, starEach [e] (XS i).env = [(false, eval e (XS i).env)] := by intro _; rfl) (hbase : ∀ i, attributeBase o "split" (XS i).env (eval o (XS i).env) = eval o (XS i).env := by intro _; rfl) (hline : (apos.endLine == pos.line) = true := by rfl) :
    DE XS w W (.Call (.Attribute o "split" apos) [e] [] pos) (seM1 dSplit sa sb) := by
  obtain ⟨t, h1, h2⟩ := ha
  obtain ⟨u, k1, k2⟩ := hb
  refine ⟨_, fun i => ?_, re_m1 (r := fun x xs H Q => ∃ a b, x = .str a ∧ xs = [.str b] ∧ (b.length == 0) = false ∧ a.length + 2 ≤ sizeLine ∧ rNewStrs (Txt.split a b) H Q) od_split h2 k2⟩
  exact pe_m1 (apos := apos) (pos := pos) F.slot_str_split F.type_str_split mt_split (h1 i) (k1 i) (hs i) (hbase i) hline
/-- isinstance(x, (A, B)) -/
theorem de_isi2 {mg : Str → Option Value} {C1 C2 : Addr} {y1 y2 : Str} {t1 t2 : TK → Option Bool} {kk : Nat} (hm : mg "isinstance" = none) (hy1 : mg y1 = some (.ref C1)) (hy2 : mg y2 = some (.ref C2)) (F1 : IsiF w (.ref C1) t1) (F2 : IsiF w (.ref C2) t2) (h : DB XS w W e sb) (hmg : ∀ i, (XS i).mg = mg := by intro _; rfl) (hK : ∀ i, (XS i).K = w.K := by intro _; rfl) (hg : ∀ i, Gl (XS i) "isinstance" := by intro _; rfl) (hg1 : ∀ i, Gl (XS i) y1 := by intro _; rfl) (hg2 : ∀ i, Gl (XS i) y2 := by intro _; rfl)
    (hdb1 : (y1 == ("__debug__" : Str)) = false := by decide) (hdb2 : (y2 == ("__debug__" : Str)) = false := by decide) (he : ∀ i, starEach [e, .Tuple [.Name y1 p2, .Name y2 p3] kk pt] (XS i).env = (false, eval e (XS i).env) :: starEach [.Tuple [.Name y1 p2, .Name y2 p3] kk pt] (XS i).env := by intro _; rfl) (he2 : ∀ i, starEach [.Tuple [.Name y1 p2, .Name y2 p3] kk pt] (XS i).env = (false, eval (.Tuple [.Name y1 p2, .Name y2 p3] kk pt) (XS i).env) :: starEach [] (XS i).env := by intro _; rfl)
    (he3 : ∀ i, starEach [.Name y1 p2, .Name y2 p3] (XS i).env = (false, eval (.Name y1 p2) (XS i).env) :: starEach [.Name y2 p3] (XS i).env := by intro _; rfl) (he4 : ∀ i, starEach [.Name y2 p3] (XS i).env = (false, eval (.Name y2 p3) (XS i).env) :: starEach [] (XS i).env := by intro _; rfl)
    (hpl : ∀ i, (backTo pos (starEach [.Tuple [.Name y1 p2, .Name y2 p3] kk pt] (XS i).env)).any (·.1) = false := by intro _; rfl) : DE XS w W (.Call (.Name "isinstance" p) [e, .Tuple [.Name y1 p2, .Name y2 p3] kk pt] [] pos) (seIsi (orT t1 t2) sb) := by
  obtain ⟨t, h1, h2⟩ := h
  refine ⟨_, fun i => ?_, re_isi2 (.own C1) (.own C2) F1 F2 h2⟩
  have z := pe_callB (X := XS i) (p := p) (pos := pos) call_isiT (hg i) (by rw [hmg i]; exact hm) boot_isinstance (pa_cons (h1 i) (pa_cons (pe_tup (pa_cons (pe_glob (v := .ref C1) (pos := p2) (hg1 i) (by rw [hmg i]; exact hy1) rfl hdb1) (pa_cons (pe_glob (v := .ref C2) (pos := p3) (hg2 i) (by rw [hmg i]; exact hy2) rfl hdb2) pa_nil (he4 i)) (he3 i))) pa_nil (he2 i)) (he i)) (by decide) (by decide) (he i) (hpl i)
  rw [hK i] at z
  exact z
end
end M7
/-! The datum of TextError. -/
namespace M7
open PySem PySem.Spec PyProof.Rows L2
def okVI (v : V) : Prop := ∃ i : Int, v = .int i ∧ i.natAbs.log2 < 1920
def okDI : D → Bool
  | .int i => decide (i.natAbs.log2 < 1920)
  | _ => false
theorem okI_of {w : WD} : ∀ (B : Hp) (v : V) (d : D), Den w B v d → okDI d = true → okVI v := fun B v d h k => by
  cases d <;> first | cases k | skip
  cases h
  exact ⟨_, rfl, of_decide_eq_true k⟩
end M7
set_option maxHeartbeats 400000
namespace M7
open PySem PySem.Spec PyProof.Rows L2
def top (i : Nat) : Stmt := PySem.Challenge.pw_rodturns_k06_plain_texts.main.body.getD i (.Pass ⟨0, 0, 0, 0⟩)
def fuel : Nat := 1000000
def mt_TextError : XN → Bool := fun y => decide (y = .text)
def mt_FoldError : XN → Bool := fun _ => true
def ss_is_integer : SS := (ssRet (seAnd (seIsi tInt (sbVar 0)) (seNot (seIsi tBool (sbVar 0)))))
abbrev φ_is_integer : Fn := bodyFn 1 1 ss_is_integer
def ss_letter_at : SS := (ssSeq (ssIf (stAnd (stB (seOp dLt (sbVar 1) (sbOf (seCB dLen (saCons (sbVar 0) saNil))))) (stB (seOp (dIn false) (sbOf (seOp dIx (sbVar 0) (sbVar 1))) (sbVar 2)))) (ssRet (seOp dIx (sbVar 0) (sbVar 1))) ssNext)
    (ssRet (seC (.str ""))))
abbrev φ_letter_at : Fn := bodyFn 3 3 ss_letter_at
def ss_length_size : SS := (ssSeq (ssIf (stB (seOp dEq (sbOf (seCall φ_letter_at (saCons (sbVar 0) (saCons (sbVar 1) (saCons (sbOf (seC (.str "123456789"))) saNil))))) (sbOf (seC (.str ""))))) (ssRet (seC (.int 0))) ssNext)
    (ssSeq (ssIf (stAnd (stB (seOp dNe (sbOf (seCall φ_letter_at (saCons (sbVar 0) (saCons (sbOf (seOp dAdd (sbVar 1) (sbOf (seC (.int 1))))) (saCons (sbOf (seC (.str "0123456789"))) saNil))))) (sbOf (seC (.str ""))))) (stB (seOp dLe (sbOf (seCB dIntC (saCons (sbOf (seSl dSl (sbVar 0) (soSome (seVar 1)) (soSome (seOp dAdd (sbVar 1) (sbOf (seC (.int 2))))))) saNil))) (sbVar 2)))) (ssRet (seC (.int 2))) ssNext)
    (ssRet (seC (.int 1)))))
abbrev φ_length_size : Fn := bodyFn 3 3 ss_length_size
def ss_cut : SS := (ssSeq (ssIf (stNot (stB (seIsi tStr (sbVar 0)))) (ssRaiseI .text "place" okDI (seC (.int 0))) ssNext)
    (ssSeq (ssAsg (seLst saNil) (sgName 5))
    (ssSeq (ssAsg (seLst saNil) (sgName 6))
    (ssSeq (ssAsg (seLst saNil) (sgName 7))
    (ssSeq (ssAsg (seC (.int 0)) (sgName 8))
    (loopW (stB (seC (.bl true))) (ssSeq (ssAsg (seCall φ_length_size (saCons (sbVar 0) (saCons (sbVar 8) (saCons (sbVar 2) saNil)))) (sgName 9))
    (ssSeq (ssIf (stB (seOp dEq (sbVar 9) (sbOf (seC (.int 0))))) (ssRaiseI .text "place" okDI (seVar 8)) ssNext)
    (ssSeq (ssDrop (seMutV isLst 5 fAppend (saCons (sbOf (seCB dIntC (saCons (sbOf (seSl dSl (sbVar 0) (soSome (seVar 8)) (soSome (seOp dAdd (sbVar 8) (sbVar 9))))) saNil))) saNil)))
    (ssSeq (ssAsg (seCall φ_letter_at (saCons (sbVar 0) (saCons (sbOf (seOp dAdd (sbVar 8) (sbVar 9))) (saCons (sbVar 4) saNil)))) (sgName 10))
    (ssSeq (ssDrop (seMutV isLst 7 fAppend (saCons (sbOf (seVar 10)) saNil)))
    (ssSeq (ssAugI (fun i j => i + j) 8 (seOp dAdd (sbVar 9) (sbOf (seCB dLen (saCons (sbVar 10) saNil)))))
    (ssSeq (ssIf (stB (seOp dEq (sbVar 8) (sbOf (seCB dLen (saCons (sbVar 0) saNil))))) (ssRet (seTup (saCons (sbOf (seVar 5)) (saCons (sbOf (seVar 6)) (saCons (sbOf (seVar 7)) saNil))))) ssNext)
    (ssSeq (ssAsg (seCall φ_letter_at (saCons (sbVar 0) (saCons (sbVar 8) (saCons (sbVar 3) saNil)))) (sgName 11))
    (ssSeq (ssIf (stOr (stB (seOp dEq (sbVar 11) (sbOf (seC (.str ""))))) (stB (seOp dEq (sbOf (seCB dLen (saCons (sbVar 5) saNil))) (sbVar 1)))) (ssRaiseI .text "place" okDI (seVar 8)) ssNext)
    (ssSeq (ssDrop (seMutV isLst 6 fAppend (saCons (sbOf (seVar 11)) saNil)))
    (ssAugI (fun i j => i + j) 8 (seC (.int 1))))))))))))) fuel))))))
abbrev φ_cut : Fn := bodyFn 5 12 ss_cut
def ss_Rule_is_rod : SS := (ssRet (seAnd (seCall φ_is_integer (saCons (sbVar 0) saNil)) (seChain dLe dLe (sbOf (seC (.int 1))) (sbVar 0) (sbOf (seC (.int 40))))))
abbrev φ_Rule_is_rod : Fn := bodyFn 1 1 ss_Rule_is_rod
def ss_Rule___init : SS := (ssSeq (ssIf (stNot (stB (seChain dLe dLe (sbOf (seC (.int 1))) (sbOf (seCB dLen (saCons (sbVar 1) saNil))) (sbOf (seC (.int 12)))))) ssNo ssNext)
    (ssSeq (ssIf (stNot (stB (seCB dAll (saCons (sbOf (seLc (siOf (seVar 1)) (sgName 2) (fun g => .ok true g) (seCall φ_Rule_is_rod (saCons (sbVar 2) saNil)) [2])) saNil)))) ssNo ssNext)
    (ssSetF isRule 0 "_rods" (seVar 1))))
abbrev φ_Rule___init : Fn := bodyFn 2 3 ss_Rule___init
def ss_Rule_rods : SS := (ssRet (seCB dList (saCons (sbOf (seFld isRule "_rods" (sbVar 0))) saNil)))
abbrev φ_Rule_rods : Fn := bodyFn 1 1 ss_Rule_rods
def ss_Rule_options : SS := (ssRet seDNew)
abbrev φ_Rule_options : Fn := bodyFn 1 1 ss_Rule_options
def ss_Rule_plain : SS := (ssSeq (ssAsg (seOp dIx (sbOf (seCall φ_cut (saCons (sbVar 1) (saCons (sbOf (seC (.int 12))) (saCons (sbOf (seC (.int 40))) (saCons (sbOf (seC (.str "-"))) (saCons (sbOf (seC (.str ""))) saNil))))))) (sbOf (seC (.int 0)))) (sgName 2))
    (ssRet (seMakeSv .rule φ_Rule___init id 0 (seVar 2))))
abbrev φ_Rule_plain : Fn := bodyFn 2 3 ss_Rule_plain
def ss_check_rule : SS := (ssIf (stNot (stB (seIsi (tCls (onRules true true true true)) (sbVar 0)))) ssNo ssNext)
abbrev φ_check_rule : Fn := bodyFn 1 1 ss_check_rule
def tb_options : CN → Option Fn
  | .rule => some φ_Rule_options
  | _ => none
def ss_all_options : SS := (ssSeq (ssAsg (seMeth "options" tb_options (sbVar 0) saNil) (sgName 1))
    (ssRet (seDc (siOf (seC (.tup [.str "straight", .str "folded", .str "right", .str "left"]))) (sgName 2) (fun g => .ok true g) (seVar 2) (seDGet2 (sbVar 1) (sbVar 2) (sbOf (seTup saNil))) [2])))
abbrev φ_all_options : Fn := bodyFn 1 3 ss_all_options
def ss_hinge_mark : SS := (ssSeq (ssIf (stB (seOp (dIn false) (sbVar 0) (sbOf (seOp dDGet (sbVar 1) (sbOf (seC (.str "straight"))))))) (ssRet (seC (.str "="))) ssNext)
    (ssSeq (ssIf (stB (seOp (dIn false) (sbVar 0) (sbOf (seOp dDGet (sbVar 1) (sbOf (seC (.str "folded"))))))) (ssRet (seC (.str "~"))) ssNext)
    (ssRet (seC (.str "-")))))
abbrev φ_hinge_mark : Fn := bodyFn 2 2 ss_hinge_mark
def ss_aim_mark : SS := (ssSeq (ssIf (stB (seOp (dIn false) (sbVar 0) (sbOf (seOp dDGet (sbVar 1) (sbOf (seC (.str "right"))))))) (ssRet (seC (.str ">"))) ssNext)
    (ssSeq (ssIf (stB (seOp (dIn false) (sbVar 0) (sbOf (seOp dDGet (sbVar 1) (sbOf (seC (.str "left"))))))) (ssRet (seC (.str "<"))) ssNext)
    (ssRet (seC (.str "")))))
abbrev φ_aim_mark : Fn := bodyFn 2 2 ss_aim_mark
def tb_rods : CN → Option Fn
  | .rule => some φ_Rule_rods
  | .held => some φ_Rule_rods
  | .aimed => some φ_Rule_rods
  | .bound => some φ_Rule_rods
  | _ => none
def ss_written_b0 : SS := (ssSeq (ssDrop (seMutV isLst 3 fAppend (saCons (sbOf (jsL [seFmt (seVar 5), seFmt (seCall φ_aim_mark (saCons (sbVar 4) (saCons (sbVar 2) saNil)))] Str.empty)) saNil)))
    (ssIf (stB (seOp dLt (sbVar 4) (sbOf (seCB dLen (saCons (sbVar 1) saNil))))) (ssDrop (seMutV isLst 3 fAppend (saCons (sbOf (seCall φ_hinge_mark (saCons (sbVar 4) (saCons (sbVar 2) saNil)))) saNil))) ssNext))
def ss_written : SS := (ssSeq (ssDrop (seCall φ_check_rule (saCons (sbVar 0) saNil)))
    (ssSeq (ssAsg (seProp tb_rods (sbVar 0)) (sgName 1))
    (ssSeq (ssAsg (seCall φ_all_options (saCons (sbVar 0) saNil)) (sgName 2))
    (ssSeq (ssAsg (seLst saNil) (sgName 3))
    (ssSeq (ssFor (siV (enK 1) (saCons (sbOf (seVar 1)) saNil)) (sgTup 2 (sgCons (sgName 4) (sgCons (sgName 5) sgNil))) ss_written_b0)
    (ssRet (seM1 dJoin (sbOf (seC (.str ""))) (sbVar 3))))))))
abbrev φ_written : Fn := bodyFn 1 6 ss_written
section
variable {w : WD} {P : Program} {wl : World} {mg : Str → Option Value} {base : Heap}
abbrev st_is_integer : Stmt := top 8
theorem sc_is_integer : FnScope ["thing"] ["thing"] (defScope st_is_integer) := ⟨rfl, rfl, rfl, by decide +kernel, rfl, by decide +kernel, by decide +kernel⟩
theorem def_is_integer {f : Addr} {fd : FuncData} (Fd : Fun w.K "is_integer" "is_integer" st_is_integer f fd) (m_isinstance : mg "isinstance" = none) (m_int : mg "int" = none) (m_bool : mg "bool" = none) : Def P wl mg base w false false 1 f φ_is_integer := by
  refine def_D (ss := ss_is_integer) Fd sc_is_integer (Fd.binds (ps := ["thing"]) fun _ _ _ _ _ _ us hl => match us, hl with | [_], _ => rfl) fun cdv A outer sh H E hgd hrm => ?_
  have fam : Fam P wl mg base w false 0 (fun _ : Unit => cxOf (CXb false P wl) P wl w.K mg base ["thing"] "is_integer" (defScope st_is_integer) f cdv A outer sh H E) := ⟨fun _ => rfl, fun _ => rfl, fun _ => rfl, fun _ => rfl, fun _ => rfl, fun _ => hgd, fun _ => hrm⟩
  exact (dss_one (ds_ret (de_and (de_isiT m_isinstance m_int (by decide +kernel) isi_int (db_var 0)) (de_one (de_not (de_isiT m_isinstance m_bool (by decide +kernel) isi_bool (db_var 0)))))))
abbrev st_letter_at : Stmt := top 20
theorem sc_letter_at : FnScope ["text", "at", "letters"] ["text", "at", "letters"] (defScope st_letter_at) := ⟨rfl, rfl, rfl, by decide +kernel, rfl, by decide +kernel, by decide +kernel⟩
theorem def_letter_at {f : Addr} {fd : FuncData} (Fd : Fun w.K "letter_at" "letter_at" st_letter_at f fd) (m_len : mg "len" = none) : Def P wl mg base w false false 1 f φ_letter_at := by
  refine def_D (ss := ss_letter_at) Fd sc_letter_at (Fd.binds (ps := ["text", "at", "letters"]) fun _ _ _ _ _ _ us hl => match us, hl with | [_, _, _], _ => rfl) fun cdv A outer sh H E hgd hrm => ?_
  have fam : Fam P wl mg base w false 0 (fun _ : Unit => cxOf (CXb false P wl) P wl w.K mg base ["text", "at", "letters"] "letter_at" (defScope st_letter_at) f cdv A outer sh H E) := ⟨fun _ => rfl, fun _ => rfl, fun _ => rfl, fun _ => rfl, fun _ => rfl, fun _ => hgd, fun _ => hrm⟩
  exact (dss_cons (ds_if (dt_of (dw_and (dt_cmp (fun _ => op_ltU) od_cmp (db_var 1) (db_of (de_callB (fun _ => call_len) cd_len (fun _ => m_len) (by decide +kernel) (da_cons (db_var 0) da_nil)))) (dw_and1 (dt_cmp (fun _ => op_inU) od_in (db_of (de_ix (fun _ => ix_seq) od_ix (db_var 0) (db_var 1))) (db_var 2))))) (dss_one (ds_ret (de_ix (fun _ => ix_seq) od_ix (db_var 0) (db_var 1)))) dss_nil)
    (dss_one (ds_ret de_str)))
abbrev st_length_size : Stmt := top 19
theorem sc_length_size : FnScope ["text", "at", "most_length"] ["text", "at", "most_length"] (defScope st_length_size) := ⟨rfl, rfl, rfl, by decide +kernel, rfl, by decide +kernel, by decide +kernel⟩
theorem def_length_size {f : Addr} {fd : FuncData} (Fd : Fun w.K "length_size" "length_size" st_length_size f fd) (g_FIRST_DIGITS : Gcn w mg "FIRST_DIGITS" (.str "123456789")) (c_letter_at : Cal P wl mg base w false false 1 "letter_at" φ_letter_at) (g_DIGITS : Gcn w mg "DIGITS" (.str "0123456789")) (m_int : mg "int" = none) : Def P wl mg base w false false 2 f φ_length_size := by
  refine def_D (ss := ss_length_size) Fd sc_length_size (Fd.binds (ps := ["text", "at", "most_length"]) fun _ _ _ _ _ _ us hl => match us, hl with | [_, _, _], _ => rfl) fun cdv A outer sh H E hgd hrm => ?_
  have fam : Fam P wl mg base w false 1 (fun _ : Unit => cxOf (CXb false P wl) P wl w.K mg base ["text", "at", "most_length"] "length_size" (defScope st_length_size) f cdv A outer sh H E) := ⟨fun _ => rfl, fun _ => rfl, fun _ => rfl, fun _ => rfl, fun _ => rfl, fun _ => hgd, fun _ => hrm⟩
  exact (dss_cons (ds_if (dt_cmp (fun i => op_eqD (Fam.room fam i).units) od_eq (db_of (de_call fam Tk.no c_letter_at (da_cons (db_var 0) (da_cons (db_var 1) (da_cons (db_of (de_gc g_FIRST_DIGITS)) da_nil))))) (db_of de_str)) (dss_one (ds_ret de_int)) dss_nil)
    (dss_cons (ds_if (dt_of (dw_and (dt_cmp (fun i => op_neD (Fam.room fam i).units) od_ne (db_of (de_call fam Tk.no c_letter_at (da_cons (db_var 0) (da_cons (db_of (de_bin (fun _ => op_addU) od_add (db_var 1) (db_of de_int))) (da_cons (db_of (de_gc g_DIGITS)) da_nil))))) (db_of de_str)) (dw_and1 (dt_cmp (fun _ => op_leU) od_cmp (db_of (de_callTy (fun _ => call_intC) cd_intC (fun _ => m_int) (by decide +kernel) (da_cons (db_of (de_sl (db_var 0) (do_some (de_var 1)) (do_some (de_bin (fun _ => op_addU) od_add (db_var 1) (db_of de_int))))) da_nil))) (db_var 2))))) (dss_one (ds_ret de_int)) dss_nil)
    (dss_one (ds_ret de_int))))
abbrev st_cut : Stmt := top 18
theorem sc_cut : FnScope ["text", "most_rods", "most_length", "hinges", "aims", "lengths", "between", "aimed", "at", "size", "aim", "mark"] ["text", "most_rods", "most_length", "hinges", "aims"] (defScope st_cut) := ⟨rfl, rfl, rfl, by decide +kernel, rfl, by decide +kernel, by decide +kernel⟩
theorem def_cut {f : Addr} {fd : FuncData} (Fd : Fun w.K "cut" "cut" st_cut f fd) (m_isinstance : mg "isinstance" = none) (m_str : mg "str" = none) (xi_TextError : ExnI P wl mg base w 1 "TextError" .text "place" okVI) (c_length_size : Cal P wl mg base w false false 2 "length_size" φ_length_size) (m_int : mg "int" = none) (c_letter_at : Cal P wl mg base w false false 1 "letter_at" φ_letter_at) (m_len : mg "len" = none) : Def P wl mg base w false true 3 f φ_cut := by
  refine def_D (ss := ss_cut) Fd sc_cut (Fd.binds (ps := ["text", "most_rods", "most_length", "hinges", "aims"]) fun _ _ _ _ _ _ us hl => match us, hl with | [_, _, _, _, _], _ => rfl) fun cdv A outer sh H E hgd hrm => ?_
  have fam : Fam P wl mg base w false 2 (fun _ : Unit => cxOf (CXb true P wl) P wl w.K mg base ["text", "most_rods", "most_length", "hinges", "aims", "lengths", "between", "aimed", "at", "size", "aim", "mark"] "cut" (defScope st_cut) f cdv A outer sh H E) := ⟨fun _ => rfl, fun _ => rfl, fun _ => rfl, fun _ => rfl, fun _ => rfl, fun _ => hgd, fun _ => hrm⟩
  exact (dss_cons (ds_if (dt_not (dt_val (de_isiT m_isinstance m_str (by decide +kernel) isi_str (db_var 0)))) (dss_one (ds_raiseI fam xi_TextError okI_of (fun _ => takes_of rfl rfl rfl rfl) de_int)) dss_nil)
    (dss_cons (ds_set 5 (fun _ => sc_cut.nd) (de_lst da_nil))
    (dss_cons (ds_set 6 (fun _ => sc_cut.nd) (de_lst da_nil))
    (dss_cons (ds_set 7 (fun _ => sc_cut.nd) (de_lst da_nil))
    (dss_cons (ds_set 8 (fun _ => sc_cut.nd) de_int)
    (dss_one (ds_while fuel (fun _ => passes_of rfl) (dt_val de_bl) (dss_cons (ds_set 9 (fun _ => sc_cut.nd) (de_call fam Tk.no c_length_size (da_cons (db_var 0) (da_cons (db_var 8) (da_cons (db_var 2) da_nil)))))
    (dss_cons (ds_if (dt_cmp (fun i => op_eqD (Fam.room fam i).units) od_eq (db_var 9) (db_of de_int)) (dss_one (ds_raiseI fam xi_TextError okI_of (fun _ => takes_of rfl rfl rfl rfl) (de_var 8))) dss_nil)
    (dss_cons (ds_expr (de_mutV 5 (fun _ _ _ _ => own_list) PySem.F.plainAttrs_list PySem.F.slot_list_append PySem.F.type_list_append (fun _ => mt_append) mv_append (da_cons (db_of (de_callTy (fun _ => call_intC) cd_intC (fun _ => m_int) (by decide +kernel) (da_cons (db_of (de_sl (db_var 0) (do_some (de_var 8)) (do_some (de_bin (fun _ => op_addU) od_add (db_var 8) (db_var 9))))) da_nil))) da_nil)))
    (dss_cons (ds_set 10 (fun _ => sc_cut.nd) (de_call fam Tk.no c_letter_at (da_cons (db_var 0) (da_cons (db_of (de_bin (fun _ => op_addU) od_add (db_var 8) (db_var 9))) (da_cons (db_var 4) da_nil)))))
    (dss_cons (ds_expr (de_mutV 7 (fun _ _ _ _ => own_list) PySem.F.plainAttrs_list PySem.F.slot_list_append PySem.F.type_list_append (fun _ => mt_append) mv_append (da_cons (db_of (de_var 10)) da_nil)))
    (dss_cons (ds_augI 8 (fun _ => ip_add) (fun _ => sc_cut.nd) (de_bin (fun _ => op_addU) od_add (db_var 9) (db_of (de_callB (fun _ => call_len) cd_len (fun _ => m_len) (by decide +kernel) (da_cons (db_var 10) da_nil)))))
    (dss_cons (ds_if (dt_cmp (fun i => op_eqD (Fam.room fam i).units) od_eq (db_var 8) (db_of (de_callB (fun _ => call_len) cd_len (fun _ => m_len) (by decide +kernel) (da_cons (db_var 0) da_nil)))) (dss_one (ds_ret (de_tup (da_cons (db_of (de_var 5)) (da_cons (db_of (de_var 6)) (da_cons (db_of (de_var 7)) da_nil)))))) dss_nil)
    (dss_cons (ds_set 11 (fun _ => sc_cut.nd) (de_call fam Tk.no c_letter_at (da_cons (db_var 0) (da_cons (db_var 8) (da_cons (db_var 3) da_nil)))))
    (dss_cons (ds_if (dt_of (dw_or (dt_cmp (fun i => op_eqD (Fam.room fam i).units) od_eq (db_var 11) (db_of de_str)) (dw_or1 (dt_cmp (fun i => op_eqD (Fam.room fam i).units) od_eq (db_of (de_callB (fun _ => call_len) cd_len (fun _ => m_len) (by decide +kernel) (da_cons (db_var 5) da_nil))) (db_var 1))))) (dss_one (ds_raiseI fam xi_TextError okI_of (fun _ => takes_of rfl rfl rfl rfl) (de_var 8))) dss_nil)
    (dss_cons (ds_expr (de_mutV 6 (fun _ _ _ _ => own_list) PySem.F.plainAttrs_list PySem.F.slot_list_append PySem.F.type_list_append (fun _ => mt_append) mv_append (da_cons (db_of (de_var 11)) da_nil)))
    (dss_one (ds_augI 8 (fun _ => ip_add) (fun _ => sc_cut.nd) de_int)))))))))))))))))))
abbrev st_Rule_is_rod : Stmt := inClass (top 23) 7
theorem sc_Rule_is_rod : FnScope ["thing"] ["thing"] (defScope st_Rule_is_rod) := ⟨rfl, rfl, rfl, by decide +kernel, rfl, by decide +kernel, by decide +kernel⟩
theorem def_Rule_is_rod {f : Addr} {fd : FuncData} (Fd : Fun w.K "is_rod" "Rule.is_rod" st_Rule_is_rod f fd) (c_is_integer : Cal P wl mg base w false false 1 "is_integer" φ_is_integer) (v_Rule_MOST_LENGTH : CVl w mg "Rule" .rule "MOST_LENGTH" (.int 40)) : Def P wl mg base w false false 2 f φ_Rule_is_rod := by
  refine def_D (ss := ss_Rule_is_rod) Fd sc_Rule_is_rod (Fd.binds (ps := ["thing"]) fun _ _ _ _ _ _ us hl => match us, hl with | [_], _ => rfl) fun cdv A outer sh H E hgd hrm => ?_
  have fam : Fam P wl mg base w false 1 (fun _ : Unit => cxOf (CXb false P wl) P wl w.K mg base ["thing"] "Rule.is_rod" (defScope st_Rule_is_rod) f cdv A outer sh H E) := ⟨fun _ => rfl, fun _ => rfl, fun _ => rfl, fun _ => rfl, fun _ => rfl, fun _ => hgd, fun _ => hrm⟩
  exact (dss_one (ds_ret (de_and (de_call fam Tk.no c_is_integer (da_cons (db_var 0) da_nil)) (de_one (de_chain (fun _ => op_leU) od_cmp dCmp_bool (fun _ => op_leU) od_cmp (db_of de_int) (db_var 0) (db_of (de_cval v_Rule_MOST_LENGTH)))))))
abbrev st_Rule___init : Stmt := inClass (top 23) 2
theorem sc_Rule___init : FnScope ["self", "rods", "rod"] ["self", "rods"] (defScope st_Rule___init) := ⟨rfl, rfl, rfl, by decide +kernel, rfl, by decide +kernel, by decide +kernel⟩
theorem body_Rule___init {f : Addr} (m_len : mg "len" = none) (v_Rule_MOST_RODS : CVl w mg "Rule" .rule "MOST_RODS" (.int 12)) (s_Rule_is_rod : Stc P wl mg base w false 2 "Rule" "is_rod" .rule φ_Rule_is_rod) (m_all : mg "all" = none) (a_rods : NoA w isRule "_rods") (cdv : Value) (A : Around) (outer : List Env) (sh : Shared) (H : Hp) (E : XK) (hrm : Room 2 (A.deeper (envOfC "Rule.__init__" (defScope st_Rule___init) sh.heap.objs.size f cdv))) :
    DSs (fun _ : Unit => cxOf (CXb false P wl) P wl w.K mg base ["self", "rods", "rod"] "Rule.__init__" (defScope st_Rule___init) f cdv A outer sh H E) w (fun cls d _ H => E cls d H) (defBody st_Rule___init) ss_Rule___init := by
  have fam : Fam P wl mg base w false 2 (fun _ : Unit => cxOf (CXb false P wl) P wl w.K mg base ["self", "rods", "rod"] "Rule.__init__" (defScope st_Rule___init) f cdv A outer sh H E) := ⟨fun _ => rfl, fun _ => rfl, fun _ => rfl, fun _ => rfl, fun _ => rfl, fun _ => (fun z => nomatch z), fun _ => hrm⟩
  exact (dss_cons (ds_if (dt_not (dt_chain (fun _ => op_leU) od_cmp dCmp_bool (fun _ => op_leU) od_cmp (db_of de_int) (db_of (de_callB (fun _ => call_len) cd_len (fun _ => m_len) (by decide +kernel) (da_cons (db_var 1) da_nil))) (db_of (de_cval v_Rule_MOST_RODS)))) (dss_one ds_no) dss_nil)
    (dss_cons (ds_if (dt_not (dt_val (de_callB (fun _ => cr_all rfl) cd_all (fun _ => m_all) (by decide +kernel) (da_cons (db_of (de_lc [("rod", 2)] (fun _ => sc_Rule___init.nd) (fun _ => blkOk_by (N := ["self", "rods", "rod"]) (sc := defScope st_Rule___init) (by decide +kernel)) (di_U (de_var 1)) (dg_name (vs := [2]) 2 (by decide) (fun _ => sc_Rule___init.nd)) dts_nil (de_scall (Fam.blk fam _) s_Rule_is_rod (da_cons (db_var 2) da_nil)))) da_nil)))) (dss_one ds_no) dss_nil)
    (dss_one (ds_setF 0 a_rods (de_var 1)))))
abbrev st_Rule_rods : Stmt := inClass (top 23) 3
theorem sc_Rule_rods : FnScope ["self"] ["self"] (defScope st_Rule_rods) := ⟨rfl, rfl, rfl, by decide +kernel, rfl, by decide +kernel, by decide +kernel⟩
theorem def_Rule_rods {f : Addr} {fd : FuncData} (Fd : Fun w.K "rods" "Rule.rods" st_Rule_rods f fd) (a_rods : NoA w isRule "_rods") (m_list : mg "list" = none) : Def P wl mg base w false false 1 f φ_Rule_rods := by
  refine def_D (ss := ss_Rule_rods) Fd sc_Rule_rods (Fd.binds (ps := ["self"]) fun _ _ _ _ _ _ us hl => match us, hl with | [_], _ => rfl) fun cdv A outer sh H E hgd hrm => ?_
  have fam : Fam P wl mg base w false 0 (fun _ : Unit => cxOf (CXb false P wl) P wl w.K mg base ["self"] "Rule.rods" (defScope st_Rule_rods) f cdv A outer sh H E) := ⟨fun _ => rfl, fun _ => rfl, fun _ => rfl, fun _ => rfl, fun _ => rfl, fun _ => hgd, fun _ => hrm⟩
  exact (dss_one (ds_ret (de_callTy (fun _ => call_list_of) cd_list (fun _ => m_list) (by decide +kernel) (da_cons (db_of (de_fld a_rods (db_var 0))) da_nil))))
abbrev st_Rule_options : Stmt := inClass (top 23) 6
theorem sc_Rule_options : FnScope ["self"] ["self"] (defScope st_Rule_options) := ⟨rfl, rfl, rfl, by decide +kernel, rfl, by decide +kernel, by decide +kernel⟩
theorem def_Rule_options {f : Addr} {fd : FuncData} (Fd : Fun w.K "options" "Rule.options" st_Rule_options f fd) : Def P wl mg base w false false 1 f φ_Rule_options := by
  refine def_D (ss := ss_Rule_options) Fd sc_Rule_options (Fd.binds (ps := ["self"]) fun _ _ _ _ _ _ us hl => match us, hl with | [_], _ => rfl) fun cdv A outer sh H E hgd hrm => ?_
  have fam : Fam P wl mg base w false 0 (fun _ : Unit => cxOf (CXb false P wl) P wl w.K mg base ["self"] "Rule.options" (defScope st_Rule_options) f cdv A outer sh H E) := ⟨fun _ => rfl, fun _ => rfl, fun _ => rfl, fun _ => rfl, fun _ => rfl, fun _ => hgd, fun _ => hrm⟩
  exact (dss_one (ds_ret de_dnew))
abbrev st_Rule_plain : Stmt := inClass (top 23) 8
theorem sc_Rule_plain : FnScope ["cls", "text", "rods"] ["cls", "text"] (defScope st_Rule_plain) := ⟨rfl, rfl, rfl, by decide +kernel, rfl, by decide +kernel, by decide +kernel⟩
theorem def_Rule_plain {f : Addr} {fd : FuncData} (Fd : Fun w.K "plain" "Rule.plain" st_Rule_plain f fd) (g_NO_AIMS : Gcn w mg "NO_AIMS" (.str "")) (g_FREE : Gcn w mg "FREE" (.str "-")) (v_Rule_MOST_LENGTH : CVl w mg "Rule" .rule "MOST_LENGTH" (.int 40)) (v_Rule_MOST_RODS : CVl w mg "Rule" .rule "MOST_RODS" (.int 12)) (c_cut : Cal P wl mg base w false true 3 "cut" φ_cut) (k_Rule_ : Mak P wl mg base w false 3 .rule [] φ_Rule___init id) : Def P wl mg base w false true 5 f φ_Rule_plain := by
  refine def_D (ss := ss_Rule_plain) Fd sc_Rule_plain (Fd.binds (ps := ["cls", "text"]) fun _ _ _ _ _ _ us hl => match us, hl with | [_, _], _ => rfl) fun cdv A outer sh H E hgd hrm => ?_
  have fam : Fam P wl mg base w false 4 (fun _ : Unit => cxOf (CXb true P wl) P wl w.K mg base ["cls", "text", "rods"] "Rule.plain" (defScope st_Rule_plain) f cdv A outer sh H E) := ⟨fun _ => rfl, fun _ => rfl, fun _ => rfl, fun _ => rfl, fun _ => rfl, fun _ => hgd, fun _ => hrm⟩
  exact (dss_cons (ds_set 2 (fun _ => sc_Rule_plain.nd) (de_ix (fun _ => ix_seq) od_ix (db_of (de_call fam (Tk.of (fun _ => takes_of rfl rfl rfl rfl)) c_cut (da_cons (db_var 1) (da_cons (db_of (de_cval v_Rule_MOST_RODS)) (da_cons (db_of (de_cval v_Rule_MOST_LENGTH)) (da_cons (db_of (de_gc g_FREE)) (da_cons (db_of (de_gc g_NO_AIMS)) da_nil))))))) (db_of de_int)))
    (dss_one (ds_ret (de_makeSv 0 fam Tk.no k_Rule_ (de_var 2)))))
abbrev st_check_rule : Stmt := top 26
theorem sc_check_rule : FnScope ["thing"] ["thing"] (defScope st_check_rule) := ⟨rfl, rfl, rfl, by decide +kernel, rfl, by decide +kernel, by decide +kernel⟩
theorem def_check_rule {f : Addr} {fd : FuncData} (Fd : Fun w.K "check_rule" "check_rule" st_check_rule f fd) (m_isinstance : mg "isinstance" = none) (gm_Rule : mg "Rule" = some (.ref (w.cls .rule))) (i_Rule : IsiF w (.ref (w.cls .rule)) (tCls (onRules true true true true))) : Def P wl mg base w false false 1 f φ_check_rule := by
  refine def_D (ss := ss_check_rule) Fd sc_check_rule (Fd.binds (ps := ["thing"]) fun _ _ _ _ _ _ us hl => match us, hl with | [_], _ => rfl) fun cdv A outer sh H E hgd hrm => ?_
  have fam : Fam P wl mg base w false 0 (fun _ : Unit => cxOf (CXb false P wl) P wl w.K mg base ["thing"] "check_rule" (defScope st_check_rule) f cdv A outer sh H E) := ⟨fun _ => rfl, fun _ => rfl, fun _ => rfl, fun _ => rfl, fun _ => rfl, fun _ => hgd, fun _ => hrm⟩
  exact (dss_one (ds_if (dt_not (dt_val (de_isiC m_isinstance gm_Rule i_Rule (db_var 0)))) (dss_one ds_no) dss_nil))
abbrev st_all_options : Stmt := top 27
theorem sc_all_options : FnScope ["rule", "given", "name"] ["rule"] (defScope st_all_options) := ⟨rfl, rfl, rfl, by decide +kernel, rfl, by decide +kernel, by decide +kernel⟩
theorem def_all_options {f : Addr} {fd : FuncData} (Fd : Fun w.K "all_options" "all_options" st_all_options f fd) (o_options : Mets P wl mg base w false false 1 "options" tb_options) (g_OPTIONS : Gcn w mg "OPTIONS" (.tup [.str "straight", .str "folded", .str "right", .str "left"])) : Def P wl mg base w false false 2 f φ_all_options := by
  refine def_D (ss := ss_all_options) Fd sc_all_options (Fd.binds (ps := ["rule"]) fun _ _ _ _ _ _ us hl => match us, hl with | [_], _ => rfl) fun cdv A outer sh H E hgd hrm => ?_
  have fam : Fam P wl mg base w false 1 (fun _ : Unit => cxOf (CXb false P wl) P wl w.K mg base ["rule", "given", "name"] "all_options" (defScope st_all_options) f cdv A outer sh H E) := ⟨fun _ => rfl, fun _ => rfl, fun _ => rfl, fun _ => rfl, fun _ => rfl, fun _ => hgd, fun _ => hrm⟩
  exact (dss_cons (ds_set 1 (fun _ => sc_all_options.nd) (de_meth0 fam Tk.no o_options (db_var 0)))
    (dss_one (ds_ret (de_dc [("name", 2)] (fun _ => sc_all_options.nd) (fun _ => blkOk_by (N := ["rule", "given", "name"]) (sc := defScope st_all_options) (by decide +kernel)) (di_U (de_gc g_OPTIONS)) (dg_name (vs := [2]) 2 (by decide) (fun _ => sc_all_options.nd)) dts_nil (de_var 2) (de_dget2 (Fam.blk fam _) (db_var 1) (db_var 2) (db_of (de_tup da_nil)))))))
abbrev st_hinge_mark : Stmt := top 32
theorem sc_hinge_mark : FnScope ["hinge", "given"] ["hinge", "given"] (defScope st_hinge_mark) := ⟨rfl, rfl, rfl, by decide +kernel, rfl, by decide +kernel, by decide +kernel⟩
theorem def_hinge_mark {f : Addr} {fd : FuncData} (Fd : Fun w.K "hinge_mark" "hinge_mark" st_hinge_mark f fd) (g_STRAIGHT : Gcn w mg "STRAIGHT" (.str "=")) (g_FOLDED : Gcn w mg "FOLDED" (.str "~")) (g_FREE : Gcn w mg "FREE" (.str "-")) : Def P wl mg base w false false 1 f φ_hinge_mark := by
  refine def_D (ss := ss_hinge_mark) Fd sc_hinge_mark (Fd.binds (ps := ["hinge", "given"]) fun _ _ _ _ _ _ us hl => match us, hl with | [_, _], _ => rfl) fun cdv A outer sh H E hgd hrm => ?_
  have fam : Fam P wl mg base w false 0 (fun _ : Unit => cxOf (CXb false P wl) P wl w.K mg base ["hinge", "given"] "hinge_mark" (defScope st_hinge_mark) f cdv A outer sh H E) := ⟨fun _ => rfl, fun _ => rfl, fun _ => rfl, fun _ => rfl, fun _ => rfl, fun _ => hgd, fun _ => hrm⟩
  exact (dss_cons (ds_if (dt_cmp (fun _ => op_inU) od_in (db_var 0) (db_of (de_dget fam (db_var 1) (db_of de_str) (fun _ _ => rfl)))) (dss_one (ds_ret (de_gc g_STRAIGHT))) dss_nil)
    (dss_cons (ds_if (dt_cmp (fun _ => op_inU) od_in (db_var 0) (db_of (de_dget fam (db_var 1) (db_of de_str) (fun _ _ => rfl)))) (dss_one (ds_ret (de_gc g_FOLDED))) dss_nil)
    (dss_one (ds_ret (de_gc g_FREE)))))
abbrev st_aim_mark : Stmt := top 33
theorem sc_aim_mark : FnScope ["rod", "given"] ["rod", "given"] (defScope st_aim_mark) := ⟨rfl, rfl, rfl, by decide +kernel, rfl, by decide +kernel, by decide +kernel⟩
theorem def_aim_mark {f : Addr} {fd : FuncData} (Fd : Fun w.K "aim_mark" "aim_mark" st_aim_mark f fd) (g_RIGHT : Gcn w mg "RIGHT" (.str ">")) (g_LEFT : Gcn w mg "LEFT" (.str "<")) : Def P wl mg base w false false 1 f φ_aim_mark := by
  refine def_D (ss := ss_aim_mark) Fd sc_aim_mark (Fd.binds (ps := ["rod", "given"]) fun _ _ _ _ _ _ us hl => match us, hl with | [_, _], _ => rfl) fun cdv A outer sh H E hgd hrm => ?_
  have fam : Fam P wl mg base w false 0 (fun _ : Unit => cxOf (CXb false P wl) P wl w.K mg base ["rod", "given"] "aim_mark" (defScope st_aim_mark) f cdv A outer sh H E) := ⟨fun _ => rfl, fun _ => rfl, fun _ => rfl, fun _ => rfl, fun _ => rfl, fun _ => hgd, fun _ => hrm⟩
  exact (dss_cons (ds_if (dt_cmp (fun _ => op_inU) od_in (db_var 0) (db_of (de_dget fam (db_var 1) (db_of de_str) (fun _ _ => rfl)))) (dss_one (ds_ret (de_gc g_RIGHT))) dss_nil)
    (dss_cons (ds_if (dt_cmp (fun _ => op_inU) od_in (db_var 0) (db_of (de_dget fam (db_var 1) (db_of de_str) (fun _ _ => rfl)))) (dss_one (ds_ret (de_gc g_LEFT))) dss_nil)
    (dss_one (ds_ret de_str))))
abbrev st_written : Stmt := top 31
theorem sc_written : FnScope ["rule", "rods", "given", "parts", "k", "length"] ["rule"] (defScope st_written) := ⟨rfl, rfl, rfl, by decide +kernel, rfl, by decide +kernel, by decide +kernel⟩
theorem def_written {f : Addr} {fd : FuncData} (Fd : Fun w.K "written" "written" st_written f fd) (c_check_rule : Cal P wl mg base w false false 1 "check_rule" φ_check_rule) (p_rods : Prps P wl mg base w 1 "rods" tb_rods) (c_all_options : Cal P wl mg base w false false 2 "all_options" φ_all_options) (m_enumerate : mg "enumerate" = none) (c_aim_mark : Cal P wl mg base w false false 1 "aim_mark" φ_aim_mark) (m_len : mg "len" = none) (c_hinge_mark : Cal P wl mg base w false false 1 "hinge_mark" φ_hinge_mark) : Def P wl mg base w false false 3 f φ_written := by
  refine def_D (ss := ss_written) Fd sc_written (Fd.binds (ps := ["rule"]) fun _ _ _ _ _ _ us hl => match us, hl with | [_], _ => rfl) fun cdv A outer sh H E hgd hrm => ?_
  have fam : Fam P wl mg base w false 2 (fun _ : Unit => cxOf (CXb false P wl) P wl w.K mg base ["rule", "rods", "given", "parts", "k", "length"] "written" (defScope st_written) f cdv A outer sh H E) := ⟨fun _ => rfl, fun _ => rfl, fun _ => rfl, fun _ => rfl, fun _ => rfl, fun _ => hgd, fun _ => hrm⟩
  exact (dss_cons (ds_expr (de_call fam Tk.no c_check_rule (da_cons (db_var 0) da_nil)))
    (dss_cons (ds_set 1 (fun _ => sc_written.nd) (de_prop fam p_rods (db_var 0)))
    (dss_cons (ds_set 2 (fun _ => sc_written.nd) (de_call fam Tk.no c_all_options (da_cons (db_var 0) da_nil)))
    (dss_cons (ds_set 3 (fun _ => sc_written.nd) (de_lst da_nil))
    (dss_cons (ds_for (ss := ss_written_b0) (fun _ => passes_of rfl) (di_enumK (fun _ => m_enumerate) (da_cons (db_of (de_var 1)) da_nil)) (dg_tup (vs := [4, 5]) (dgs_cons 4 (by decide) (fun _ => sc_written.nd) (dgs_cons 5 (by decide) (fun _ => sc_written.nd) dgs_nil))) (dss_cons (ds_expr (de_mutV 3 (fun _ _ _ _ => own_list) PySem.F.plainAttrs_list PySem.F.slot_list_append PySem.F.type_list_append (fun _ => mt_append) mv_append (da_cons (db_of (de_js (dj_fmt (de_var 5) (dj_fmt (de_call fam Tk.no c_aim_mark (da_cons (db_var 4) (da_cons (db_var 2) da_nil))) dj_nil)))) da_nil)))
    (dss_one (ds_if (dt_cmp (fun _ => op_ltU) od_cmp (db_var 4) (db_of (de_callB (fun _ => call_len) cd_len (fun _ => m_len) (by decide +kernel) (da_cons (db_var 1) da_nil)))) (dss_one (ds_expr (de_mutV 3 (fun _ _ _ _ => own_list) PySem.F.plainAttrs_list PySem.F.slot_list_append PySem.F.type_list_append (fun _ => mt_append) mv_append (da_cons (db_of (de_call fam Tk.no c_hinge_mark (da_cons (db_var 4) (da_cons (db_var 2) da_nil)))) da_nil)))) dss_nil))))
    (dss_one (ds_ret (de_join (db_of de_str) (db_var 3)))))))))
theorem init_Rule___init_ {f : Addr} {fd : FuncData} {kws : List (Str × V)} (Fd : FunD w.K "__init__" "Rule.__init__" (defArgs st_Rule___init) (defBody st_Rule___init) (defScope st_Rule___init) [] kws f fd) (m_len : mg "len" = none) (v_Rule_MOST_RODS : CVl w mg "Rule" .rule "MOST_RODS" (.int 12)) (s_Rule_is_rod : Stc P wl mg base w false 2 "Rule" "is_rod" .rule φ_Rule_is_rod) (m_all : mg "all" = none) (a_rods : NoA w isRule "_rods") :
    R7.FnK P wl w.K mg base (CXb false P wl) 3 f [] (spStar w φ_Rule___init id) := by
  refine init_D (bx := false) (N := ["self", "rods", "rod"]) (k := 2) (p1 := "self") (pv := "rods") (opts := []) (ks := []) (ss := ss_Rule___init) (g := id) (gV := id) Fd sc_Rule___init (fun r l => r) (fun zs l => l) (fun kV doc pm an cdv ct M A Q Ex sh a rest ws hK X l h => ?_) fun cdv A outer sh H E hrm => body_Rule___init m_len v_Rule_MOST_RODS s_Rule_is_rod m_all a_rods cdv A outer sh H E hrm
  obtain rfl : ws = [] := List.eq_nil_of_length_eq_zero l
  exact R7.bind_starK (B := fun a rest => bindArgs (PySem.W.fnOf "__init__" "Rule.__init__" (defArgs st_Rule___init) (defBody st_Rule___init) (defScope st_Rule___init) .none kV doc pm an cdv ct) ⟨a :: rest, List.zip [] []⟩) (G := fun a t => List.zip (["self"] : List Str) (a :: id []) ++ [(("rods" : Str), t)]) (fun a => rfl) (fun a r rs => rfl) a rest h
end
end M7
set_option maxHeartbeats 400000
namespace M7
open PySem PySem.Spec PyProof.Rows L2
def ss_law_cell : SS := (ssSeq (ssIf (stB (seOp dLt (sbVar 1) (sbOf (seCB dLen (saCons (sbVar 0) saNil))))) (ssRet (seOp dIx (sbVar 0) (sbVar 1))) ssNext)
    (ssRet (seC (.int 0))))
abbrev φ_law_cell : Fn := bodyFn 2 2 ss_law_cell
def ss_law_source : SS := (ssRet (seLst (saCons (sbOf (seCB dMax2 (saCons (sbOf (seC (.int 0))) (saCons (sbOf (seOp dSub (sbVar 0) (sbOf (seOp dPow (sbOf (seC (.int 10))) (sbOf (seC (.int 18))))))) saNil)))) (saCons (sbOf (seOp dAdd (sbOf (seOp dMod (sbVar 0) (sbOf (seC (.int 2147483629))))) (sbOf (seC (.int 1))))) (saCons (sbOf (seC (.int 0))) saNil)))))
abbrev φ_law_source : Fn := bodyFn 1 1 ss_law_source
def ss_law_draw : SS := (ssSeq (ssIf (stB (seOp dGt (sbOf (seOp dIx (sbVar 0) (sbOf (seC (.int 0))))) (sbOf (seC (.int 0))))) (ssSeq (ssAsg (seOp dMod (sbOf (seOp dIx (sbVar 0) (sbOf (seC (.int 0))))) (sbVar 1)) (sgName 2))
    (ssSeq (ssSetL 0 (seOp dDiv (sbOf (seOp dIx (sbVar 0) (sbOf (seC (.int 0))))) (sbVar 1)) (seC (.int 0)))
    (ssRet (seMove 2)))) ssNext)
    (ssSeq (ssSetL 0 (seOp dAdd (sbOf (seOp dIx (sbVar 0) (sbOf (seC (.int 2))))) (sbOf (seC (.int 1)))) (seC (.int 2)))
    (ssSeq (ssSetL 0 (seOp dMod (sbOf (seOp dAdd (sbOf (seOp dAdd (sbOf (seOp dMulI (sbOf (seOp dIx (sbVar 0) (sbOf (seC (.int 1))))) (sbOf (seC (.int 48271))))) (sbOf (seOp dMulI (sbOf (seC (.int 1009))) (sbOf (seOp dIx (sbVar 0) (sbOf (seC (.int 2))))))))) (sbOf (seC (.int 7))))) (sbOf (seC (.int 2147483647)))) (seC (.int 1)))
    (ssSeq (ssAsg (seOp dMod (sbOf (seOp dAdd (sbOf (seOp dAdd (sbOf (seOp dMulI (sbOf (seOp dIx (sbVar 0) (sbOf (seC (.int 1))))) (sbOf (seOp dIx (sbVar 0) (sbOf (seC (.int 1))))))) (sbOf (seOp dMulI (sbOf (seC (.int 69621))) (sbOf (seOp dIx (sbVar 0) (sbOf (seC (.int 1))))))))) (sbOf (seC (.int 11))))) (sbOf (seC (.int 2147483629)))) (sgName 3))
    (ssSeq (ssAsg (seOp dMod (sbOf (seOp dAdd (sbOf (seOp dMulI (sbVar 3) (sbVar 3))) (sbOf (seOp dMulI (sbOf (seC (.int 40014))) (sbVar 3))))) (sbOf (seC (.int 2147483587)))) (sgName 3))
    (ssRet (seOp dMod (sbOf (seOp dDiv (sbVar 3) (sbOf (seC (.int 16))))) (sbVar 1))))))))
abbrev φ_law_draw : Fn := bodyFn 2 4 ss_law_draw
def ss_law_choose : SS := (ssRet (seOp dIx (sbVar 1) (sbOf (seCall φ_law_draw (saCons (sbVar 0) (saCons (sbOf (seCB dLen (saCons (sbVar 1) saNil))) saNil))))))
abbrev φ_law_choose : Fn := bodyFn 2 2 ss_law_choose
def ss_law_is_equal : SS := (ssRet (seOp dEq (sbOf (seCB dRep (saCons (sbVar 0) saNil))) (sbOf (seCB dRep (saCons (sbVar 1) saNil)))))
abbrev φ_law_is_equal : Fn := bodyFn 2 2 ss_law_is_equal
def ss_law_rods_b0 : SS := (ssSeq (ssIf (stB (seOp dEq (sbVar 3) (sbOf (seC (.int 0))))) (ssDrop (seMutV isLst 5 fAppend (saCons (sbOf (seOp dAdd (sbOf (seC (.int 1))) (sbOf (seCall φ_law_draw (saCons (sbVar 0) (saCons (sbOf (seC (.int 4))) saNil)))))) saNil))) ssNext)
    (ssSeq (ssIf (stB (seOp dEq (sbVar 3) (sbOf (seC (.int 1))))) (ssDrop (seMutV isLst 5 fAppend (saCons (sbOf (seVar 4)) saNil))) ssNext)
    (ssSeq (ssIf (stB (seOp dEq (sbVar 3) (sbOf (seC (.int 2))))) (ssDrop (seMutV isLst 5 fAppend (saCons (sbOf (seCB dMax2 (saCons (sbOf (seC (.int 1))) (saCons (sbOf (seOp dSub (sbVar 4) (sbOf (seOp dMod (sbVar 6) (sbOf (seC (.int 2))))))) saNil)))) saNil))) ssNext)
    (ssSeq (ssIf (stB (seOp dEq (sbVar 3) (sbOf (seC (.int 3))))) (ssDrop (seMutV isLst 5 fAppend (saCons (sbOf (seOp dAdd (sbOf (seC (.int 30))) (sbOf (seCall φ_law_draw (saCons (sbVar 0) (saCons (sbOf (seC (.int 11))) saNil)))))) saNil))) ssNext)
    (ssIf (stB (seOp dEq (sbVar 3) (sbOf (seC (.int 4))))) (ssDrop (seMutV isLst 5 fAppend (saCons (sbOf (seOp dAdd (sbOf (seC (.int 1))) (sbOf (seCall φ_law_draw (saCons (sbVar 0) (saCons (sbOf (seC (.int 40))) saNil)))))) saNil))) ssNext)))))
def ss_law_rods : SS := (ssSeq (ssPar 2 3 (seOp dAdd (sbOf (seC (.int 1))) (sbOf (seCall φ_law_draw (saCons (sbVar 0) (saCons (sbVar 1) saNil))))) (seCall φ_law_draw (saCons (sbVar 0) (saCons (sbOf (seC (.int 5))) saNil))))
    (ssSeq (ssPar 4 5 (seOp dAdd (sbOf (seC (.int 1))) (sbOf (seCall φ_law_draw (saCons (sbVar 0) (saCons (sbOf (seC (.int 40))) saNil))))) (seLst saNil))
    (ssSeq (ssFor (siA rg1 (saCons (sbVar 2) saNil)) (sgName 6) ss_law_rods_b0)
    (ssRet (seMove 5)))))
abbrev φ_law_rods : Fn := bodyFn 2 7 ss_law_rods
def ss_law_is_length : SS := (ssRet (seAnd (seM0 dIsdigit (sbVar 0)) (seAnd (seOp dLe (sbOf (seCB dLen (saCons (sbVar 0) saNil))) (sbOf (seC (.int 2)))) (seAnd (seOp dNe (sbOf (seOp dIx (sbVar 0) (sbOf (seC (.int 0))))) (sbOf (seC (.str "0")))) (seOp dLe (sbOf (seCB dIntC (saCons (sbVar 0) saNil))) (sbOf (seC (.int 40))))))))
abbrev φ_law_is_length : Fn := bodyFn 1 1 ss_law_is_length
def ss_law_is_text : SS := (ssSeq (ssAsg (seM1 dSplit (sbVar 0) (sbOf (seC (.str "-")))) (sgName 1))
    (ssRet (seAnd (seOp dLe (sbOf (seCB dLen (saCons (sbVar 1) saNil))) (sbOf (seC (.int 12)))) (seOp dEq (sbOf (seLc (siOf (seVar 1)) (sgName 2) (stNot (stB (seCall φ_law_is_length (saCons (sbVar 2) saNil)))) (seC (.int 1)) [2])) (sbOf (seLst saNil))))))
abbrev φ_law_is_text : Fn := bodyFn 1 3 ss_law_is_text
def ss_law_place_b0 : SS := (ssIf (stOr (stB (seCall φ_law_is_text (saCons (sbOf (seSl dSl (sbVar 0) soNone (soSome (seVar 2)))) saNil))) (stB (seCall φ_law_is_text (saCons (sbOf (seOp dAdd (sbOf (seSl dSl (sbVar 0) soNone (soSome (seVar 2)))) (sbOf (seC (.str "1"))))) saNil)))) (ssAsg (seCB dMax2 (saCons (sbVar 1) (saCons (sbVar 2) saNil))) (sgName 1)) ssNext)
def ss_law_place : SS := (ssSeq (ssAsg (seC (.int 0)) (sgName 1))
    (ssSeq (ssFor (siA rg1 (saCons (sbOf (seOp dAdd (sbOf (seCB dLen (saCons (sbVar 0) saNil))) (sbOf (seC (.int 1))))) saNil)) (sgName 2) ss_law_place_b0)
    (ssRet (seMove 1))))
abbrev φ_law_place : Fn := bodyFn 1 3 ss_law_place
def ss_law_bent : SS := (ssSeq (ssPar 2 3 (seCall φ_law_draw (saCons (sbVar 0) (saCons (sbOf (seOp dAdd (sbOf (seCB dLen (saCons (sbVar 1) saNil))) (sbOf (seC (.int 1))))) saNil))) (seCall φ_law_choose (saCons (sbVar 0) (saCons (sbOf (seCB dListU (saCons (sbOf (seC (.str "-=~<>0123456789 "))) saNil))) saNil))))
    (ssSeq (ssAsg (seLst (saCons (sbOf (seOp dAdd (sbOf (seOp dAdd (sbOf (seSl dSl (sbVar 1) soNone (soSome (seVar 2)))) (sbVar 3))) (sbOf (seSl dSl (sbVar 1) (soSome (seVar 2)) soNone)))) (saCons (sbOf (seOp dAdd (sbOf (seOp dAdd (sbOf (seSl dSl (sbVar 1) soNone (soSome (seVar 2)))) (sbVar 3))) (sbOf (seSl dSl (sbVar 1) (soSome (seOp dAdd (sbVar 2) (sbOf (seC (.int 1))))) soNone)))) (saCons (sbOf (seOp dAdd (sbOf (seSl dSl (sbVar 1) soNone (soSome (seVar 2)))) (sbOf (seSl dSl (sbVar 1) (soSome (seOp dAdd (sbVar 2) (sbOf (seC (.int 1))))) soNone)))) (saCons (sbOf (seSl dSl (sbVar 1) soNone (soSome (seVar 2)))) saNil))))) (sgName 4))
    (ssRet (seCall φ_law_choose (saCons (sbVar 0) (saCons (sbOf (seOp dAdd (sbVar 4) (sbOf (seLst (saCons (sbOf (seSl dSl (sbVar 1) (soSome (seVar 2)) soNone)) (saCons (sbOf (seOp dAdd (sbOf (seOp dAdd (sbVar 1) (sbOf (seC (.str "-"))))) (sbVar 1))) (saCons (sbOf (seOp dAdd (sbVar 1) (sbOf (seC (.str "-1"))))) (saCons (sbOf (seOp dAdd (sbVar 1) (sbOf (seC (.str ">"))))) (saCons (sbOf (seC (.str ""))) (saCons (sbOf (seOp dAdd (sbVar 1) (sbOf (seC (.str "-"))))) saNil)))))))))) saNil))))))
abbrev φ_law_bent : Fn := bodyFn 2 5 ss_law_bent
section
variable {w : WD} {P : Program} {wl : World} {mg : Str → Option Value} {base : Heap}
abbrev st_law_cell : Stmt := top 35
theorem sc_law_cell : FnScope ["_law_script", "_law_index"] ["_law_script", "_law_index"] (defScope st_law_cell) := ⟨rfl, rfl, rfl, by decide +kernel, rfl, by decide +kernel, by decide +kernel⟩
theorem def_law_cell {f : Addr} {fd : FuncData} (Fd : Fun w.K "_law_cell" "_law_cell" st_law_cell f fd) (m_len : mg "len" = none) : Def P wl mg base w false false 1 f φ_law_cell := by
  refine def_D (ss := ss_law_cell) Fd sc_law_cell (Fd.binds (ps := ["_law_script", "_law_index"]) fun _ _ _ _ _ _ us hl => match us, hl with | [_, _], _ => rfl) fun cdv A outer sh H E hgd hrm => ?_
  have fam : Fam P wl mg base w false 0 (fun _ : Unit => cxOf (CXb false P wl) P wl w.K mg base ["_law_script", "_law_index"] "_law_cell" (defScope st_law_cell) f cdv A outer sh H E) := ⟨fun _ => rfl, fun _ => rfl, fun _ => rfl, fun _ => rfl, fun _ => rfl, fun _ => hgd, fun _ => hrm⟩
  exact (dss_cons (ds_if (dt_cmp (fun _ => op_ltU) od_cmp (db_var 1) (db_of (de_callB (fun _ => call_len) cd_len (fun _ => m_len) (by decide +kernel) (da_cons (db_var 0) da_nil)))) (dss_one (ds_ret (de_ix (fun _ => ix_seq) od_ix (db_var 0) (db_var 1)))) dss_nil)
    (dss_one (ds_ret de_int)))
abbrev st_law_source : Stmt := top 36
theorem sc_law_source : FnScope ["_law_cell_here"] ["_law_cell_here"] (defScope st_law_source) := ⟨rfl, rfl, rfl, by decide +kernel, rfl, by decide +kernel, by decide +kernel⟩
theorem def_law_source {f : Addr} {fd : FuncData} (Fd : Fun w.K "_law_source" "_law_source" st_law_source f fd) (m_max : mg "max" = none) : Def P wl mg base w false false 1 f φ_law_source := by
  refine def_D (ss := ss_law_source) Fd sc_law_source (Fd.binds (ps := ["_law_cell_here"]) fun _ _ _ _ _ _ us hl => match us, hl with | [_], _ => rfl) fun cdv A outer sh H E hgd hrm => ?_
  have fam : Fam P wl mg base w false 0 (fun _ : Unit => cxOf (CXb false P wl) P wl w.K mg base ["_law_cell_here"] "_law_source" (defScope st_law_source) f cdv A outer sh H E) := ⟨fun _ => rfl, fun _ => rfl, fun _ => rfl, fun _ => rfl, fun _ => rfl, fun _ => hgd, fun _ => hrm⟩
  exact (dss_one (ds_ret (de_lst (da_cons (db_of (de_callB (fun _ => call_max2 rfl) cd_max2 (fun _ => m_max) (by decide +kernel) (da_cons (db_of de_int) (da_cons (db_of (de_bin (fun _ => op_sub) od_sub (db_var 0) (db_of (de_bin (fun _ => op_pow) od_pow (db_of de_int) (db_of de_int))))) da_nil)))) (da_cons (db_of (de_bin (fun _ => op_addU) od_add (db_of (de_bin (fun _ => op_mod) od_mod (db_var 0) (db_of de_int))) (db_of de_int))) (da_cons (db_of de_int) da_nil))))))
abbrev st_law_draw : Stmt := top 37
theorem sc_law_draw : FnScope ["_law_source_here", "_law_many", "_law_found", "_law_mixed"] ["_law_source_here", "_law_many"] (defScope st_law_draw) := ⟨rfl, rfl, rfl, by decide +kernel, rfl, by decide +kernel, by decide +kernel⟩
theorem def_law_draw {f : Addr} {fd : FuncData} (Fd : Fun w.K "_law_draw" "_law_draw" st_law_draw f fd) : Def P wl mg base w false false 1 f φ_law_draw := by
  refine def_D (ss := ss_law_draw) Fd sc_law_draw (Fd.binds (ps := ["_law_source_here", "_law_many"]) fun _ _ _ _ _ _ us hl => match us, hl with | [_, _], _ => rfl) fun cdv A outer sh H E hgd hrm => ?_
  have fam : Fam P wl mg base w false 0 (fun _ : Unit => cxOf (CXb false P wl) P wl w.K mg base ["_law_source_here", "_law_many", "_law_found", "_law_mixed"] "_law_draw" (defScope st_law_draw) f cdv A outer sh H E) := ⟨fun _ => rfl, fun _ => rfl, fun _ => rfl, fun _ => rfl, fun _ => rfl, fun _ => hgd, fun _ => hrm⟩
  exact (dss_cons (ds_if (dt_cmp (fun _ => op_gtU) od_cmp (db_of (de_ix (fun _ => ix_seq) od_ix (db_var 0) (db_of de_int))) (db_of de_int)) (dss_cons (ds_set 2 (fun _ => sc_law_draw.nd) (de_bin (fun _ => op_mod) od_mod (db_of (de_ix (fun _ => ix_seq) od_ix (db_var 0) (db_of de_int))) (db_var 1)))
    (dss_cons (ds_setL 0 (de_bin (fun _ => op_fdiv) od_div (db_of (de_ix (fun _ => ix_seq) od_ix (db_var 0) (db_of de_int))) (db_var 1)) de_int)
    (dss_one (ds_ret (de_move 2))))) dss_nil)
    (dss_cons (ds_setL 0 (de_bin (fun _ => op_addU) od_add (db_of (de_ix (fun _ => ix_seq) od_ix (db_var 0) (db_of de_int))) (db_of de_int)) de_int)
    (dss_cons (ds_setL 0 (de_bin (fun _ => op_mod) od_mod (db_of (de_bin (fun _ => op_addU) od_add (db_of (de_bin (fun _ => op_addU) od_add (db_of (de_bin (fun _ => op_mul) od_mulI (db_of (de_ix (fun _ => ix_seq) od_ix (db_var 0) (db_of de_int))) (db_of de_int))) (db_of (de_bin (fun _ => op_mul) od_mulI (db_of de_int) (db_of (de_ix (fun _ => ix_seq) od_ix (db_var 0) (db_of de_int))))))) (db_of de_int))) (db_of de_int)) de_int)
    (dss_cons (ds_set 3 (fun _ => sc_law_draw.nd) (de_bin (fun _ => op_mod) od_mod (db_of (de_bin (fun _ => op_addU) od_add (db_of (de_bin (fun _ => op_addU) od_add (db_of (de_bin (fun _ => op_mul) od_mulI (db_of (de_ix (fun _ => ix_seq) od_ix (db_var 0) (db_of de_int))) (db_of (de_ix (fun _ => ix_seq) od_ix (db_var 0) (db_of de_int))))) (db_of (de_bin (fun _ => op_mul) od_mulI (db_of de_int) (db_of (de_ix (fun _ => ix_seq) od_ix (db_var 0) (db_of de_int))))))) (db_of de_int))) (db_of de_int)))
    (dss_cons (ds_set 3 (fun _ => sc_law_draw.nd) (de_bin (fun _ => op_mod) od_mod (db_of (de_bin (fun _ => op_addU) od_add (db_of (de_bin (fun _ => op_mul) od_mulI (db_var 3) (db_var 3))) (db_of (de_bin (fun _ => op_mul) od_mulI (db_of de_int) (db_var 3))))) (db_of de_int)))
    (dss_one (ds_ret (de_bin (fun _ => op_mod) od_mod (db_of (de_bin (fun _ => op_fdiv) od_div (db_var 3) (db_of de_int))) (db_var 1)))))))))
abbrev st_law_choose : Stmt := top 38
theorem sc_law_choose : FnScope ["_law_source_here", "_law_values"] ["_law_source_here", "_law_values"] (defScope st_law_choose) := ⟨rfl, rfl, rfl, by decide +kernel, rfl, by decide +kernel, by decide +kernel⟩
theorem def_law_choose {f : Addr} {fd : FuncData} (Fd : Fun w.K "_law_choose" "_law_choose" st_law_choose f fd) (m_len : mg "len" = none) (c_law_draw : Cal P wl mg base w false false 1 "_law_draw" φ_law_draw) : Def P wl mg base w false false 2 f φ_law_choose := by
  refine def_D (ss := ss_law_choose) Fd sc_law_choose (Fd.binds (ps := ["_law_source_here", "_law_values"]) fun _ _ _ _ _ _ us hl => match us, hl with | [_, _], _ => rfl) fun cdv A outer sh H E hgd hrm => ?_
  have fam : Fam P wl mg base w false 1 (fun _ : Unit => cxOf (CXb false P wl) P wl w.K mg base ["_law_source_here", "_law_values"] "_law_choose" (defScope st_law_choose) f cdv A outer sh H E) := ⟨fun _ => rfl, fun _ => rfl, fun _ => rfl, fun _ => rfl, fun _ => rfl, fun _ => hgd, fun _ => hrm⟩
  exact (dss_one (ds_ret (de_ix (fun _ => ix_seq) od_ix (db_var 1) (db_of (de_call fam Tk.no c_law_draw (da_cons (db_var 0) (da_cons (db_of (de_callB (fun _ => call_len) cd_len (fun _ => m_len) (by decide +kernel) (da_cons (db_var 1) da_nil))) da_nil)))))))
abbrev st_law_is_equal : Stmt := top 39
theorem sc_law_is_equal : FnScope ["_law_actual", "_law_expected"] ["_law_actual", "_law_expected"] (defScope st_law_is_equal) := ⟨rfl, rfl, rfl, by decide +kernel, rfl, by decide +kernel, by decide +kernel⟩
theorem def_law_is_equal {f : Addr} {fd : FuncData} (Fd : Fun w.K "_law_is_equal" "_law_is_equal" st_law_is_equal f fd) (sysb : R7.SysB base) (m_repr : mg "repr" = none) : Def P wl mg base w true false 1 f φ_law_is_equal := by
  refine def_D (ss := ss_law_is_equal) Fd sc_law_is_equal (Fd.binds (ps := ["_law_actual", "_law_expected"]) fun _ _ _ _ _ _ us hl => match us, hl with | [_, _], _ => rfl) fun cdv A outer sh H E hgd hrm => ?_
  have fam : Fam P wl mg base w true 0 (fun _ : Unit => cxOf (CXb false P wl) P wl w.K mg base ["_law_actual", "_law_expected"] "_law_is_equal" (defScope st_law_is_equal) f cdv A outer sh H E) := ⟨fun _ => rfl, fun _ => rfl, fun _ => rfl, fun _ => rfl, fun _ => rfl, fun _ => hgd, fun _ => hrm⟩
  exact (dss_one (ds_ret (de_cmp (fun i => op_eqD (Fam.room fam i).units) od_eq (db_of (de_callB (call_repF fam sysb) cd_rep (fun _ => m_repr) (by decide +kernel) (da_cons (db_var 0) da_nil))) (db_of (de_callB (call_repF fam sysb) cd_rep (fun _ => m_repr) (by decide +kernel) (da_cons (db_var 1) da_nil))))))
abbrev st_law_rods : Stmt := top 40
theorem sc_law_rods : FnScope ["_law_source_here", "_law_most", "_law_many", "_law_way", "_law_one", "_law_found", "_law_at"] ["_law_source_here", "_law_most"] (defScope st_law_rods) := ⟨rfl, rfl, rfl, by decide +kernel, rfl, by decide +kernel, by decide +kernel⟩
theorem def_law_rods {f : Addr} {fd : FuncData} (Fd : Fun w.K "_law_rods" "_law_rods" st_law_rods f fd) (c_law_draw : Cal P wl mg base w false false 1 "_law_draw" φ_law_draw) (m_range : mg "range" = none) (m_max : mg "max" = none) : Def P wl mg base w false false 2 f φ_law_rods := by
  refine def_D (ss := ss_law_rods) Fd sc_law_rods (Fd.binds (ps := ["_law_source_here", "_law_most"]) fun _ _ _ _ _ _ us hl => match us, hl with | [_, _], _ => rfl) fun cdv A outer sh H E hgd hrm => ?_
  have fam : Fam P wl mg base w false 1 (fun _ : Unit => cxOf (CXb false P wl) P wl w.K mg base ["_law_source_here", "_law_most", "_law_many", "_law_way", "_law_one", "_law_found", "_law_at"] "_law_rods" (defScope st_law_rods) f cdv A outer sh H E) := ⟨fun _ => rfl, fun _ => rfl, fun _ => rfl, fun _ => rfl, fun _ => rfl, fun _ => hgd, fun _ => hrm⟩
  exact (dss_cons (ds_par 2 3 (fun _ => sc_law_rods.nd) (de_bin (fun _ => op_addU) od_add (db_of de_int) (db_of (de_call fam Tk.no c_law_draw (da_cons (db_var 0) (da_cons (db_var 1) da_nil))))) (de_call fam Tk.no c_law_draw (da_cons (db_var 0) (da_cons (db_of de_int) da_nil))))
    (dss_cons (ds_par 4 5 (fun _ => sc_law_rods.nd) (de_bin (fun _ => op_addU) od_add (db_of de_int) (db_of (de_call fam Tk.no c_law_draw (da_cons (db_var 0) (da_cons (db_of de_int) da_nil))))) (de_lst da_nil))
    (dss_cons (ds_for (ss := ss_law_rods_b0) (fun _ => passes_of rfl) (di_range1 (fun _ => m_range) (da_cons (db_var 2) da_nil)) (dg_name (vs := [6]) 6 (by decide) (fun _ => sc_law_rods.nd)) (dss_cons (ds_if (dt_cmp (fun i => op_eqD (Fam.room fam i).units) od_eq (db_var 3) (db_of de_int)) (dss_one (ds_expr (de_mutV 5 (fun _ _ _ _ => own_list) PySem.F.plainAttrs_list PySem.F.slot_list_append PySem.F.type_list_append (fun _ => mt_append) mv_append (da_cons (db_of (de_bin (fun _ => op_addU) od_add (db_of de_int) (db_of (de_call fam Tk.no c_law_draw (da_cons (db_var 0) (da_cons (db_of de_int) da_nil)))))) da_nil)))) dss_nil)
    (dss_cons (ds_if (dt_cmp (fun i => op_eqD (Fam.room fam i).units) od_eq (db_var 3) (db_of de_int)) (dss_one (ds_expr (de_mutV 5 (fun _ _ _ _ => own_list) PySem.F.plainAttrs_list PySem.F.slot_list_append PySem.F.type_list_append (fun _ => mt_append) mv_append (da_cons (db_of (de_var 4)) da_nil)))) dss_nil)
    (dss_cons (ds_if (dt_cmp (fun i => op_eqD (Fam.room fam i).units) od_eq (db_var 3) (db_of de_int)) (dss_one (ds_expr (de_mutV 5 (fun _ _ _ _ => own_list) PySem.F.plainAttrs_list PySem.F.slot_list_append PySem.F.type_list_append (fun _ => mt_append) mv_append (da_cons (db_of (de_callB (fun _ => call_max2 rfl) cd_max2 (fun _ => m_max) (by decide +kernel) (da_cons (db_of de_int) (da_cons (db_of (de_bin (fun _ => op_sub) od_sub (db_var 4) (db_of (de_bin (fun _ => op_mod) od_mod (db_var 6) (db_of de_int))))) da_nil)))) da_nil)))) dss_nil)
    (dss_cons (ds_if (dt_cmp (fun i => op_eqD (Fam.room fam i).units) od_eq (db_var 3) (db_of de_int)) (dss_one (ds_expr (de_mutV 5 (fun _ _ _ _ => own_list) PySem.F.plainAttrs_list PySem.F.slot_list_append PySem.F.type_list_append (fun _ => mt_append) mv_append (da_cons (db_of (de_bin (fun _ => op_addU) od_add (db_of de_int) (db_of (de_call fam Tk.no c_law_draw (da_cons (db_var 0) (da_cons (db_of de_int) da_nil)))))) da_nil)))) dss_nil)
    (dss_one (ds_if (dt_cmp (fun i => op_eqD (Fam.room fam i).units) od_eq (db_var 3) (db_of de_int)) (dss_one (ds_expr (de_mutV 5 (fun _ _ _ _ => own_list) PySem.F.plainAttrs_list PySem.F.slot_list_append PySem.F.type_list_append (fun _ => mt_append) mv_append (da_cons (db_of (de_bin (fun _ => op_addU) od_add (db_of de_int) (db_of (de_call fam Tk.no c_law_draw (da_cons (db_var 0) (da_cons (db_of de_int) da_nil)))))) da_nil)))) dss_nil)))))))
    (dss_one (ds_ret (de_move 5))))))
abbrev st_law_is_length : Stmt := top 42
theorem sc_law_is_length : FnScope ["_law_piece"] ["_law_piece"] (defScope st_law_is_length) := ⟨rfl, rfl, rfl, by decide +kernel, rfl, by decide +kernel, by decide +kernel⟩
theorem def_law_is_length {f : Addr} {fd : FuncData} (Fd : Fun w.K "_law_is_length" "_law_is_length" st_law_is_length f fd) (m_len : mg "len" = none) (m_int : mg "int" = none) : Def P wl mg base w false false 1 f φ_law_is_length := by
  refine def_D (ss := ss_law_is_length) Fd sc_law_is_length (Fd.binds (ps := ["_law_piece"]) fun _ _ _ _ _ _ us hl => match us, hl with | [_], _ => rfl) fun cdv A outer sh H E hgd hrm => ?_
  have fam : Fam P wl mg base w false 0 (fun _ : Unit => cxOf (CXb false P wl) P wl w.K mg base ["_law_piece"] "_law_is_length" (defScope st_law_is_length) f cdv A outer sh H E) := ⟨fun _ => rfl, fun _ => rfl, fun _ => rfl, fun _ => rfl, fun _ => rfl, fun _ => hgd, fun _ => hrm⟩
  exact (dss_one (ds_ret (de_and (de_isdigit (db_var 0)) (de_and (de_cmp (fun _ => op_leU) od_cmp (db_of (de_callB (fun _ => call_len) cd_len (fun _ => m_len) (by decide +kernel) (da_cons (db_var 0) da_nil))) (db_of de_int)) (de_and (de_cmp (fun i => op_neD (Fam.room fam i).units) od_ne (db_of (de_ix (fun _ => ix_seq) od_ix (db_var 0) (db_of de_int))) (db_of de_str)) (de_one (de_cmp (fun _ => op_leU) od_cmp (db_of (de_callTy (fun _ => call_intC) cd_intC (fun _ => m_int) (by decide +kernel) (da_cons (db_var 0) da_nil))) (db_of de_int))))))))
abbrev st_law_is_text : Stmt := top 43
theorem sc_law_is_text : FnScope ["_law_text", "_law_chunks", "_law_piece"] ["_law_text"] (defScope st_law_is_text) := ⟨rfl, rfl, rfl, by decide +kernel, rfl, by decide +kernel, by decide +kernel⟩
theorem def_law_is_text {f : Addr} {fd : FuncData} (Fd : Fun w.K "_law_is_text" "_law_is_text" st_law_is_text f fd) (m_len : mg "len" = none) (c_law_is_length : Cal P wl mg base w false false 1 "_law_is_length" φ_law_is_length) : Def P wl mg base w false false 2 f φ_law_is_text := by
  refine def_D (ss := ss_law_is_text) Fd sc_law_is_text (Fd.binds (ps := ["_law_text"]) fun _ _ _ _ _ _ us hl => match us, hl with | [_], _ => rfl) fun cdv A outer sh H E hgd hrm => ?_
  have fam : Fam P wl mg base w false 1 (fun _ : Unit => cxOf (CXb false P wl) P wl w.K mg base ["_law_text", "_law_chunks", "_law_piece"] "_law_is_text" (defScope st_law_is_text) f cdv A outer sh H E) := ⟨fun _ => rfl, fun _ => rfl, fun _ => rfl, fun _ => rfl, fun _ => rfl, fun _ => hgd, fun _ => hrm⟩
  exact (dss_cons (ds_set 1 (fun _ => sc_law_is_text.nd) (de_split (db_var 0) (db_of de_str)))
    (dss_one (ds_ret (de_and (de_cmp (fun _ => op_leU) od_cmp (db_of (de_callB (fun _ => call_len) cd_len (fun _ => m_len) (by decide +kernel) (da_cons (db_var 1) da_nil))) (db_of de_int)) (de_one (de_cmp (fun i => op_eqD (Fam.room fam i).units) od_eq (db_of (de_lc [("_law_piece", 2)] (fun _ => sc_law_is_text.nd) (fun _ => blkOk_by (N := ["_law_text", "_law_chunks", "_law_piece"]) (sc := defScope st_law_is_text) (by decide +kernel)) (di_U (de_var 1)) (dg_name (vs := [2]) 2 (by decide) (fun _ => sc_law_is_text.nd)) (dts_one (dt_not (dt_val (de_call (Fam.blk fam _) Tk.no c_law_is_length (da_cons (db_var 2) da_nil))))) de_int)) (db_of (de_lst da_nil))))))))
abbrev st_law_place : Stmt := top 44
theorem sc_law_place : FnScope ["_law_text", "_law_found", "_law_at"] ["_law_text"] (defScope st_law_place) := ⟨rfl, rfl, rfl, by decide +kernel, rfl, by decide +kernel, by decide +kernel⟩
theorem def_law_place {f : Addr} {fd : FuncData} (Fd : Fun w.K "_law_place" "_law_place" st_law_place f fd) (m_len : mg "len" = none) (m_range : mg "range" = none) (c_law_is_text : Cal P wl mg base w false false 2 "_law_is_text" φ_law_is_text) (m_max : mg "max" = none) : Def P wl mg base w false false 3 f φ_law_place := by
  refine def_D (ss := ss_law_place) Fd sc_law_place (Fd.binds (ps := ["_law_text"]) fun _ _ _ _ _ _ us hl => match us, hl with | [_], _ => rfl) fun cdv A outer sh H E hgd hrm => ?_
  have fam : Fam P wl mg base w false 2 (fun _ : Unit => cxOf (CXb false P wl) P wl w.K mg base ["_law_text", "_law_found", "_law_at"] "_law_place" (defScope st_law_place) f cdv A outer sh H E) := ⟨fun _ => rfl, fun _ => rfl, fun _ => rfl, fun _ => rfl, fun _ => rfl, fun _ => hgd, fun _ => hrm⟩
  exact (dss_cons (ds_set 1 (fun _ => sc_law_place.nd) de_int)
    (dss_cons (ds_for (ss := ss_law_place_b0) (fun _ => passes_of rfl) (di_range1 (fun _ => m_range) (da_cons (db_of (de_bin (fun _ => op_addU) od_add (db_of (de_callB (fun _ => call_len) cd_len (fun _ => m_len) (by decide +kernel) (da_cons (db_var 0) da_nil))) (db_of de_int))) da_nil)) (dg_name (vs := [2]) 2 (by decide) (fun _ => sc_law_place.nd)) (dss_one (ds_if (dt_of (dw_or (dt_val (de_call fam Tk.no c_law_is_text (da_cons (db_of (de_sl (db_var 0) do_none (do_some (de_var 2)))) da_nil))) (dw_or1 (dt_val (de_call fam Tk.no c_law_is_text (da_cons (db_of (de_bin (fun _ => op_addU) od_add (db_of (de_sl (db_var 0) do_none (do_some (de_var 2)))) (db_of de_str))) da_nil)))))) (dss_one (ds_set 1 (fun _ => sc_law_place.nd) (de_callB (fun _ => call_max2 rfl) cd_max2 (fun _ => m_max) (by decide +kernel) (da_cons (db_var 1) (da_cons (db_var 2) da_nil))))) dss_nil)))
    (dss_one (ds_ret (de_move 1)))))
abbrev st_law_bent : Stmt := top 45
theorem sc_law_bent : FnScope ["_law_source_here", "_law_text", "_law_at", "_law_sign", "_law_found"] ["_law_source_here", "_law_text"] (defScope st_law_bent) := ⟨rfl, rfl, rfl, by decide +kernel, rfl, by decide +kernel, by decide +kernel⟩
theorem def_law_bent {f : Addr} {fd : FuncData} (Fd : Fun w.K "_law_bent" "_law_bent" st_law_bent f fd) (m_len : mg "len" = none) (c_law_draw : Cal P wl mg base w false false 1 "_law_draw" φ_law_draw) (m_list : mg "list" = none) (c_law_choose : Cal P wl mg base w false false 2 "_law_choose" φ_law_choose) : Def P wl mg base w false false 3 f φ_law_bent := by
  refine def_D (ss := ss_law_bent) Fd sc_law_bent (Fd.binds (ps := ["_law_source_here", "_law_text"]) fun _ _ _ _ _ _ us hl => match us, hl with | [_, _], _ => rfl) fun cdv A outer sh H E hgd hrm => ?_
  have fam : Fam P wl mg base w false 2 (fun _ : Unit => cxOf (CXb false P wl) P wl w.K mg base ["_law_source_here", "_law_text", "_law_at", "_law_sign", "_law_found"] "_law_bent" (defScope st_law_bent) f cdv A outer sh H E) := ⟨fun _ => rfl, fun _ => rfl, fun _ => rfl, fun _ => rfl, fun _ => rfl, fun _ => hgd, fun _ => hrm⟩
  exact (dss_cons (ds_par 2 3 (fun _ => sc_law_bent.nd) (de_call fam Tk.no c_law_draw (da_cons (db_var 0) (da_cons (db_of (de_bin (fun _ => op_addU) od_add (db_of (de_callB (fun _ => call_len) cd_len (fun _ => m_len) (by decide +kernel) (da_cons (db_var 1) da_nil))) (db_of de_int))) da_nil))) (de_call fam Tk.no c_law_choose (da_cons (db_var 0) (da_cons (db_of (de_callTy (fun _ => CallRor (R7.call_listS rfl) call_list_of) cd_listU (fun _ => m_list) (by decide +kernel) (da_cons (db_of de_str) da_nil))) da_nil))))
    (dss_cons (ds_set 4 (fun _ => sc_law_bent.nd) (de_lst (da_cons (db_of (de_bin (fun _ => op_addU) od_add (db_of (de_bin (fun _ => op_addU) od_add (db_of (de_sl (db_var 1) do_none (do_some (de_var 2)))) (db_var 3))) (db_of (de_sl (db_var 1) (do_some (de_var 2)) do_none)))) (da_cons (db_of (de_bin (fun _ => op_addU) od_add (db_of (de_bin (fun _ => op_addU) od_add (db_of (de_sl (db_var 1) do_none (do_some (de_var 2)))) (db_var 3))) (db_of (de_sl (db_var 1) (do_some (de_bin (fun _ => op_addU) od_add (db_var 2) (db_of de_int))) do_none)))) (da_cons (db_of (de_bin (fun _ => op_addU) od_add (db_of (de_sl (db_var 1) do_none (do_some (de_var 2)))) (db_of (de_sl (db_var 1) (do_some (de_bin (fun _ => op_addU) od_add (db_var 2) (db_of de_int))) do_none)))) (da_cons (db_of (de_sl (db_var 1) do_none (do_some (de_var 2)))) da_nil))))))
    (dss_one (ds_ret (de_call fam Tk.no c_law_choose (da_cons (db_var 0) (da_cons (db_of (de_bin (fun _ => op_addU) od_add (db_var 4) (db_of (de_lst (da_cons (db_of (de_sl (db_var 1) (do_some (de_var 2)) do_none)) (da_cons (db_of (de_bin (fun _ => op_addU) od_add (db_of (de_bin (fun _ => op_addU) od_add (db_var 1) (db_of de_str))) (db_var 1))) (da_cons (db_of (de_bin (fun _ => op_addU) od_add (db_var 1) (db_of de_str))) (da_cons (db_of (de_bin (fun _ => op_addU) od_add (db_var 1) (db_of de_str))) (da_cons (db_of de_str) (da_cons (db_of (de_bin (fun _ => op_addU) od_add (db_var 1) (db_of de_str))) da_nil)))))))))) da_nil)))))))
end
end M7
set_option maxHeartbeats 400000
namespace M7
open PySem PySem.Spec PyProof.Rows L2
def ss_law_is_right : SS := (ssSeq (ssAsg (seOutF .text "value" "TextError" "place" (seCall φ_Rule_plain (saD (.cls .rule) (saCons (sbVar 0) saNil)))) (sgName 1))
    (ssSeq (ssIf (stNot (stB (seCall φ_law_is_text (saCons (sbVar 0) saNil)))) (ssRet (seCall φ_law_is_equal (saCons (sbVar 1) (saCons (sbOf (seTup (saCons (sbOf (seC (.str "TextError"))) (saCons (sbOf (seCall φ_law_place (saCons (sbVar 0) saNil))) saNil)))) saNil)))) ssNext)
    (ssSeq (ssIf (stOr (stB (seOp dNe (sbOf (seOp dIx (sbVar 1) (sbOf (seC (.int 0))))) (sbOf (seC (.str "value"))))) (stOr (stNot (stB (seIsi (tCls (onRules true true true true)) (sbOf (seOp dIx (sbVar 1) (sbOf (seC (.int 1)))))))) (stB (seIsi (orT (tCls (onRules false true false false)) (tCls (onRules false false true false))) (sbOf (seOp dIx (sbVar 1) (sbOf (seC (.int 1))))))))) (ssRet (seC (.bl false))) ssNext)
    (ssSeq (ssAsg (seLc (siOf (seM1 dSplit (sbVar 0) (sbOf (seC (.str "-"))))) (sgName 3) (fun g => .ok true g) (seCB dIntC (saCons (sbVar 3) saNil)) [3]) (sgName 2))
    (ssRet (seCall φ_law_is_equal (saCons (sbOf (seLst (saCons (sbOf (seProp tb_rods (sbOf (seOp dIx (sbVar 1) (sbOf (seC (.int 1))))))) (saCons (sbOf (seMeth "options" tb_options (sbOf (seOp dIx (sbVar 1) (sbOf (seC (.int 1))))) saNil)) (saCons (sbOf (seCall φ_written (saCons (sbOf (seOp dIx (sbVar 1) (sbOf (seC (.int 1))))) saNil))) saNil))))) (saCons (sbOf (seLst (saCons (sbOf (seVar 2)) (saCons (sbOf seDNew) (saCons (sbOf (seVar 0)) saNil))))) saNil))))))))
abbrev φ_law_is_right : Fn := bodyFn 1 4 ss_law_is_right
def ss_law_b0 : SS := (ssIf (stNot (stB (seCall φ_law_is_right (saCons (sbVar 6) saNil)))) (ssRet (seC (.bl false))) ssNext)
def ss_law_b1 : SS := (ssSeq (ssAsg (seM1 dJoin (sbOf (seC (.str "-"))) (sbOf (seLc (siOf (seCall φ_law_rods (saCons (sbVar 2) (saCons (sbOf (seCall φ_law_choose (saCons (sbVar 2) (saCons (sbOf (seLst (saCons (sbOf (seC (.int 4))) (saCons (sbOf (seC (.int 9))) (saCons (sbOf (seC (.int 12))) saNil))))) saNil)))) saNil)))) (sgName 9) (fun g => .ok true g) (seCB dStr (saCons (sbVar 9) saNil)) [9]))) (sgName 5))
    (ssSeq (ssPar 7 8 (seCall φ_law_bent (saCons (sbVar 2) (saCons (sbVar 5) saNil))) (seM1 dJoin (sbOf (seC (.str "-"))) (sbOf (seOp dRepL (sbOf (seLst (saCons (sbOf (seC (.str "4"))) saNil))) (sbOf (seOp dAdd (sbOf (seC (.int 11))) (sbOf (seCall φ_law_draw (saCons (sbVar 2) (saCons (sbOf (seC (.int 3))) saNil))))))))))
    (ssFor (siOf (seLst (saCons (sbOf (seVar 5)) (saCons (sbOf (seVar 7)) (saCons (sbOf (seCall φ_law_bent (saCons (sbVar 2) (saCons (sbVar 7) saNil)))) (saCons (sbOf (seVar 8)) (saCons (sbOf (seCall φ_law_bent (saCons (sbVar 2) (saCons (sbVar 8) saNil)))) saNil))))))) (sgName 6) ss_law_b0)))
def ss_law_b2 : SS := (ssSeq (ssAsg (seCall φ_law_source (saCons (sbOf (seCall φ_law_cell (saCons (sbVar 0) (saCons (sbVar 1) saNil)))) saNil)) (sgName 2))
    (ssSeq (ssFor (siA rg1 (saCons (sbOf (seC (.int 12))) saNil)) (sgName 3) ss_law_b1)
    (ssSeq (ssAsg (seCall φ_law_choose (saCons (sbVar 2) (saCons (sbOf (seLst (saCons (sbOf (seC .non)) (saCons (sbOf (seC (.int 5))) (saCons (sbOf (seC (.bl true))) (saCons (sbOf (seLst saNil)) (saCons (sbOf (seLst (saCons (sbOf (seC (.str "2"))) saNil))) (saCons (sbOf (seTup (saCons (sbOf (seC (.str "2-1"))) saNil))) (saCons (sbOf seDNew) (saCons (sbOf (seTup (saCons (sbOf (seC (.str "2"))) (saCons (sbOf (seC (.str "1"))) saNil)))) saNil)))))))))) saNil))) (sgName 4))
    (ssIf (stNot (stB (seCall φ_law_is_equal (saCons (sbOf (seOutF .text "value" "TextError" "place" (seCall φ_Rule_plain (saD (.cls .rule) (saCons (sbVar 4) saNil))))) (saCons (sbOf (seTup (saCons (sbOf (seC (.str "TextError"))) (saCons (sbOf (seC (.int 0))) saNil)))) saNil))))) (ssRet (seC (.bl false))) ssNext))))
def ss_law : SS := (ssTryN mt_FoldError (ssSeq (ssFor (siA rg1 (saCons (sbOf (seCB dMax2 (saCons (sbOf (seC (.int 1))) (saCons (sbOf (seCB dMin2 (saCons (sbOf (seCB dLen (saCons (sbVar 0) saNil))) (saCons (sbOf (seC (.int 4))) saNil)))) saNil)))) saNil)) (sgName 1) ss_law_b2)
    (ssRet (seC (.bl true)))) (ssRet (seC (.bl false))))
abbrev φ_law : Fn := bodyFn 1 10 ss_law
section
variable {w : WD} {P : Program} {wl : World} {mg : Str → Option Value} {base : Heap}
abbrev st_law_is_right : Stmt := top 46
theorem sc_law_is_right : FnScope ["_law_text", "_law_told", "_law_rods_here", "_law_piece"] ["_law_text"] (defScope st_law_is_right) := ⟨rfl, rfl, rfl, by decide +kernel, rfl, by decide +kernel, by decide +kernel⟩
theorem def_law_is_right {f c Pt : Addr} {T : List (Addr × Str)} {fd : FuncData} (Fd : FunC w.K "_law_is_right" "_law_is_right" st_law_is_right c f fd) (t_Rule_plain : Cmt P wl mg base w true 5 .rule "plain" φ_Rule_plain) (gm_Rule : mg "Rule" = some (.ref (w.cls .rule))) (ou__law_outcome : OutKF P wl mg base w "_law_outcome" "value" "TextError" "place" .text) (hT : TabsOf w T) (tb_law_is_right : LamX.TabB base mg c Pt) (hp_law_is_right : w.tn Pt = some ((envOfC "_law_is_right" (defScope st_law_is_right) 0 0 .none).qual ++ ("<lambda>" : Str))) (c_law_is_text : Cal P wl mg base w false false 2 "_law_is_text" φ_law_is_text) (c_law_place : Cal P wl mg base w false false 3 "_law_place" φ_law_place) (c_law_is_equal : Cal P wl mg base w true false 1 "_law_is_equal" φ_law_is_equal) (m_isinstance : mg "isinstance" = none) (i_Rule : IsiF w (.ref (w.cls .rule)) (tCls (onRules true true true true))) (gm_Held : mg "Held" = some (.ref (w.cls .held))) (i_Held : IsiF w (.ref (w.cls .held)) (tCls (onRules false true false false))) (gm_Aimed : mg "Aimed" = some (.ref (w.cls .aimed))) (i_Aimed : IsiF w (.ref (w.cls .aimed)) (tCls (onRules false false true false))) (m_int : mg "int" = none) (c_written : Cal P wl mg base w false false 3 "written" φ_written) (o_options : Mets P wl mg base w false false 1 "options" tb_options) (p_rods : Prps P wl mg base w 1 "rods" tb_rods) : Def P wl mg base w true false 8 f φ_law_is_right := by
  refine def_C (ss := ss_law_is_right) Fd sc_law_is_right (Fd.binds (ps := ["_law_text"]) fun _ _ _ _ _ _ us hl => match us, hl with | [_], _ => rfl) fun A outer sh H E hgd hrm => ?_
  have fam : Fam P wl mg base w true 7 (fun _ : Unit => cxOf (CXb false P wl) P wl w.K mg base ["_law_text", "_law_told", "_law_rods_here", "_law_piece"] "_law_is_right" (defScope st_law_is_right) f (.ref c) A outer sh H E) := ⟨fun _ => rfl, fun _ => rfl, fun _ => rfl, fun _ => rfl, fun _ => rfl, fun _ => hgd, fun _ => hrm⟩
  exact (dss_cons (ds_set 1 (fun _ => sc_law_is_right.nd) (de_outF fam ou__law_outcome hT tb_law_is_right hp_law_is_right (fun E => (de_cmeth (Fam.lam fam _ _ E) (Tk.of lam_takes) t_Rule_plain gm_Rule (da_cons (db_var 0) da_nil))) (fun _ => LamX.lamS_by (sc := defScope st_law_is_right) (by decide +kernel))))
    (dss_cons (ds_if (dt_not (dt_val (de_call fam Tk.no c_law_is_text (da_cons (db_var 0) da_nil)))) (dss_one (ds_ret (de_call fam Tk.no c_law_is_equal (da_cons (db_var 1) (da_cons (db_of (de_tup (da_cons (db_of de_str) (da_cons (db_of (de_call fam Tk.no c_law_place (da_cons (db_var 0) da_nil))) da_nil)))) da_nil))))) dss_nil)
    (dss_cons (ds_if (dt_of (dw_or (dt_cmp (fun i => op_neD (Fam.room fam i).units) od_ne (db_of (de_ix (fun _ => ix_seq) od_ix (db_var 1) (db_of de_int))) (db_of de_str)) (dw_or (dt_not (dt_val (de_isiC m_isinstance gm_Rule i_Rule (db_of (de_ix (fun _ => ix_seq) od_ix (db_var 1) (db_of de_int)))))) (dw_or1 (dt_val (de_isi2 m_isinstance gm_Held gm_Aimed i_Held i_Aimed (db_of (de_ix (fun _ => ix_seq) od_ix (db_var 1) (db_of de_int))))))))) (dss_one (ds_ret de_bl)) dss_nil)
    (dss_cons (ds_setLc 2 [("_law_piece", 3)] (fun _ => sc_law_is_right.nd) (fun _ => blkOk_by (N := ["_law_text", "_law_told", "_law_rods_here", "_law_piece"]) (sc := defScope st_law_is_right) (by decide +kernel)) (di_U (de_split (db_var 0) (db_of de_str))) (dg_name (vs := [3]) 3 (by decide) (fun _ => sc_law_is_right.nd)) dts_nil (de_callTy (fun _ => call_intC) cd_intC (fun _ => m_int) (by decide +kernel) (da_cons (db_var 3) da_nil)))
    (dss_one (ds_ret (de_call fam Tk.no c_law_is_equal (da_cons (db_of (de_lst (da_cons (db_of (de_prop fam p_rods (db_of (de_ix (fun _ => ix_seq) od_ix (db_var 1) (db_of de_int))))) (da_cons (db_of (de_meth0 fam Tk.no o_options (db_of (de_ix (fun _ => ix_seq) od_ix (db_var 1) (db_of de_int))))) (da_cons (db_of (de_call fam Tk.no c_written (da_cons (db_of (de_ix (fun _ => ix_seq) od_ix (db_var 1) (db_of de_int))) da_nil))) da_nil))))) (da_cons (db_of (de_lst (da_cons (db_of (de_var 2)) (da_cons (db_of de_dnew) (da_cons (db_of (de_var 0)) da_nil))))) da_nil)))))))))
abbrev st_law : Stmt := top 47
theorem sc_law : FnScope ["_law_script", "_law_k", "_law_source_here", "_law_lap", "_law_value", "_law_text", "_law_other", "_law_bent_here", "_law_full", "_law_rod"] ["_law_script"] (defScope st_law) := ⟨rfl, rfl, rfl, by decide +kernel, rfl, by decide +kernel, by decide +kernel⟩
theorem def_law {f c Pt : Addr} {T : List (Addr × Str)} {fd : FuncData} (Fd : FunC w.K "law" "law" st_law c f fd) (m_len : mg "len" = none) (m_min : mg "min" = none) (m_max : mg "max" = none) (m_range : mg "range" = none) (c_law_cell : Cal P wl mg base w false false 1 "_law_cell" φ_law_cell) (c_law_source : Cal P wl mg base w false false 1 "_law_source" φ_law_source) (c_law_choose : Cal P wl mg base w false false 2 "_law_choose" φ_law_choose) (c_law_rods : Cal P wl mg base w false false 2 "_law_rods" φ_law_rods) (m_str : mg "str" = none) (c_law_bent : Cal P wl mg base w false false 3 "_law_bent" φ_law_bent) (c_law_draw : Cal P wl mg base w false false 1 "_law_draw" φ_law_draw) (c_law_is_right : Cal P wl mg base w true false 8 "_law_is_right" φ_law_is_right) (t_Rule_plain : Cmt P wl mg base w true 5 .rule "plain" φ_Rule_plain) (gm_Rule : mg "Rule" = some (.ref (w.cls .rule))) (ou__law_outcome : OutKF P wl mg base w "_law_outcome" "value" "TextError" "place" .text) (hT : TabsOf w T) (tb_law : LamX.TabB base mg c Pt) (hp_law : w.tn Pt = some ((envOfC "law" (defScope st_law) 0 0 .none).qual ++ ("<lambda>" : Str))) (c_law_is_equal : Cal P wl mg base w true false 1 "_law_is_equal" φ_law_is_equal) (h_FoldError : Cth w mg "FoldError" .fold mt_FoldError) : Def P wl mg base w true false 9 f φ_law := by
  refine def_C (ss := ss_law) Fd sc_law (Fd.binds (ps := ["_law_script"]) fun _ _ _ _ _ _ us hl => match us, hl with | [_], _ => rfl) fun A outer sh H E hgd hrm => ?_
  have fam : Fam P wl mg base w true 8 (fun _ : Unit => cxOf (CXb false P wl) P wl w.K mg base ["_law_script", "_law_k", "_law_source_here", "_law_lap", "_law_value", "_law_text", "_law_other", "_law_bent_here", "_law_full", "_law_rod"] "law" (defScope st_law) f (.ref c) A outer sh H E) := ⟨fun _ => rfl, fun _ => rfl, fun _ => rfl, fun _ => rfl, fun _ => rfl, fun _ => hgd, fun _ => hrm⟩
  exact (dss_one (ds_tryN h_FoldError.ctc h_FoldError.nm (fun W' => (dss_cons (ds_for (ss := ss_law_b2) tr_passes (di_range1 (fun _ => m_range) (da_cons (db_of (de_callB (fun _ => call_max2 rfl) cd_max2 (fun _ => m_max) (by decide +kernel) (da_cons (db_of de_int) (da_cons (db_of (de_callB (fun _ => call_min2 rfl) cd_min2 (fun _ => m_min) (by decide +kernel) (da_cons (db_of (de_callB (fun _ => call_len) cd_len (fun _ => m_len) (by decide +kernel) (da_cons (db_var 0) da_nil))) (da_cons (db_of de_int) da_nil)))) da_nil)))) da_nil)) (dg_name (vs := [1]) 1 (by decide) (fun _ => sc_law.nd)) (dss_cons (ds_set 2 (fun _ => sc_law.nd) (de_call (Fam.tr fam) Tk.no c_law_source (da_cons (db_of (de_call (Fam.tr fam) Tk.no c_law_cell (da_cons (db_var 0) (da_cons (db_var 1) da_nil)))) da_nil)))
    (dss_cons (ds_for (ss := ss_law_b1) tr_passes (di_range1 (fun _ => m_range) (da_cons (db_of de_int) da_nil)) (dg_name (vs := [3]) 3 (by decide) (fun _ => sc_law.nd)) (dss_cons (ds_set 5 (fun _ => sc_law.nd) (de_join (db_of de_str) (db_of (de_lc [("_law_rod", 9)] (fun _ => sc_law.nd) (fun _ => blkOk_by (N := ["_law_script", "_law_k", "_law_source_here", "_law_lap", "_law_value", "_law_text", "_law_other", "_law_bent_here", "_law_full", "_law_rod"]) (sc := defScope st_law) (by decide +kernel)) (di_U (de_call (Fam.tr fam) Tk.no c_law_rods (da_cons (db_var 2) (da_cons (db_of (de_call (Fam.tr fam) Tk.no c_law_choose (da_cons (db_var 2) (da_cons (db_of (de_lst (da_cons (db_of de_int) (da_cons (db_of de_int) (da_cons (db_of de_int) da_nil))))) da_nil)))) da_nil)))) (dg_name (vs := [9]) 9 (by decide) (fun _ => sc_law.nd)) dts_nil (de_callTy (fun _ => call_strU) cd_str (fun _ => m_str) (by decide +kernel) (da_cons (db_var 9) da_nil))))))
    (dss_cons (ds_par 7 8 (fun _ => sc_law.nd) (de_call (Fam.tr fam) Tk.no c_law_bent (da_cons (db_var 2) (da_cons (db_var 5) da_nil))) (de_join (db_of de_str) (db_of (de_bin (fun _ => op_rep) od_repL (db_of (de_lst (da_cons (db_of de_str) da_nil))) (db_of (de_bin (fun _ => op_addU) od_add (db_of de_int) (db_of (de_call (Fam.tr fam) Tk.no c_law_draw (da_cons (db_var 2) (da_cons (db_of de_int) da_nil))))))))))
    (dss_one (ds_for (ss := ss_law_b0) tr_passes (di_U (de_lst (da_cons (db_of (de_var 5)) (da_cons (db_of (de_var 7)) (da_cons (db_of (de_call (Fam.tr fam) Tk.no c_law_bent (da_cons (db_var 2) (da_cons (db_var 7) da_nil)))) (da_cons (db_of (de_var 8)) (da_cons (db_of (de_call (Fam.tr fam) Tk.no c_law_bent (da_cons (db_var 2) (da_cons (db_var 8) da_nil)))) da_nil))))))) (dg_name (vs := [6]) 6 (by decide) (fun _ => sc_law.nd)) (dss_one (ds_if (dt_not (dt_val (de_call (Fam.tr fam) Tk.no c_law_is_right (da_cons (db_var 6) da_nil)))) (dss_one (ds_ret de_bl)) dss_nil)))))))
    (dss_cons (ds_set 4 (fun _ => sc_law.nd) (de_call (Fam.tr fam) Tk.no c_law_choose (da_cons (db_var 2) (da_cons (db_of (de_lst (da_cons (db_of de_non) (da_cons (db_of de_int) (da_cons (db_of de_bl) (da_cons (db_of (de_lst da_nil)) (da_cons (db_of (de_lst (da_cons (db_of de_str) da_nil))) (da_cons (db_of (de_tup (da_cons (db_of de_str) da_nil))) (da_cons (db_of de_dnew) (da_cons (db_of (de_tup (da_cons (db_of de_str) (da_cons (db_of de_str) da_nil)))) da_nil)))))))))) da_nil))))
    (dss_one (ds_if (dt_not (dt_val (de_call (Fam.tr fam) Tk.no c_law_is_equal (da_cons (db_of (de_outF (Fam.tr fam) ou__law_outcome hT tb_law hp_law (fun E => (de_cmeth (Fam.lam (Fam.tr fam) _ _ E) (Tk.of lam_takes) t_Rule_plain gm_Rule (da_cons (db_var 4) da_nil))) (fun _ => LamX.lamS_by (sc := defScope st_law) (by decide +kernel)))) (da_cons (db_of (de_tup (da_cons (db_of de_str) (da_cons (db_of de_int) da_nil)))) da_nil))))) (dss_one (ds_ret de_bl)) dss_nil))))))
    (dss_one (ds_ret de_bl)))) (dss_one (ds_ret de_bl))))
theorem fnx_law {f c Pt : Addr} {T : List (Addr × Str)} {fd : FuncData} (Fd : FunC w.K "law" "law" st_law c f fd) (m_len : mg "len" = none) (m_min : mg "min" = none) (m_max : mg "max" = none) (m_range : mg "range" = none) (c_law_cell : Cal P wl mg base w false false 1 "_law_cell" φ_law_cell) (c_law_source : Cal P wl mg base w false false 1 "_law_source" φ_law_source) (c_law_choose : Cal P wl mg base w false false 2 "_law_choose" φ_law_choose) (c_law_rods : Cal P wl mg base w false false 2 "_law_rods" φ_law_rods) (m_str : mg "str" = none) (c_law_bent : Cal P wl mg base w false false 3 "_law_bent" φ_law_bent) (c_law_draw : Cal P wl mg base w false false 1 "_law_draw" φ_law_draw) (c_law_is_right : Cal P wl mg base w true false 8 "_law_is_right" φ_law_is_right) (t_Rule_plain : Cmt P wl mg base w true 5 .rule "plain" φ_Rule_plain) (gm_Rule : mg "Rule" = some (.ref (w.cls .rule))) (ou__law_outcome : OutKF P wl mg base w "_law_outcome" "value" "TextError" "place" .text) (hT : TabsOf w T) (tb_law : LamX.TabB base mg c Pt) (hp_law : w.tn Pt = some ((envOfC "law" (defScope st_law) 0 0 .none).qual ++ ("<lambda>" : Str))) (c_law_is_equal : Cal P wl mg base w true false 1 "_law_is_equal" φ_law_is_equal) (h_FoldError : Cth w mg "FoldError" .fold mt_FoldError) : FnX true P wl w.K mg base (CXb false P wl) 9 f fd ["_law_script"] (spD w φ_law) := by
  refine fnx_C (N := ["_law_script", "_law_k", "_law_source_here", "_law_lap", "_law_value", "_law_text", "_law_other", "_law_bent_here", "_law_full", "_law_rod"]) (ps := ["_law_script"]) (k := 8) (ss := ss_law) Fd sc_law fun A outer sh H E hgd hrm => ?_
  have fam : Fam P wl mg base w true 8 (fun _ : Unit => cxOf (CXb false P wl) P wl w.K mg base ["_law_script", "_law_k", "_law_source_here", "_law_lap", "_law_value", "_law_text", "_law_other", "_law_bent_here", "_law_full", "_law_rod"] "law" (defScope st_law) f (.ref c) A outer sh H E) := ⟨fun _ => rfl, fun _ => rfl, fun _ => rfl, fun _ => rfl, fun _ => rfl, fun _ => hgd, fun _ => hrm⟩
  exact (dss_one (ds_tryN h_FoldError.ctc h_FoldError.nm (fun W' => (dss_cons (ds_for (ss := ss_law_b2) tr_passes (di_range1 (fun _ => m_range) (da_cons (db_of (de_callB (fun _ => call_max2 rfl) cd_max2 (fun _ => m_max) (by decide +kernel) (da_cons (db_of de_int) (da_cons (db_of (de_callB (fun _ => call_min2 rfl) cd_min2 (fun _ => m_min) (by decide +kernel) (da_cons (db_of (de_callB (fun _ => call_len) cd_len (fun _ => m_len) (by decide +kernel) (da_cons (db_var 0) da_nil))) (da_cons (db_of de_int) da_nil)))) da_nil)))) da_nil)) (dg_name (vs := [1]) 1 (by decide) (fun _ => sc_law.nd)) (dss_cons (ds_set 2 (fun _ => sc_law.nd) (de_call (Fam.tr fam) Tk.no c_law_source (da_cons (db_of (de_call (Fam.tr fam) Tk.no c_law_cell (da_cons (db_var 0) (da_cons (db_var 1) da_nil)))) da_nil)))
    (dss_cons (ds_for (ss := ss_law_b1) tr_passes (di_range1 (fun _ => m_range) (da_cons (db_of de_int) da_nil)) (dg_name (vs := [3]) 3 (by decide) (fun _ => sc_law.nd)) (dss_cons (ds_set 5 (fun _ => sc_law.nd) (de_join (db_of de_str) (db_of (de_lc [("_law_rod", 9)] (fun _ => sc_law.nd) (fun _ => blkOk_by (N := ["_law_script", "_law_k", "_law_source_here", "_law_lap", "_law_value", "_law_text", "_law_other", "_law_bent_here", "_law_full", "_law_rod"]) (sc := defScope st_law) (by decide +kernel)) (di_U (de_call (Fam.tr fam) Tk.no c_law_rods (da_cons (db_var 2) (da_cons (db_of (de_call (Fam.tr fam) Tk.no c_law_choose (da_cons (db_var 2) (da_cons (db_of (de_lst (da_cons (db_of de_int) (da_cons (db_of de_int) (da_cons (db_of de_int) da_nil))))) da_nil)))) da_nil)))) (dg_name (vs := [9]) 9 (by decide) (fun _ => sc_law.nd)) dts_nil (de_callTy (fun _ => call_strU) cd_str (fun _ => m_str) (by decide +kernel) (da_cons (db_var 9) da_nil))))))
    (dss_cons (ds_par 7 8 (fun _ => sc_law.nd) (de_call (Fam.tr fam) Tk.no c_law_bent (da_cons (db_var 2) (da_cons (db_var 5) da_nil))) (de_join (db_of de_str) (db_of (de_bin (fun _ => op_rep) od_repL (db_of (de_lst (da_cons (db_of de_str) da_nil))) (db_of (de_bin (fun _ => op_addU) od_add (db_of de_int) (db_of (de_call (Fam.tr fam) Tk.no c_law_draw (da_cons (db_var 2) (da_cons (db_of de_int) da_nil))))))))))
    (dss_one (ds_for (ss := ss_law_b0) tr_passes (di_U (de_lst (da_cons (db_of (de_var 5)) (da_cons (db_of (de_var 7)) (da_cons (db_of (de_call (Fam.tr fam) Tk.no c_law_bent (da_cons (db_var 2) (da_cons (db_var 7) da_nil)))) (da_cons (db_of (de_var 8)) (da_cons (db_of (de_call (Fam.tr fam) Tk.no c_law_bent (da_cons (db_var 2) (da_cons (db_var 8) da_nil)))) da_nil))))))) (dg_name (vs := [6]) 6 (by decide) (fun _ => sc_law.nd)) (dss_one (ds_if (dt_not (dt_val (de_call (Fam.tr fam) Tk.no c_law_is_right (da_cons (db_var 6) da_nil)))) (dss_one (ds_ret de_bl)) dss_nil)))))))
    (dss_cons (ds_set 4 (fun _ => sc_law.nd) (de_call (Fam.tr fam) Tk.no c_law_choose (da_cons (db_var 2) (da_cons (db_of (de_lst (da_cons (db_of de_non) (da_cons (db_of de_int) (da_cons (db_of de_bl) (da_cons (db_of (de_lst da_nil)) (da_cons (db_of (de_lst (da_cons (db_of de_str) da_nil))) (da_cons (db_of (de_tup (da_cons (db_of de_str) da_nil))) (da_cons (db_of de_dnew) (da_cons (db_of (de_tup (da_cons (db_of de_str) (da_cons (db_of de_str) da_nil)))) da_nil)))))))))) da_nil))))
    (dss_one (ds_if (dt_not (dt_val (de_call (Fam.tr fam) Tk.no c_law_is_equal (da_cons (db_of (de_outF (Fam.tr fam) ou__law_outcome hT tb_law hp_law (fun E => (de_cmeth (Fam.lam (Fam.tr fam) _ _ E) (Tk.of lam_takes) t_Rule_plain gm_Rule (da_cons (db_var 4) da_nil))) (fun _ => LamX.lamS_by (sc := defScope st_law) (by decide +kernel)))) (da_cons (db_of (de_tup (da_cons (db_of de_str) (da_cons (db_of de_int) da_nil)))) da_nil))))) (dss_one (ds_ret de_bl)) dss_nil))))))
    (dss_one (ds_ret de_bl)))) (dss_one (ds_ret de_bl))))
end
end M7
/-! The law's own defs, as plain functions. -/
namespace M7
open PySem PySem.Spec PyProof.Rows L2
theorem draw_ok (a b c m : Int) (h0 : 0 < m) (h1 : m < 1073741824) : ∃ r a' b' c' : Int, 0 ≤ r ∧ r < m ∧ φ_law_draw [(true, .lst [.int a, .int b, .int c]), (false, .int m)] = .ret false (.int r) [(true, .lst [.int a', .int b', .int c']), (false, .int m)] := by
  by_cases ha : 0 < a
  · refine ⟨a % m, a / m, b, c, Int.emod_nonneg _ (by omega), Int.emod_lt_of_pos _ h0, ?_⟩
    simp [φ_law_draw, bodyFn, ss_law_draw, argG, ssSeq, ssIf, ofO, stB, seOp, sbOf, seC, sbVar, O.bind, Ref.get, dIx, L2.atI, ixN, ofOpt, dGt, dCmp, ha, ssAsg, sgName, setS, dMod, i2, h0, Fl.pin, ssSetL, ownAt, Fl.own, dDiv, CDiv, h1, ssRet, seMove, endsOf, endOf, Fl.fz, ssNext]
  · obtain ⟨b1, eb⟩ : ∃ x, x = (b * 48271 + 1009 * (c + 1) + 7) % 2147483647 := ⟨_, rfl⟩
    obtain ⟨m1, e1⟩ : ∃ x, x = (b1 * b1 + 69621 * b1 + 11) % 2147483629 := ⟨_, rfl⟩
    obtain ⟨m2, e2⟩ : ∃ x, x = (m1 * m1 + 40014 * m1) % 2147483587 := ⟨_, rfl⟩
    have hb : 0 ≤ b1 ∧ b1 < 2147483647 := by rw [eb]; exact ⟨Int.emod_nonneg _ (by decide), Int.emod_lt_of_pos _ (by decide)⟩
    have hm : 0 ≤ m1 ∧ m1 < 2147483629 := by rw [e1]; exact ⟨Int.emod_nonneg _ (by decide), Int.emod_lt_of_pos _ (by decide)⟩
    have c1 : CMul b 48271 := .inr (by decide)
    have c2 : CMul 1009 (c + 1) := .inl (by decide)
    have c3 : CMul b1 b1 := .inl (by omega)
    have c4 : CMul 69621 b1 := .inl (by decide)
    have c5 : CMul m1 m1 := .inl (by omega)
    have c6 : CMul 40014 m1 := .inl (by decide)
    refine ⟨m2 / 16 % m, a, b1, c + 1, Int.emod_nonneg _ (by omega), Int.emod_lt_of_pos _ h0, ?_⟩
    simp [φ_law_draw, bodyFn, ss_law_draw, argG, ssSeq, ssIf, ofO, stB, seOp, sbOf, seC, sbVar, O.bind, Ref.get, dIx, L2.atI, ixN, ofOpt, dGt, dCmp, ha, ssAsg, sgName, setS, dMod, i2, h0, Fl.pin, ssSetL, ownAt, Fl.own, dDiv, CDiv, h1, ssRet, seMove, endsOf, endOf, Fl.fz, ssNext, dAdd, dMulI, c1, c2, c3, c4, c5, c6, ← eb, ← e1, ← e2]
end M7
namespace M7
open PySem PySem.Spec PyProof.Rows L2
theorem source_ok (n : Int) : ∃ x y : Int, φ_law_source [(false, .int n)] = .ret true (.lst [.int x, .int y, .int 0]) [(false, .int n)] := by
  refine ⟨if n - 10 ^ 18 > 0 then n - 10 ^ 18 else 0, n % 2147483629 + 1, ?_⟩
  have cp : CPow 10 18 := by unfold CPow; decide
  simp [φ_law_source, bodyFn, ss_law_source, argG, ssRet, ofO, seLst, saCons, sbOf, seCB, dMax2, seC, saNil, seOp, dSub, dPow, dAdd, dMod, i2, sbVar, O.bind, Ref.get, ofOpt, refsGet, datas, sized, show (3 : Nat) ≤ sizeLine by decide, endsOf, endOf, Fl.fz, cp]
theorem cell_ok (ns : List Int) (i : Int) (h0 : 0 ≤ i) (h1 : i < 1000) (hl : ns.length ≤ 63) : ∃ v : Int, φ_law_cell [(false, .scr (ns.map .int)), (false, .int i)] = .ret false (.int v) [(false, .scr (ns.map .int)), (false, .int i)] := by
  by_cases h : i < ns.length
  · obtain ⟨k, rfl⟩ : ∃ k : Nat, i = k := ⟨i.toNat, by omega⟩
    have hk : k < ns.length := by omega
    refine ⟨ns[k], ?_⟩
    simp [φ_law_cell, bodyFn, ss_law_cell, argG, ssSeq, ssIf, stB, seOp, sbVar, sbOf, seCB, refsGet, dLen, saCons, saNil, O.bind, Ref.get, ofOpt, dLt, dCmp, ofO, ssRet, dIx, L2.atI, ixN, seC, ssNext, endsOf, endOf, Fl.fz, hk]
  · refine ⟨0, ?_⟩
    simp [φ_law_cell, bodyFn, ss_law_cell, argG, ssSeq, ssIf, stB, seOp, sbVar, sbOf, seCB, refsGet, dLen, saCons, saNil, O.bind, Ref.get, ofOpt, dLt, dCmp, ofO, ssRet, dIx, L2.atI, ixN, seC, ssNext, endsOf, endOf, Fl.fz, h]
theorem choose_ok (a b c : Int) (ds : List D) (h0 : 0 < ds.length) (h1 : ds.length < 1073741824) : ∃ (d : D) (a' b' c' : Int), d ∈ ds ∧ φ_law_choose [(true, .lst [.int a, .int b, .int c]), (false, .lst ds)] = .ret false d [(true, .lst [.int a', .int b', .int c']), (false, .lst ds)] := by
  obtain ⟨r, a', b', c', r0, r1, e⟩ := draw_ok a b c ds.length (by omega) (by omega)
  obtain ⟨k, rfl⟩ : ∃ k : Nat, r = k := ⟨r.toNat, by omega⟩
  have hk : k < ds.length := by omega
  refine ⟨ds[k], a', b', c', List.getElem_mem hk, ?_⟩
  show bodyFn 2 2 ss_law_choose _ = _
  unfold bodyFn
  simp [ss_law_choose, argG, ssRet, ofO, seOp, sbVar, sbOf, seCall, saCons, saNil, seCB, refsGet, dLen, O.bind, Ref.get, ofOpt, distinct, lentOf, argsOf, argOf, Fl.own, e, giveBack, dIx, L2.atI, ixN, hk, endsOf, endOf, Fl.fz]
end M7
namespace M7
open PySem PySem.Spec PyProof.Rows L2
theorem loopL_nx {sg : SG} {body : SS} (I : Nat → G → Prop) : ∀ {ds : List D} {g : G} {i : Nat}, I i g → (∀ j d g, ds[j]? = some d → I (i + j) g → ∃ g1 g2, sg (false, d) g = some g1 ∧ body g1 = .nx g2 ∧ I (i + j + 1) g2) → ∃ g', loopL sg body ds g = .nx g' ∧ I (i + ds.length) g'
  | [], g, i, h, _ => ⟨g, rfl, h⟩
  | d :: ds, g, i, h, st => by
    obtain ⟨g1, g2, e1, e2, h2⟩ := st 0 d g rfl h
    obtain ⟨g', e3, h3⟩ := loopL_nx I (ds := ds) (g := g2) (i := i + 1) h2 fun j d g q hi => by
      have := st (j + 1) d g (by simpa using q) (by rw [show i + (j + 1) = i + 1 + j by omega]; exact hi)
      rw [show i + (j + 1) + 1 = i + 1 + j + 1 by omega] at this
      exact this
    refine ⟨g', ?_, by rw [List.length_cons, show i + (ds.length + 1) = i + 1 + ds.length by omega]; exact h3⟩
    unfold loopL
    rw [e1]
    simp only [e2]
    exact e3
theorem dEq_int (i j : Int) : dEq (.int i) (.int j) = some (false, .bl (decide (i = j))) := by
  unfold dEq
  rw [show ((M7.D.int i).cmpable && (M7.D.int j).cmpable) = true from rfl, if_pos rfl]
  show some (false, M7.D.bl (PyData.eqv (.int i) (.int j))) = _
  simp only [PyData.eqv]
  rw [show (i == j) = decide (i = j) from by rw [Bool.eq_iff_iff]; simp]
/-- a source: three ints of one's own -/
def isSrc (d : D) : Prop := ∃ a b c : Int, d = .lst [.int a, .int b, .int c]
def Rod (m : Int) : Prop := 1 ≤ m ∧ m ≤ 40
theorem rods_step (a b c : Int) (most many way one at_ : Int) (ms : List Int) (hw : 0 ≤ way ∧ way < 5) (h1 : Rod one) (hm : ∀ m ∈ ms, Rod m) (hl : ms.length < 1000) :
    ∃ a' b' c' m, Rod m ∧ ss_law_rods_b0 [some (.p, .lst [.int a, .int b, .int c]), some (.f, .int most), some (.f, .int many), some (.f, .int way), some (.f, .int one), some (.o, .lst (ms.map .int)), some (.f, .int at_)] =
      .nx [some (.p, .lst [.int a', .int b', .int c']), some (.f, .int most), some (.f, .int many), some (.f, .int way), some (.f, .int one), some (.o, .lst ((ms ++ [m]).map .int)), some (.f, .int at_)] := by
  have hz : ms.length < sizeLine := Nat.lt_trans hl (by decide)
  obtain rfl | rfl | rfl | rfl | rfl : way = 0 ∨ way = 1 ∨ way = 2 ∨ way = 3 ∨ way = 4 := by omega
  · obtain ⟨r, a', b', c', r0, r1, e⟩ := draw_ok a b c 4 (by decide) (by decide)
    refine ⟨a', b', c', 1 + r, ⟨by omega, by omega⟩, ?_⟩
    simp [ss_law_rods_b0, ssSeq, ssIf, stB, seOp, sbVar, sbOf, seC, O.bind, Ref.get, ofOpt, dEq_int, ofO, ssNext, ssDrop, seMutV, seMut, saCons, saNil, seCall, distinct, lentOf, argsOf, argOf, Fl.own, e, giveBack, dAdd, datas, fAppend, isLst, ownAt, hz]
  · refine ⟨a, b, c, one, h1, ?_⟩
    simp [ss_law_rods_b0, ssSeq, ssIf, stB, seOp, sbVar, sbOf, seC, O.bind, Ref.get, ofOpt, dEq_int, ofO, ssNext, ssDrop, seMutV, seMut, seVar, saCons, saNil, Fl.own, Fl.fz, datas, fAppend, isLst, ownAt, hz]
  · obtain ⟨k1, k2⟩ := h1
    refine ⟨a, b, c, if one - at_ % 2 > 1 then one - at_ % 2 else 1, ⟨by split <;> omega, by split <;> omega⟩, ?_⟩
    simp [ss_law_rods_b0, ssSeq, ssIf, stB, seOp, sbVar, sbOf, seC, O.bind, Ref.get, ofOpt, dEq_int, ofO, ssNext, ssDrop, seMutV, seMut, seVar, saCons, saNil, Fl.own, Fl.fz, datas, fAppend, isLst, ownAt, hz, seCB, refsGet, dMax2, dSub, dMod, i2]
  · obtain ⟨r, a', b', c', r0, r1, e⟩ := draw_ok a b c 11 (by decide) (by decide)
    refine ⟨a', b', c', 30 + r, ⟨by omega, by omega⟩, ?_⟩
    simp [ss_law_rods_b0, ssSeq, ssIf, stB, seOp, sbVar, sbOf, seC, O.bind, Ref.get, ofOpt, dEq_int, ofO, ssNext, ssDrop, seMutV, seMut, saCons, saNil, seCall, distinct, lentOf, argsOf, argOf, Fl.own, e, giveBack, dAdd, datas, fAppend, isLst, ownAt, hz]
  · obtain ⟨r, a', b', c', r0, r1, e⟩ := draw_ok a b c 40 (by decide) (by decide)
    refine ⟨a', b', c', 1 + r, ⟨by omega, by omega⟩, ?_⟩
    simp [ss_law_rods_b0, ssSeq, ssIf, stB, seOp, sbVar, sbOf, seC, O.bind, Ref.get, ofOpt, dEq_int, ofO, ssNext, ssDrop, seMutV, seMut, saCons, saNil, seCall, distinct, lentOf, argsOf, argOf, Fl.own, e, giveBack, dAdd, datas, fAppend, isLst, ownAt, hz]
theorem rods_ok (a b c most : Int) (h0 : 1 ≤ most) (h1 : most ≤ 900) : ∃ (ms : List Int) (a' b' c' : Int), 1 ≤ ms.length ∧ (ms.length : Int) ≤ most ∧ (∀ m ∈ ms, Rod m) ∧
    φ_law_rods [(true, .lst [.int a, .int b, .int c]), (false, .int most)] = .ret true (.lst (ms.map .int)) [(true, .lst [.int a', .int b', .int c']), (false, .int most)] := by
  obtain ⟨r1, a1, b1, c1, p1, q1, e1⟩ := draw_ok a b c most (by omega) (by omega)
  obtain ⟨r2, a2, b2, c2, p2, q2, e2⟩ := draw_ok a1 b1 c1 5 (by decide) (by decide)
  obtain ⟨r3, a3, b3, c3, p3, q3, e3⟩ := draw_ok a2 b2 c2 40 (by decide) (by decide)
  obtain ⟨g', e4, a', b', c', x, ms, hm, hl, hg⟩ := loopL_nx (sg := sgName 6) (body := ss_law_rods_b0) (ds := rangeD 0 (1 + r1).toNat) (i := 0)
    (fun i g => ∃ (a b c : Int) (x : Option (Fl × D)) (ms : List Int), (∀ m ∈ ms, Rod m) ∧ ms.length = i ∧ g = [some (.p, .lst [.int a, .int b, .int c]), some (.f, .int most), some (.f, .int (1 + r1)), some (.f, .int r2), some (.f, .int (1 + r3)), some (.o, .lst (ms.map .int)), x] ∧ (∀ y, x = some y → ∃ k, y = (.f, .int k)))
    ⟨a3, b3, c3, none, [], by simp, rfl, rfl, by simp⟩ (fun j d g hd hi => by
      obtain ⟨a, b, c, x, ms, hm, hl, rfl, hx⟩ := hi
      have hj := rangeD_get hd
      have hlt : j < (1 + r1).toNat := by
        have := (List.getElem?_eq_some_iff.mp hd).1
        simpa [rangeD] using this
      obtain ⟨a', b', c', m, hr, e⟩ := rods_step a b c most (1 + r1) r2 (1 + r3) (0 + (j : Int)) ms ⟨p2, q2⟩ ⟨by omega, by omega⟩ hm (by omega)
      refine ⟨_, _, ?_, e, a', b', c', _, ms ++ [m], ?_, ?_, rfl, ?_⟩
      · rw [hj]
        cases x with
        | none => rfl
        | some y =>
          obtain ⟨k, rfl⟩ := hx y rfl
          rfl
      · intro y hy
        rcases List.mem_append.mp hy with h | h
        · exact hm y h
        · rw [List.mem_singleton.mp h]; exact hr
      · rw [List.length_append, hl]; rfl
      · intro y hy
        cases hy
        exact ⟨_, rfl⟩)
  obtain ⟨rfl, hx⟩ := hg
  have hlen : ms.length = (1 + r1).toNat := by simpa [rangeD] using hl
  refine ⟨ms, a', b', c', by omega, by omega, hm, ?_⟩
  have hrg : -4611686018427387904 ≤ 1 + r1 ∧ 1 + r1 < 4611686018427387904 := by omega
  rw [List.map_nil] at e4
  show bodyFn 2 7 ss_law_rods _ = _
  unfold bodyFn
  simp [ss_law_rods, argG, ssSeq, ssPar, seOp, seCall, saCons, saNil, sbVar, sbOf, seC, O.bind, Ref.get, ofOpt, ofO, distinct, lentOf, argsOf, argOf, Fl.own, e1, e2, e3, giveBack, dAdd, setS, seLst, datas, sized, ssFor, siA, rg1, refsGet, hrg, e4, ssRet, seMove, endsOf, endOf, Fl.fz, Fl.pin]
end M7
namespace M7
open PySem PySem.Spec PyProof.Rows L2
theorem flats_ints : ∀ ns : List Int, M7.D.flats (ns.map M7.D.int) = true
  | [] => by simp [D.flats]
  | i :: ns => by simp only [List.map_cons, D.flats, D.flat, flats_ints ns, Bool.and_self]
theorem pys_ints : ∀ ns : List Int, M7.D.pys (ns.map M7.D.int) = ns.map PyData.int
  | [] => by simp [D.pys]
  | i :: ns => by simp only [List.map_cons, D.pys, D.py, pys_ints ns]
theorem lay_ints : ∀ ns : List Int, PyData.canLayAll0 (ns.map PyData.int) = true ∧ PyData.depthAll (ns.map PyData.int) = 0
  | [] => by simp [PyData.canLayAll0, PyData.depthAll]
  | i :: ns => by
    obtain ⟨h1, h2⟩ := lay_ints ns
    exact ⟨by simp only [List.map_cons, PyData.canLayAll0, PyData.canLay0, h1, Bool.and_self], by simp only [List.map_cons, PyData.depthAll, PyData.depth, h2]; rfl⟩
theorem cmp_ints (ns : List Int) : (M7.D.lst (ns.map M7.D.int)).cmpable = true := by
  unfold D.cmpable SeqAt.shaped
  simp only [D.flat, D.py, flats_ints, pys_ints, PyData.canLay0, PyData.depth, (lay_ints ns).1, (lay_ints ns).2, Bool.true_and]
  decide
theorem dNe_nil (ns : List Int) : dNe (.lst (ns.map .int)) (.lst []) = some (false, .bl (decide (ns ≠ []))) := by
  unfold dNe
  rw [cmp_ints, show (M7.D.lst []).cmpable = true from cmp_ints []]
  cases ns with
  | nil => simp [D.py, D.pys, PyData.eqv, PyData.eqvAll]
  | cons i ns => simp [D.py, D.pys, PyData.eqv, PyData.eqvAll]
theorem eraseIdx_map {α β : Type} (f : α → β) : ∀ (l : List α) (k : Nat), (l.map f).eraseIdx k = (l.eraseIdx k).map f
  | [], _ => rfl
  | _ :: _, 0 => rfl
  | a :: l, k + 1 => congrArg (List.cons (f a)) (eraseIdx_map f l k)
theorem in63 (k : Nat) (h : k < 1000) : -(2 ^ 63) ≤ (k : Int) ∧ (k : Int) < 2 ^ 63 := by
  have p : (2 : Int) ^ 63 = 9223372036854775808 := by rfl
  rw [p]
  omega
theorem six_nat (k n : Nat) (h : k < n) : seqIndex? (k : Int) n = some k := by
  unfold seqIndex?
  simp
  omega
theorem pop_ints (rs : List Int) (k : Nat) (hk : k < rs.length) (h : k < 1000) : fPopAt (.lst (rs.map .int)) [.int k] = some (.int rs[k], .lst ((rs.eraseIdx k).map .int)) := by
  unfold fPopAt
  simp only [in63 k h, and_self, if_true, six_nat k (rs.map M7.D.int).length (by rw [List.length_map]; exact hk), List.getElem?_map, List.getElem?_eq_getElem hk, Option.map_some, eraseIdx_map]
end M7
/-! What comes of comprehensions whose parts are known. -/
namespace M7.Z
open PySem PySem.Spec PyProof.Rows L2
theorem wipeG_len : ∀ (vs : List Nat) (g : G), (wipeG g vs).length = g.length
  | [], _ => rfl
  | v :: vs, g => by unfold wipeG; rw [List.length_set, wipeG_len vs g]
theorem backG_len (g0 : G) : ∀ (vs : List Nat) (g : G), (backG g0 g vs).length = g.length
  | [], _ => rfl
  | v :: vs, g => by unfold backG; rw [List.length_set, backG_len g0 vs g]
theorem wipeG_get : ∀ (vs : List Nat) (g : G) (i : Nat), (wipeG g vs)[i]? = if i ∈ vs ∧ i < g.length then some none else g[i]?
  | [], g, i => by simp [wipeG]
  | v :: vs, g, i => by
    unfold wipeG
    rw [List.getElem?_set, wipeG_len, wipeG_get vs g i]
    by_cases h : v = i
    · subst h
      by_cases l : v < g.length
      · simp [l]
      · simp [l, List.getElem?_eq_none (Nat.le_of_not_lt l)]
    · have h' : i ≠ v := fun e => h e.symm
      simp [h, h']
theorem backG_get (g0 : G) : ∀ (vs : List Nat) (g : G) (i : Nat), (backG g0 g vs)[i]? = if i ∈ vs ∧ i < g.length then some (g0[i]?.join) else g[i]?
  | [], g, i => by simp [backG]
  | v :: vs, g, i => by
    unfold backG
    rw [List.getElem?_set, backG_len, backG_get g0 vs g i]
    by_cases h : v = i
    · subst h
      by_cases l : v < g.length
      · simp [l]
      · simp [l, List.getElem?_eq_none (Nat.le_of_not_lt l)]
    · have h' : i ≠ v := fun e => h e.symm
      simp [h, h']
theorem back_wipe (vs : List Nat) (g : G) : backG g (wipeG g vs) vs = g := by
  apply List.ext_getElem?
  intro i
  rw [backG_get, wipeG_len, wipeG_get]
  by_cases h : i ∈ vs ∧ i < g.length
  · rw [if_pos h, List.getElem?_eq_getElem h.2]
    rfl
  · rw [if_neg h, if_neg h]
theorem compL_ok {α : Type} {mk : α → D} {sg : SG} {st : ST} {se : SE} {vs : List Nat} {g : G} (f : α → D) (p : α → Bool) : ∀ (ds : List α) (g0 : G) (acc : List D), wipeG g0 vs = wipeG g vs →
    (∀ d ∈ ds, ∃ g1, sg (false, mk d) (wipeG g vs) = some g1 ∧ ∃ g2, st g1 = .ok (p d) g2 ∧ wipeG g2 vs = wipeG g vs ∧ (p d = true → ∃ o g3, se g2 = .ok (o, f d) g3 ∧ wipeG g3 vs = wipeG g vs)) →
    ∃ g', compL sg st se vs (ds.map mk) g0 acc = .ok (acc ++ (ds.filter p).map f) g' ∧ wipeG g' vs = wipeG g vs
  | [], g0, acc, hw, _ => ⟨g0, by simp [compL], hw⟩
  | d :: ds, g0, acc, hw, st => by
    obtain ⟨g1, e1, g2, e2, w2, h3⟩ := st d (.head _)
    have ih := fun g0 acc hw => compL_ok f p ds g0 acc hw fun d h => st d (.tail _ h)
    rw [List.map_cons]
    unfold compL
    rw [hw, e1]
    simp only [e2, O.bind]
    cases hp : p d with
    | true =>
      obtain ⟨o, g3, e3, w3⟩ := h3 hp
      obtain ⟨g', e, w'⟩ := ih g3 (acc ++ [f d]) w3
      refine ⟨g', ?_, w'⟩
      simp only [if_true, e3, O.bind, e, List.filter_cons, hp, List.map_cons, List.append_assoc, List.singleton_append]
    | false =>
      obtain ⟨g', e, w'⟩ := ih g2 acc w2
      refine ⟨g', ?_, w'⟩
      simp only [Bool.false_eq_true, if_false, e, List.filter_cons, hp]
theorem seLc_ok {α : Type} {mk : α → D} {si : SI} {sg : SG} {st : ST} {se : SE} {vs : List Nat} {g g1 : G} {ds : List α} (f : α → D) (p : α → Bool) (e : si g = .ok (ds.map mk) g1) (hc : calmG g1 vs = true) (hl : ds.length < 1000000)
    (H : ∀ d ∈ ds, ∃ g2, sg (false, mk d) (wipeG g1 vs) = some g2 ∧ ∃ g3, st g2 = .ok (p d) g3 ∧ wipeG g3 vs = wipeG g1 vs ∧ (p d = true → ∃ o g4, se g3 = .ok (o, f d) g4 ∧ wipeG g4 vs = wipeG g1 vs)) :
    seLc si sg st se vs g = .ok (true, .lst ((ds.filter p).map f)) g1 := by
  obtain ⟨g', e1, w⟩ := compL_ok f p ds g1 [] rfl H
  unfold seLc
  simp only [e, O.bind, hc, List.length_map, hl, and_self, if_true, e1, List.nil_append, w, back_wipe]
theorem wipe_set (g : G) (k : Nat) (x : Option (Fl × D)) : wipeG (g.set k x) [k] = wipeG g [k] := by
  simp only [wipeG, List.set_set]
/-- a comprehension over one name -/
theorem lc1 {α : Type} {mk : α → D} {si : SI} {st : ST} {se : SE} {k : Nat} {g g1 : G} {ds : List α} (f : α → D) (p : α → Bool) (e : si g = .ok (ds.map mk) g1) (hc : calmG g1 [k] = true) (hl : ds.length < 1000000)
    (H : ∀ d ∈ ds, st (g1.set k (some (.f, mk d))) = .ok (p d) (g1.set k (some (.f, mk d))) ∧ (p d = true → ∃ o, se (g1.set k (some (.f, mk d))) = .ok (o, f d) (g1.set k (some (.f, mk d))))) :
    seLc si (sgName k) st se [k] g = .ok (true, .lst ((ds.filter p).map f)) g1 := by
  have hk : k < g1.length := by
    simp only [calmG, List.all_cons, List.all_nil, Bool.and_true] at hc
    by_cases h : k < g1.length
    · exact h
    · rw [List.getElem?_eq_none (Nat.le_of_not_lt h)] at hc
      cases hc
  refine seLc_ok f p e hc hl fun d hd => ?_
  obtain ⟨h1, h2⟩ := H d hd
  refine ⟨g1.set k (some (.f, mk d)), ?_, _, h1, wipe_set _ _ _, fun hp => ?_⟩
  · unfold sgName setS
    simp only [wipeG, List.set_set]
    rw [List.getElem?_set]
    simp [hk]
  · obtain ⟨o, h3⟩ := h2 hp
    exact ⟨o, _, h3, wipe_set _ _ _⟩
/-- .. without a test -/
theorem lc1m {α : Type} {mk : α → D} {si : SI} {se : SE} {k : Nat} {g g1 : G} {ds : List α} (f : α → D) (e : si g = .ok (ds.map mk) g1) (hc : calmG g1 [k] = true) (hl : ds.length < 1000000)
    (H : ∀ d ∈ ds, ∃ o, se (g1.set k (some (.f, mk d))) = .ok (o, f d) (g1.set k (some (.f, mk d)))) :
    seLc si (sgName k) (fun g => .ok true g) se [k] g = .ok (true, .lst (ds.map f)) g1 := by
  have := lc1 (st := fun g => .ok true g) f (fun _ => true) e hc hl fun d hd => ⟨rfl, fun _ => H d hd⟩
  rw [List.filter_eq_self.mpr (fun _ _ => rfl)] at this
  exact this
end M7.Z
/-! Sorted rows of ints. -/
namespace M7.Z
open PySem PySem.Spec PyProof.Rows L2 R7
theorem insI_comm_lt {i j : Int} (h : i < j) : ∀ l : List Int, insI i (insI j l) = insI j (insI i l)
  | [] => by
    simp [insI, Int.le_of_lt h, Int.not_le.mpr h]
  | k :: l => by
    have ih := insI_comm_lt h l
    have h3 : i ≤ j := Int.le_of_lt h
    have h4 : ¬ j ≤ i := Int.not_le.mpr h
    by_cases h1 : j ≤ k
    · have h2 : i ≤ k := by omega
      simp only [insI, h1, h2, h3, h4, if_true, if_false]
    · by_cases h2 : i ≤ k
      · simp only [insI, h1, h2, h3, h4, if_true, if_false]
      · simp only [insI, h1, h2, h3, h4, if_true, if_false, ih]
theorem insI_comm (i j : Int) (l : List Int) : insI i (insI j l) = insI j (insI i l) := by
  rcases Int.lt_trichotomy i j with h | h | h
  · exact insI_comm_lt h l
  · rw [h]
  · exact (insI_comm_lt h l).symm
theorem sortI_perm {a b : List Int} (h : a.Perm b) : sortI a = sortI b := by
  induction h with
  | nil => rfl
  | cons x _ ih => simp only [sortI, ih]
  | swap x y l => simp only [sortI]; exact insI_comm _ _ _
  | trans _ _ i1 i2 => exact i1.trans i2
theorem insI_head : ∀ (i : Int) (l : List Int), (∀ j ∈ l, i ≤ j) → insI i l = i :: l
  | i, [], _ => rfl
  | i, j :: l, h => by simp only [insI]; rw [if_pos (h j (.head _))]
theorem sortI_sorted : ∀ l : List Int, l.Pairwise (· ≤ ·) → sortI l = l
  | [], _ => rfl
  | i :: l, h => by
    rw [List.pairwise_cons] at h
    simp only [sortI]
    rw [sortI_sorted l h.2, insI_head i l h.1]
theorem insI_perm (i : Int) : ∀ l : List Int, (insI i l).Perm (i :: l)
  | [] => .refl _
  | j :: l => by
    simp only [insI]
    split
    · exact .refl _
    · exact ((insI_perm i l).cons j).trans (.swap i j l)
theorem sortI_self : ∀ l : List Int, (sortI l).Perm l
  | [] => .refl _
  | i :: l => by
    simp only [sortI]
    exact (insI_perm i _).trans ((sortI_self l).cons i)
/-- the ints lo, lo + 1, .. -/
def rgI (lo : Int) : Nat → List Int
  | 0 => []
  | n + 1 => lo :: rgI (lo + 1) n
theorem rgI_mem : ∀ (n : Nat) (lo i : Int), i ∈ rgI lo n ↔ lo ≤ i ∧ i < lo + n
  | 0, lo, i => by simp [rgI] <;> omega
  | n + 1, lo, i => by
    simp only [rgI, List.mem_cons, rgI_mem n (lo + 1) i]
    omega
theorem rgI_lt : ∀ (n : Nat) (lo : Int), (rgI lo n).Pairwise (· < ·)
  | 0, _ => .nil
  | n + 1, lo => by
    refine List.pairwise_cons.mpr ⟨fun j h => ?_, rgI_lt n _⟩
    have := (rgI_mem n (lo + 1) j).mp h
    omega
theorem rgI_le (n : Nat) (lo : Int) : (rgI lo n).Pairwise (· ≤ ·) := (rgI_lt n lo).imp fun h => Int.le_of_lt h
theorem rgI_nodup (n : Nat) (lo : Int) : (rgI lo n).Nodup := (rgI_lt n lo).imp fun h => Int.ne_of_lt h
theorem rgI_len : ∀ (n : Nat) (lo : Int), (rgI lo n).length = n
  | 0, _ => rfl
  | n + 1, lo => by simp [rgI, rgI_len n]
theorem rgI_map : ∀ (n : Nat) (lo : Int), (rgI lo n).map M7.D.int = rangeD lo n
  | 0, _ => rfl
  | n + 1, lo => by
    unfold rangeD
    rw [List.range_succ_eq_map, List.map_cons, List.map_map, rgI, List.map_cons, rgI_map n (lo + 1)]
    unfold rangeD
    congr 1
    · simp
    · refine List.map_congr_left fun k _ => ?_
      show M7.D.int _ = M7.D.int _
      congr 1
      simp
      omega
/-- different ints of a range, sorted: those of the range that are among them -/
theorem sortI_filter {e : List Int} {lo : Int} {n : Nat} (h : e.Nodup) (hr : ∀ k ∈ e, lo ≤ k ∧ k < lo + n) : sortI e = (rgI lo n).filter fun k => decide (k ∈ e) := by
  have hp : e.Perm ((rgI lo n).filter fun k => decide (k ∈ e)) := by
    rw [List.perm_ext_iff_of_nodup h ((rgI_nodup n lo).filter _)]
    intro a
    rw [List.mem_filter, rgI_mem]
    simp only [decide_eq_true_eq]
    exact ⟨fun q => ⟨hr a q, q⟩, fun q => q.2⟩
  rw [sortI_perm hp]
  exact sortI_sorted _ ((rgI_le n lo).filter _)
theorem sortI_idem (l : List Int) : sortI (sortI l) = sortI l := sortI_perm (sortI_self l)
theorem sortI_map_sub (n : Int) (l : List Int) : sortI ((sortI l).map fun k => n - k) = sortI (l.map fun k => n - k) := sortI_perm ((sortI_self l).map _)
theorem mem_sortI {l : List Int} {i : Int} : i ∈ sortI l ↔ i ∈ l := (sortI_self l).mem_iff
theorem nodup_sortI {l : List Int} : (sortI l).Nodup ↔ l.Nodup := (sortI_self l).nodup_iff
theorem len_sortI (l : List Int) : (sortI l).length = l.length := (sortI_self l).length_eq
theorem ddp_nodup : ∀ l : List Int, l.Nodup → ddp l = l
  | [], _ => rfl
  | i :: l, h => by
    rw [List.nodup_cons] at h
    simp only [ddp, h.1, if_false, ddp_nodup l h.2]
theorem intsD_map : ∀ ns : List Int, intsD (ns.map M7.D.int) = some ns
  | [] => rfl
  | i :: ns => by simp only [List.map_cons, intsD, intsD_map ns, Option.map_some]
theorem dSorted_tup (ns : List Int) : dSorted [.tup (ns.map M7.D.int)] = some (true, .lst ((sortI ns).map .int)) := by
  simp only [dSorted, intsD_map, Option.map_some]
theorem dSorted_lst (ns : List Int) : dSorted [.lst (ns.map M7.D.int)] = some (true, .lst ((sortI ns).map .int)) := by
  simp only [dSorted, intsD_map, Option.map_some]
theorem boolsOf_map {α : Type} (f : α → Bool) : ∀ l : List α, boolsOf (l.map fun a => M7.D.bl (f a)) = some (l.map f)
  | [] => rfl
  | a :: l => by simp only [List.map_cons, boolsOf, boolsOf_map f l, Option.map_some]
theorem sc_ints : ∀ ns : List Int, (ns.map M7.D.int).all D.sc = true
  | [] => rfl
  | i :: ns => by simp only [List.map_cons, List.all_cons, D.sc, sc_ints ns, Bool.and_self]
theorem inD_ints (i : Int) : ∀ ns : List Int, inD (.int i) (ns.map M7.D.int) = decide (i ∈ ns)
  | [] => by simp [inD]
  | j :: ns => by
    have ih := inD_ints i ns
    unfold inD at ih ⊢
    simp only [List.map_cons, List.any_cons, ih, D.vv, eqV, List.mem_cons]
    rw [Bool.eq_iff_iff]
    simp
    by_cases h : j = i
    · simp [h]
    · simp [h, show ¬ i = j from fun q => h q.symm]
theorem dIn_tup (neg : Bool) (i : Int) (ns : List Int) : dIn neg (.int i) (.tup (ns.map M7.D.int)) = some (false, .bl (if neg then !decide (i ∈ ns) else decide (i ∈ ns))) := by
  simp only [dIn, sc_ints, inD_ints, D.sc, and_self, if_true]
theorem dIn_lst (neg : Bool) (i : Int) (ns : List Int) : dIn neg (.int i) (.lst (ns.map M7.D.int)) = some (false, .bl (if neg then !decide (i ∈ ns) else decide (i ∈ ns))) := by
  simp only [dIn, sc_ints, inD_ints, D.sc, and_self, if_true]
end M7.Z
namespace M7.Z
open PySem PySem.Spec PyProof.Rows L2 R7 SX
theorem sized_ok (n : Nat) (x : O (Bool × D)) (h : n ≤ 100000) : sized n x = x := by
  unfold sized
  rw [if_pos (Nat.le_trans h (by decide))]
theorem fAppend_ok (ds : List D) (d : D) (h : ds.length < 100000) : fAppend (.lst ds) [d] = some (.non, .lst (ds ++ [d])) := by
  simp only [fAppend]
  rw [if_pos (Nat.lt_trans h (by decide))]
abbrev tupI (ns : List Int) : D := .tup (ns.map M7.D.int)
abbrev lstI (ns : List Int) : D := .lst (ns.map M7.D.int)
end M7.Z
namespace M7.Z
open PySem PySem.Spec PyProof.Rows L2 R7 SX
abbrev strL (t : List Nat) : D := .str (S t)
def chOk (t : List Nat) : Bool := t.all fun c => decide (c < 1114112)
theorem str_cmp {a : Str} (h : PyData.strOk a = true) : (M7.D.str a).cmpable = true := by
  unfold D.cmpable SeqAt.shaped
  simp only [D.flat, D.py, PyData.canLay0, PyData.depth, h, Bool.true_and]
  decide
theorem strOk_S {a : List Nat} (h : chOk a = true) : PyData.strOk (S a) = true := by
  unfold PyData.strOk
  rw [← Array.all_toList]
  exact h
theorem dEq_str {a b : Str} (ha : PyData.strOk a = true) (hb : PyData.strOk b = true) : dEq (.str a) (.str b) = some (false, .bl (decide (a = b))) := by
  unfold dEq
  rw [str_cmp ha, str_cmp hb]
  simp only [Bool.and_self, if_true, D.py, PyData.eqv]
  rw [show (a == b) = decide (a = b) from by rw [Bool.eq_iff_iff]; simp]
theorem dNe_str {a b : Str} (ha : PyData.strOk a = true) (hb : PyData.strOk b = true) : dNe (.str a) (.str b) = some (false, .bl (!decide (a = b))) := by
  unfold dNe
  rw [str_cmp ha, str_cmp hb]
  simp only [Bool.and_self, if_true, D.py, PyData.eqv]
  rw [show (a == b) = decide (a = b) from by rw [Bool.eq_iff_iff]; simp]
theorem dEq_strL {a b : List Nat} (ha : chOk a = true) (hb : chOk b = true) : dEq (strL a) (strL b) = some (false, .bl (decide (a = b))) := by
  rw [dEq_str (strOk_S ha) (strOk_S hb)]
  rw [show decide (S a = S b) = decide (a = b) from decide_eq_decide.mpr ⟨S_inj, fun h => by rw [h]⟩]
theorem dNe_strL {a b : List Nat} (ha : chOk a = true) (hb : chOk b = true) : dNe (strL a) (strL b) = some (false, .bl (!decide (a = b))) := by
  rw [dNe_str (strOk_S ha) (strOk_S hb)]
  rw [show decide (S a = S b) = decide (a = b) from decide_eq_decide.mpr ⟨S_inj, fun h => by rw [h]⟩]
theorem dNe_int (i j : Int) : dNe (.int i) (.int j) = some (false, .bl (!decide (i = j))) := by
  unfold dNe
  rw [show ((M7.D.int i).cmpable && (M7.D.int j).cmpable) = true from rfl, if_pos rfl]
  show some (false, M7.D.bl (!PyData.eqv (.int i) (.int j))) = _
  simp only [PyData.eqv]
  rw [show (i == j) = decide (i = j) from by rw [Bool.eq_iff_iff]; simp]
theorem S_nil {a : List Nat} : S a = S [] ↔ a = [] := ⟨S_inj, fun h => by rw [h]⟩
theorem cut_S (t : List Nat) (i j : Nat) (h : i ≤ j) : cutS (S t) (some (i : Int)) (some (j : Int)) = S ((t.drop i).take (j - i)) := by
  unfold cutS
  rw [HT.sIx_nat, HT.sIx_nat, S_len]
  show S ((t.drop (min i t.length)).take (min j t.length - min i t.length)) = _
  congr 1
  by_cases hi : i ≤ t.length
  · rw [Nat.min_eq_left hi]
    by_cases hj : j ≤ t.length
    · rw [Nat.min_eq_left hj]
    · rw [Nat.min_eq_right (by omega), List.take_of_length_le (by rw [List.length_drop] <;> omega), List.take_of_length_le (by rw [List.length_drop] <;> omega)]
  · rw [List.drop_eq_nil_of_le (by omega), List.drop_eq_nil_of_le (by omega)]
    simp
/-- the sign at a place, if it is one of these -/
def look (t : List Nat) (i : Nat) (ls : List Nat) : List Nat := match t[i]? with
  | some c => if c ∈ ls then [c] else []
  | none => []
theorem dIx_str (t : List Nat) (i c : Nat) (hs : t.length ≤ 100000) (h : t[i]? = some c) : dIx (strL t) (.int i) = some (false, strL [c]) := by
  have hi : i < t.length := (List.getElem?_eq_some_iff.mp h).1
  have hz : (S t).length ≤ sizeLine := by rw [S_len]; exact Nat.le_trans hs (by decide)
  simp only [dIx, hz, if_true]
  show ((atI t (i : Int)).map fun c => (false, M7.D.str ⟨#[c]⟩)) = _
  unfold atI ixN
  rw [if_pos (by omega), if_pos (by omega)]
  simp [h]
theorem dLen_str (t : List Nat) (hs : t.length ≤ 100000) : dLen [strL t] = some (false, .int (t.length : Nat)) := by
  have hz : (S t).length ≤ sizeLine := by rw [S_len]; exact Nat.le_trans hs (by decide)
  simp only [dLen]
  rw [if_pos hz, S_len]
theorem dIn_str (t : List Nat) (c : Nat) : dIn false (strL [c]) (strL t) = some (false, .bl (decide (c ∈ t))) := by
  simp only [dIn, Bool.false_eq_true, if_false]
  rw [in_one]
theorem letter_gen (L : List D → Option (Bool × D)) (X I : D → D → Option (Bool × D)) (t i ls c : D) (n : Int) (b b' : Bool) (e0 : dLt i (.int n) = some (false, .bl b)) (e1 : L [t] = some (false, .int n)) (e2 : b = true → X t i = some (false, c)) (e3 : b = true → I c ls = some (false, .bl b')) :
    bodyFn 3 3 (ssSeq (ssIf (stAnd (stB (seOp dLt (sbVar 1) (sbOf (seCB L (saCons (sbVar 0) saNil))))) (stB (seOp I (sbOf (seOp X (sbVar 0) (sbVar 1))) (sbVar 2)))) (ssRet (seOp X (sbVar 0) (sbVar 1))) ssNext) (ssRet (seC (.str "")))) [(false, t), (false, i), (false, ls)] =
      .ret false (if b = true ∧ b' = true then c else .str "") [(false, t), (false, i), (false, ls)] := by
  unfold bodyFn
  cases b <;> cases b' <;> simp_all [argG, ssSeq, ssIf, stAnd, stB, seOp, sbVar, sbOf, seCB, saCons, saNil, O.bind, refsGet, Ref.get, ofOpt, ofO, ssRet, ssNext, seC, endsOf, endOf]
theorem e_empty : (("" : String) : Str) = S [] := by decide +kernel
theorem letter_ok (t : List Nat) (i : Nat) (ls : List Nat) (hs : t.length ≤ 100000) :
    φ_letter_at [(false, strL t), (false, .int i), (false, strL ls)] = .ret false (strL (look t i ls)) [(false, strL t), (false, .int i), (false, strL ls)] := by
  by_cases hi : i < t.length
  · have hc : t[i]? = some t[i] := List.getElem?_eq_getElem hi
    refine (letter_gen dLen dIx (dIn false) (strL t) (.int i) (strL ls) (strL [t[i]]) t.length true (decide (t[i] ∈ ls)) (by simp [dLt, dCmp, hi]) (dLen_str t hs) (fun _ => dIx_str t i _ hs hc) fun _ => dIn_str _ _).trans ?_
    unfold look
    rw [hc]
    by_cases hm : t[i] ∈ ls
    · simp [hm]
    · simp [hm, e_empty]
  · have hc : t[i]? = none := List.getElem?_eq_none (by omega)
    refine (letter_gen dLen dIx (dIn false) (strL t) (.int i) (strL ls) .non t.length false false (by simp [dLt, dCmp]; omega) (dLen_str t hs) (by simp) (by simp)).trans ?_
    unfold look
    rw [hc]
    simp [e_empty]
/-! numbers of a length -/
def num (m : Int) : List Nat := if m < 10 then [(48 + m).toNat] else [(48 + m / 10).toNat, (48 + m % 10).toNat]
def dig (c : Nat) : Bool := decide (48 ≤ c ∧ c ≤ 57)
def numOk (m : Int) : Bool := decide (Str.ofString (toString m) = S (num m)) && decide (intText? (S (num m)) = some m) && (match num m with
  | [a] => decide (49 ≤ a ∧ a ≤ 57)
  | [a, b] => decide (49 ≤ a ∧ a ≤ 57) && dig b
  | _ => false) && decide (m.natAbs.log2 < 1920)
theorem num_all : ((List.range 40).all fun k => numOk ((k : Nat) + 1 : Int)) = true := by decide +kernel
theorem num_ok {m : Int} (h : Rod m) : numOk m = true := by
  obtain ⟨h1, h2⟩ := h
  have := List.all_eq_true.mp num_all (m - 1).toNat (List.mem_range.mpr (by omega))
  rwa [show (((m - 1).toNat : Nat) : Int) + 1 = m by omega] at this
theorem num_str {m : Int} (h : Rod m) : Str.ofString (toString m) = S (num m) := by
  have := num_ok h
  unfold numOk at this
  simp only [Bool.and_eq_true, decide_eq_true_eq] at this
  exact this.1.1.1
theorem num_int {m : Int} (h : Rod m) : intText? (S (num m)) = some m := by
  have := num_ok h
  unfold numOk at this
  simp only [Bool.and_eq_true, decide_eq_true_eq] at this
  exact this.1.1.2
theorem num_log {m : Int} (h : Rod m) : m.natAbs.log2 < 1920 := by
  have := num_ok h
  unfold numOk at this
  simp only [Bool.and_eq_true, decide_eq_true_eq] at this
  exact this.2
theorem num_shape {m : Int} (h : Rod m) : (∃ a, num m = [a] ∧ 49 ≤ a ∧ a ≤ 57) ∨ ∃ a b, num m = [a, b] ∧ 49 ≤ a ∧ a ≤ 57 ∧ dig b = true := by
  have := num_ok h
  unfold numOk at this
  simp only [Bool.and_eq_true] at this
  have h3 := this.1.2
  split at h3
  · rename_i a e
    exact .inl ⟨a, e, by simpa using h3⟩
  · rename_i a b e
    rw [Bool.and_eq_true, decide_eq_true_eq] at h3
    exact .inr ⟨a, b, e, h3.1.1, h3.1.2, h3.2⟩
  · cases h3
theorem e_dig : (("0123456789" : String) : Str) = S [48, 49, 50, 51, 52, 53, 54, 55, 56, 57] := by decide +kernel
theorem e_fdig : (("123456789" : String) : Str) = S [49, 50, 51, 52, 53, 54, 55, 56, 57] := by decide +kernel
end M7.Z
namespace M7.Z
open PySem PySem.Spec PyProof.Rows L2 R7 SX
theorem size_gen (φ : Fn) (E N : D → D → Option (Bool × D)) (I : List D → Option (Bool × D)) (Z : D → Option Int → Option Int → Option (Bool × D)) (t x1 x2 z s1 s2 s0 : D) (i ml k : Int) (b1 b2 : Bool)
    (e1 : φ [(false, t), (false, .int i), (false, s1)] = .ret false x1 [(false, t), (false, .int i), (false, s1)]) (q1 : E x1 s0 = some (false, .bl b1))
    (e2 : b1 = false → φ [(false, t), (false, .int (i + 1)), (false, s2)] = .ret false x2 [(false, t), (false, .int (i + 1)), (false, s2)]) (q2 : b1 = false → N x2 s0 = some (false, .bl b2))
    (e3 : b1 = false → b2 = true → Z t (some i) (some (i + 2)) = some (false, z)) (q3 : b1 = false → b2 = true → I [z] = some (false, .int k)) :
    bodyFn 3 3 (ssSeq (ssIf (stB (seOp E (sbOf (seCall φ (saCons (sbVar 0) (saCons (sbVar 1) (saCons (sbOf (seC s1)) saNil))))) (sbOf (seC s0)))) (ssRet (seC (.int 0))) ssNext)
    (ssSeq (ssIf (stAnd (stB (seOp N (sbOf (seCall φ (saCons (sbVar 0) (saCons (sbOf (seOp dAdd (sbVar 1) (sbOf (seC (.int 1))))) (saCons (sbOf (seC s2)) saNil))))) (sbOf (seC s0)))) (stB (seOp dLe (sbOf (seCB I (saCons (sbOf (seSl Z (sbVar 0) (soSome (seVar 1)) (soSome (seOp dAdd (sbVar 1) (sbOf (seC (.int 2))))))) saNil))) (sbVar 2)))) (ssRet (seC (.int 2))) ssNext)
    (ssRet (seC (.int 1))))) [(false, t), (false, .int i), (false, .int ml)] =
      .ret false (.int (if b1 = true then 0 else if b2 = true ∧ k ≤ ml then 2 else 1)) [(false, t), (false, .int i), (false, .int ml)] := by
  unfold bodyFn
  cases b1
  · cases b2
    · simp_all [argG, ssSeq, ssIf, stAnd, stB, seOp, sbVar, sbOf, seCB, seC, saCons, saNil, seCall, distinct, lentOf, argsOf, argOf, Fl.own, giveBack, O.bind, refsGet, Ref.get, ofOpt, ofO, ssRet, ssNext, dAdd, endsOf, endOf]
    · by_cases h : k ≤ ml
      · simp_all [argG, ssSeq, ssIf, stAnd, stB, seOp, sbVar, sbOf, seCB, seC, saCons, saNil, seCall, distinct, lentOf, argsOf, argOf, Fl.own, Fl.fz, giveBack, O.bind, refsGet, Ref.get, ofOpt, ofO, ssRet, ssNext, dAdd, seSl, soSome, seVar, dLe, dCmp, endsOf, endOf]
      · have e2 := e2 rfl
        have q2 := q2 rfl
        have e3 := e3 rfl rfl
        have q3 := q3 rfl rfl
        simp [e1, q1, e2, q2, e3, q3, h, argG, ssSeq, ssIf, stAnd, stB, seOp, sbVar, sbOf, seCB, seC, saCons, saNil, seCall, distinct, lentOf, argsOf, argOf, Fl.own, Fl.fz, giveBack, O.bind, refsGet, Ref.get, ofOpt, ofO, ssRet, ssNext, dAdd, seSl, soSome, seVar, dLe, dCmp, endsOf, endOf]
  · simp_all [argG, ssSeq, ssIf, stAnd, stB, seOp, sbVar, sbOf, seCB, seC, saCons, saNil, seCall, distinct, lentOf, argsOf, argOf, Fl.own, giveBack, O.bind, refsGet, Ref.get, ofOpt, ofO, ssRet, ssNext, dAdd, endsOf, endOf]
abbrev digs : List Nat := [48, 49, 50, 51, 52, 53, 54, 55, 56, 57]
abbrev fdigs : List Nat := [49, 50, 51, 52, 53, 54, 55, 56, 57]
theorem e_digL : M7.D.str (("0123456789" : String) : Str) = strL digs := congrArg M7.D.str e_dig
theorem e_fdigL : M7.D.str (("123456789" : String) : Str) = strL fdigs := congrArg M7.D.str e_fdig
theorem look_ok (t : List Nat) (i : Nat) (ls : List Nat) (h : chOk ls = true) : chOk (look t i ls) = true := by
  unfold look
  split
  · split
    · rename_i c _ hm
      have := List.all_eq_true.mp h c hm
      simp only [chOk, List.all_cons, List.all_nil, this, Bool.and_true]
    · rfl
  · rfl
theorem mem_digs {c : Nat} : c ∈ digs ↔ dig c = true := by
  unfold dig
  simp only [digs, List.mem_cons, List.not_mem_nil, or_false, decide_eq_true_eq]
  omega
theorem mem_fdigs {c : Nat} : c ∈ fdigs ↔ 49 ≤ c ∧ c ≤ 57 := by
  simp only [fdigs, List.mem_cons, List.not_mem_nil, or_false]
  omega
theorem look_at {t : List Nat} {i c : Nat} {ls : List Nat} (h : t[i]? = some c) (m : c ∈ ls) : look t i ls = [c] := by
  unfold look
  rw [h]
  exact if_pos m
theorem look_not {t : List Nat} {i : Nat} {ls : List Nat} (h : ∀ c, t[i]? = some c → c ∉ ls) : look t i ls = [] := by
  unfold look
  cases e : t[i]? with
  | none => rfl
  | some c => exact if_neg (h c e)
/-- no digit stands ahead -/
def nodig (r : List Nat) : Prop := ∀ c, r.head? = some c → dig c = false
theorem dSl_str (t : List Nat) (i j : Nat) (hs : t.length ≤ 100000) (h : i ≤ j) : dSl (strL t) (some (i : Int)) (some (j : Int)) = some (false, strL ((t.drop i).take (j - i))) := by
  have hz : (S t).length ≤ sizeLine := by rw [S_len]; exact Nat.le_trans hs (by decide)
  simp only [dSl]
  rw [if_pos hz, cut_S t i j h]
theorem dIntC_S {a : List Nat} {m : Int} (h : intText? (S a) = some m) (hl : a.length ≤ 640) : dIntC [strL a] = some (false, .int m) := by
  have hz : (S a).length ≤ 640 := by rw [S_len]; exact hl
  simp only [dIntC]
  rw [if_pos hz, h, Option.map_some]
theorem size_num (pre r : List Nat) (m : Int) (hm : Rod m) (hr : nodig r) (hs : (pre ++ (num m ++ r)).length ≤ 100000) :
    φ_length_size [(false, strL (pre ++ (num m ++ r))), (false, .int pre.length), (false, .int 40)] = .ret false (.int (num m).length) [(false, strL (pre ++ (num m ++ r))), (false, .int pre.length), (false, .int 40)] := by
  have l1 := letter_ok (pre ++ (num m ++ r)) pre.length fdigs hs
  have l2 := letter_ok (pre ++ (num m ++ r)) (pre.length + 1) digs hs
  rw [← e_fdigL] at l1
  rw [← e_digL] at l2
  rcases num_shape hm with ⟨a, e, h1, h2⟩ | ⟨a, b, e, h1, h2, h3⟩
  · have p1 : look (pre ++ (num m ++ r)) pre.length fdigs = [a] := look_at (by rw [e] <;> simp) (mem_fdigs.mpr ⟨h1, h2⟩)
    have p2 : look (pre ++ (num m ++ r)) (pre.length + 1) digs = [] := look_not fun c hc hd => by
      rw [e] at hc
      have : r.head? = some c := by
        rw [List.getElem?_append_right (by omega), show pre.length + 1 - pre.length = 1 by omega] at hc
        simp at hc
        rw [← hc, List.head?_eq_getElem?]
      rw [mem_digs, hr c this] at hd
      cases hd
    rw [p1] at l1
    rw [p2] at l2
    refine (size_gen φ_letter_at dEq dNe dIntC dSl _ _ _ .non _ _ (.str "") pre.length 40 0 false false l1 ?_ (fun _ => l2) ?_ (by simp) (by simp)).trans ?_
    · rw [e_empty, dEq_strL (by rw [chOk] <;> simp <;> omega) rfl]; simp
    · intro _; rw [e_empty, dNe_strL rfl rfl]; simp
    · rw [e]; simp
  · have p1 : look (pre ++ (num m ++ r)) pre.length fdigs = [a] := look_at (by rw [e] <;> simp) (mem_fdigs.mpr ⟨h1, h2⟩)
    have p2 : look (pre ++ (num m ++ r)) (pre.length + 1) digs = [b] := look_at (by rw [e, List.getElem?_append_right (by omega), show pre.length + 1 - pre.length = 1 by omega] <;> simp) (mem_digs.mpr h3)
    have hb : b < 1114112 := by
      have := mem_digs.mpr h3
      rw [mem_digs] at this
      unfold dig at this
      rw [decide_eq_true_eq] at this
      omega
    rw [p1] at l1
    rw [p2] at l2
    refine (size_gen φ_letter_at dEq dNe dIntC dSl _ _ _ (strL (num m)) _ _ (.str "") pre.length 40 m false true l1 ?_ (fun _ => l2) ?_ (fun _ _ => ?_) (fun _ _ => dIntC_S (num_int hm) (by rw [e] <;> simp))).trans ?_
    · rw [e_empty, dEq_strL (by rw [chOk] <;> simp <;> omega) rfl]; simp
    · intro _; rw [e_empty, dNe_strL (by rw [chOk] <;> simp <;> omega) rfl]; simp
    · rw [show (pre.length : Int) + 2 = ((pre.length + 2 : Nat) : Int) by omega, dSl_str _ _ _ hs (by omega)]
      rw [show pre.length + 2 - pre.length = 2 by omega, List.drop_left, e]
      rfl
    · rw [e]
      have := hm.2
      simp [this]
end M7.Z
namespace M7.Z
open PySem PySem.Spec PyProof.Rows L2 R7 SX
/-- cut's lap: N1, N2: what is done with a text that is none -/
def cutB (φz φl : Fn) (E : D → D → Option (Bool × D)) (I L : List D → Option (Bool × D)) (Z : D → Option Int → Option Int → Option (Bool × D)) (A : D → List D → Option (D × D)) (N1 N2 : SS) : SS :=
    (ssSeq (ssAsg (seCall φz (saCons (sbVar 0) (saCons (sbVar 8) (saCons (sbVar 2) saNil)))) (sgName 9))
    (ssSeq (ssIf (stB (seOp E (sbVar 9) (sbOf (seC (.int 0))))) N1 ssNext)
    (ssSeq (ssDrop (seMutV isLst 5 A (saCons (sbOf (seCB I (saCons (sbOf (seSl Z (sbVar 0) (soSome (seVar 8)) (soSome (seOp dAdd (sbVar 8) (sbVar 9))))) saNil))) saNil)))
    (ssSeq (ssAsg (seCall φl (saCons (sbVar 0) (saCons (sbOf (seOp dAdd (sbVar 8) (sbVar 9))) (saCons (sbVar 4) saNil)))) (sgName 10))
    (ssSeq (ssDrop (seMutV isLst 7 A (saCons (sbOf (seVar 10)) saNil)))
    (ssSeq (ssAugI (fun i j => i + j) 8 (seOp dAdd (sbVar 9) (sbOf (seCB L (saCons (sbVar 10) saNil)))))
    (ssSeq (ssIf (stB (seOp E (sbVar 8) (sbOf (seCB L (saCons (sbVar 0) saNil))))) (ssRet (seTup (saCons (sbOf (seVar 5)) (saCons (sbOf (seVar 6)) (saCons (sbOf (seVar 7)) saNil))))) ssNext)
    (ssSeq (ssAsg (seCall φl (saCons (sbVar 0) (saCons (sbVar 8) (saCons (sbVar 3) saNil)))) (sgName 11))
    (ssSeq (ssIf (stOr (stB (seOp E (sbVar 11) (sbOf (seC (.str ""))))) (stB (seOp E (sbOf (seCB L (saCons (sbVar 5) saNil))) (sbVar 1)))) N2 ssNext)
    (ssSeq (ssDrop (seMutV isLst 6 A (saCons (sbOf (seVar 11)) saNil)))
    (ssAugI (fun i j => i + j) 8 (seC (.int 1)))))))))))))
abbrev cutG (t mr ml hs as ls bs cs : D) (i : Int) (x9 x10 x11 : Option (Fl × D)) : G := [some (.f, t), some (.f, mr), some (.f, ml), some (.f, hs), some (.f, as), some (.o, ls), some (.o, bs), some (.o, cs), some (.f, .int i), x9, x10, x11]
/-- the slots of a lap -/
def lapX (x9 x10 x11 : Option (Fl × D)) : Prop := (x9 = none ∧ x10 = none ∧ x11 = none) ∨ ∃ d9 d10 d11, x9 = some (.f, d9) ∧ x10 = some (.f, d10) ∧ x11 = some (.f, d11)
section
variable {φz φl : Fn} {E : D → D → Option (Bool × D)} {I L : List D → Option (Bool × D)} {Z : D → Option Int → Option Int → Option (Bool × D)} {A : D → List D → Option (D × D)} {N1 N2 : SS}
  {t ml mr hs as w a h : D} {ls bs cs ls' bs' cs' : List D} {i z m na nt : Int} {x9 x10 x11 : Option (Fl × D)}
theorem cut_next (hx : lapX x9 x10 x11) (ez : φz [(false, t), (false, .int i), (false, ml)] = .ret false (.int z) [(false, t), (false, .int i), (false, ml)]) (h0 : E (.int z) (.int 0) = some (false, .bl false))
    (es : Z t (some i) (some (i + z)) = some (false, w)) (ei : I [w] = some (false, .int m)) (el : φl [(false, t), (false, .int (i + z)), (false, as)] = .ret false a [(false, t), (false, .int (i + z)), (false, as)])
    (e1 : L [a] = some (false, .int na)) (e2 : L [t] = some (false, .int nt)) (h1 : E (.int (i + (z + na))) (.int nt) = some (false, .bl false))
    (el2 : φl [(false, t), (false, .int (i + (z + na))), (false, hs)] = .ret false h [(false, t), (false, .int (i + (z + na))), (false, hs)]) (eh : E h (.str "") = some (false, .bl false))
    (e3 : L [.lst ls'] = some (false, .int nl)) (h2 : E (.int nl) mr = some (false, .bl false))
    (a1 : A (.lst ls) [.int m] = some (.non, .lst ls')) (a2 : A (.lst cs) [a] = some (.non, .lst cs')) (a3 : A (.lst bs) [h] = some (.non, .lst bs')) :
    cutB φz φl E I L Z A N1 N2 (cutG t mr ml hs as (.lst ls) (.lst bs) (.lst cs) i x9 x10 x11) =
      .nx (cutG t mr ml hs as (.lst ls') (.lst bs') (.lst cs') (i + (z + na) + 1) (some (.f, .int z)) (some (.f, a)) (some (.f, h))) := by
  unfold cutB
  rcases hx with ⟨rfl, rfl, rfl⟩ | ⟨d9, d10, d11, rfl, rfl, rfl⟩
  · simp [ez, h0, es, ei, el, e1, e2, h1, el2, eh, e3, h2, a1, a2, a3, ssSeq, ssIf, ssDrop, ssAsg, ssNext, ssAugI, stB, stOr, seOp, sbVar, sbOf, seVar, seCB, seC, saCons, saNil, seCall, distinct, lentOf, argsOf, argOf, Fl.own, Fl.pin, Fl.fz, giveBack, O.bind, refsGet, datas, Ref.get, ofOpt, ofO, dAdd, seSl, soSome, sgName, setS, seMutV, seMut, ownAt, isLst]
  · simp [ez, h0, es, ei, el, e1, e2, h1, el2, eh, e3, h2, a1, a2, a3, ssSeq, ssIf, ssDrop, ssAsg, ssNext, ssAugI, stB, stOr, seOp, sbVar, sbOf, seVar, seCB, seC, saCons, saNil, seCall, distinct, lentOf, argsOf, argOf, Fl.own, Fl.pin, Fl.fz, giveBack, O.bind, refsGet, datas, Ref.get, ofOpt, ofO, dAdd, seSl, soSome, sgName, setS, seMutV, seMut, ownAt, isLst]
theorem cut_end (hx : lapX x9 x10 x11) (ez : φz [(false, t), (false, .int i), (false, ml)] = .ret false (.int z) [(false, t), (false, .int i), (false, ml)]) (h0 : E (.int z) (.int 0) = some (false, .bl false))
    (es : Z t (some i) (some (i + z)) = some (false, w)) (ei : I [w] = some (false, .int m)) (el : φl [(false, t), (false, .int (i + z)), (false, as)] = .ret false a [(false, t), (false, .int (i + z)), (false, as)])
    (e1 : L [a] = some (false, .int na)) (e2 : L [t] = some (false, .int nt)) (h1 : E (.int (i + (z + na))) (.int nt) = some (false, .bl true))
    (a1 : A (.lst ls) [.int m] = some (.non, .lst ls')) (a2 : A (.lst cs) [a] = some (.non, .lst cs')) :
    ∃ g, cutB φz φl E I L Z A N1 N2 (cutG t mr ml hs as (.lst ls) (.lst bs) (.lst cs) i x9 x10 x11) =
      .rt false (.tup [.lst ls', .lst bs, .lst cs']) (some (.f, t) :: some (.f, mr) :: some (.f, ml) :: some (.f, hs) :: some (.f, as) :: g) := by
  unfold cutB
  rcases hx with ⟨rfl, rfl, rfl⟩ | ⟨d9, d10, d11, rfl, rfl, rfl⟩
  · simp [ez, h0, es, ei, el, e1, e2, h1, a1, a2, ssSeq, ssIf, ssDrop, ssAsg, ssNext, ssAugI, stB, stOr, seOp, sbVar, sbOf, seVar, seCB, seC, saCons, saNil, seCall, distinct, lentOf, argsOf, argOf, Fl.own, Fl.pin, Fl.fz, giveBack, O.bind, refsGet, datas, Ref.get, ofOpt, ofO, dAdd, seSl, soSome, sgName, setS, seMutV, seMut, ownAt, isLst, ssRet, seTup, sized_ok]
  · simp [ez, h0, es, ei, el, e1, e2, h1, a1, a2, ssSeq, ssIf, ssDrop, ssAsg, ssNext, ssAugI, stB, stOr, seOp, sbVar, sbOf, seVar, seCB, seC, saCons, saNil, seCall, distinct, lentOf, argsOf, argOf, Fl.own, Fl.pin, Fl.fz, giveBack, O.bind, refsGet, datas, Ref.get, ofOpt, ofO, dAdd, seSl, soSome, sgName, setS, seMutV, seMut, ownAt, isLst, ssRet, seTup, sized_ok]
end
/-- the parts of a text behind its first rod -/
def tailT : List (Nat × Int × List Nat) → List Nat
  | [] => []
  | (h, m, a) :: r => h :: (num m ++ (a ++ tailT r))
/-- marks and aims of these kinds -/
structure PtOk (hs as : List Nat) (m : Int) (a : List Nat) : Prop where
  rod : Rod m
  aim : a = [] ∨ ∃ c, a = [c] ∧ c ∈ as
structure KindOk (hs as : List Nat) : Prop where
  h1 : chOk hs = true
  h2 : chOk as = true
  nd : ∀ c ∈ hs, dig c = false
  na : ∀ c ∈ as, dig c = false
  dj : ∀ c ∈ hs, c ∉ as
theorem nodig_tail {hs as : List Nat} (K : KindOk hs as) {a : List Nat} (ha : a = [] ∨ ∃ c, a = [c] ∧ c ∈ as) {r : List (Nat × Int × List Nat)} (hr : ∀ p ∈ r, p.1 ∈ hs) : nodig (a ++ tailT r) := by
  intro c hc
  rcases ha with rfl | ⟨d, rfl, hd⟩
  · cases r with
    | nil => cases hc
    | cons p r =>
      have : p.1 = c := by simpa [tailT] using hc
      rw [← this]
      exact K.nd _ (hr p (.head _))
  · have : d = c := by simpa using hc
    rw [← this]
    exact K.na _ hd
theorem look_aim {hs as : List Nat} (K : KindOk hs as) {a pre : List Nat} (ha : a = [] ∨ ∃ c, a = [c] ∧ c ∈ as) {r : List (Nat × Int × List Nat)} (hr : ∀ p ∈ r, p.1 ∈ hs) : look (pre ++ (a ++ tailT r)) pre.length as = a := by
  rcases ha with rfl | ⟨d, rfl, hd⟩
  · refine look_not fun c hc hm => ?_
    rw [List.getElem?_append_right (Nat.le_refl _), Nat.sub_self] at hc
    cases r with
    | nil => simp [tailT] at hc
    | cons p r =>
      have : p.1 = c := by simpa [tailT] using hc
      rw [← this] at hm
      exact K.dj _ (hr p (.head _)) hm
  · exact look_at (by rw [List.getElem?_append_right (Nat.le_refl _), Nat.sub_self] <;> simp) hd
end M7.Z
namespace M7.Z
open PySem PySem.Spec PyProof.Rows L2 R7 SX
abbrev lstS (bs : List (List Nat)) : D := .lst (bs.map strL)
theorem loopW_rt {c : ST} {b : SS} {n : Nat} {g : G} {o : Bool} {d : D} {g' : G} (hc : c g = .ok true g) (hb : b g = .rt o d g') : loopW c b (n + 1) g = .rt o d g' := by
  simp only [loopW, hc, hb]
theorem loopW_nx {c : ST} {b : SS} {n : Nat} {g : G} {g' : G} (hc : c g = .ok true g) (hb : b g = .nx g') : loopW c b (n + 1) g = loopW c b n g' := by
  simp only [loopW, hc, hb]
theorem cTrue (g : G) : stB (seC (.bl true)) g = .ok true g := rfl
theorem fApp {ds : List D} {d : D} (h : ds.length < 100000) : fAppend (.lst ds) [d] = some (.non, .lst (ds ++ [d])) := fAppend_ok ds d h
theorem cut_loop {hs as T : List Nat} (K : KindOk hs as) {N1 N2 : SS} (hT : T.length ≤ 100000) : ∀ (r : List (Nat × Int × List Nat)) (m : Int) (a pre : List Nat) (ls : List Int) (bs cs : List (List Nat)) (x9 x10 x11 : Option (Fl × D)) (n : Nat),
    T = pre ++ (num m ++ (a ++ tailT r)) → Rod m → (a = [] ∨ ∃ c, a = [c] ∧ c ∈ as) → (∀ p ∈ r, p.1 ∈ hs ∧ Rod p.2.1 ∧ (p.2.2 = [] ∨ ∃ c, p.2.2 = [c] ∧ c ∈ as)) →
    ls.length + 1 + r.length ≤ 12 → bs.length ≤ ls.length → cs.length ≤ ls.length → r.length < n → lapX x9 x10 x11 →
    ∃ g, loopW (stB (seC (.bl true))) (cutB φ_length_size φ_letter_at dEq dIntC dLen dSl fAppend N1 N2) n (cutG (strL T) (.int 12) (.int 40) (strL hs) (strL as) (lstI ls) (lstS bs) (lstS cs) (pre.length : Nat) x9 x10 x11) =
      .rt false (.tup [lstI (ls ++ m :: r.map (·.2.1)), lstS (bs ++ r.map fun p => [p.1]), lstS (cs ++ a :: r.map (·.2.2))]) (some (.f, strL T) :: some (.f, .int 12) :: some (.f, .int 40) :: some (.f, strL hs) :: some (.f, strL as) :: g)
  | r, m, a, pre, ls, bs, cs, x9, x10, x11, 0, _, _, _, _, _, _, _, hn, _ => absurd hn (Nat.not_lt_zero _)
  | r, m, a, pre, ls, bs, cs, x9, x10, x11, n + 1, eT, hm, ha, hr, hl, hb, hc, hn, hx => by
    have ez : φ_length_size [(false, strL T), (false, .int (pre.length : Nat)), (false, .int 40)] = .ret false (.int (num m).length) [(false, strL T), (false, .int (pre.length : Nat)), (false, .int 40)] := by
      rw [eT]
      exact size_num pre (a ++ tailT r) m hm (nodig_tail K ha fun p hp => (hr p hp).1) (by rw [← eT]; exact hT)
    have hz : 1 ≤ (num m).length ∧ (num m).length ≤ 2 := by
      rcases num_shape hm with ⟨_, e, _⟩ | ⟨_, _, e, _⟩ <;> rw [e] <;> simp
    have hal : a.length ≤ 1 := by
      rcases ha with rfl | ⟨c, rfl, _⟩ <;> simp
    have es : dSl (strL T) (some (pre.length : Nat)) (some ((pre.length : Nat) + ((num m).length : Nat) : Int)) = some (false, strL (num m)) := by
      have := dSl_str T pre.length (pre.length + (num m).length) hT (by omega)
      rw [show pre.length + (num m).length - pre.length = (num m).length by omega] at this
      rw [eT, List.drop_left, List.take_left, ← eT] at this
      rw [← this]
      simp
    have ei : dIntC [strL (num m)] = some (false, .int m) := dIntC_S (num_int hm) (by omega)
    have el : φ_letter_at [(false, strL T), (false, .int ((pre.length : Nat) + ((num m).length : Nat) : Int)), (false, strL as)] = .ret false (strL a) [(false, strL T), (false, .int ((pre.length : Nat) + ((num m).length : Nat) : Int)), (false, strL as)] := by
      have := letter_ok T (pre.length + (num m).length) as hT
      rw [show look T (pre.length + (num m).length) as = a by
        rw [eT, ← List.append_assoc, ← List.length_append]
        exact look_aim K ha fun p hp => (hr p hp).1] at this
      rw [Int.natCast_add] at this
      exact this
    have e1 : dLen [strL a] = some (false, .int (a.length : Nat)) := dLen_str a (by omega)
    have e2 : dLen [strL T] = some (false, .int (T.length : Nat)) := dLen_str T hT
    have h0 : dEq (.int ((num m).length : Nat)) (.int 0) = some (false, .bl false) := by
      rw [dEq_int, decide_eq_false (by omega)]
    have a1 : fAppend (lstI ls) [.int m] = some (.non, lstI (ls ++ [m])) := by
      rw [show lstI (ls ++ [m]) = .lst (ls.map M7.D.int ++ [.int m]) by simp]
      exact fApp (by rw [List.length_map]; omega)
    have a2 : fAppend (lstS cs) [strL a] = some (.non, lstS (cs ++ [a])) := by
      rw [show lstS (cs ++ [a]) = .lst (cs.map strL ++ [strL a]) by simp]
      exact fApp (by rw [List.length_map]; omega)
    cases r with
    | nil =>
      have h1 : dEq (.int ((pre.length : Nat) + (((num m).length : Nat) + (a.length : Nat)) : Int)) (.int (T.length : Nat)) = some (false, .bl true) := by
        rw [dEq_int, decide_eq_true]
        rw [eT]
        simp [tailT]
      obtain ⟨g, e⟩ := cut_end (E := dEq) (I := dIntC) (L := dLen) (Z := dSl) (A := fAppend) (N1 := N1) (N2 := N2) (mr := .int 12) (hs := strL hs) (bs := bs.map strL) (φl := φ_letter_at) hx ez h0 es ei el e1 e2 h1 a1 a2
      refine ⟨g, ?_⟩
      rw [loopW_rt (cTrue _) e]
      simp
    | cons p r =>
      obtain ⟨h, m', a'⟩ := p
      have hp := hr _ (.head _)
      have e4 : T = (pre ++ (num m ++ (a ++ [h]))) ++ (num m' ++ (a' ++ tailT r)) := by
        rw [eT]
        simp [tailT]
      have e5 : T = (pre ++ (num m ++ a)) ++ h :: (num m' ++ (a' ++ tailT r)) := by
        rw [eT]
        simp [tailT]
      have hlt : pre.length + ((num m).length + a.length) < T.length := by
        rw [e5]
        simp
      have h1 : dEq (.int ((pre.length : Nat) + (((num m).length : Nat) + (a.length : Nat)) : Int)) (.int (T.length : Nat)) = some (false, .bl false) := by
        rw [dEq_int, decide_eq_false (by omega)]
      have el2 : φ_letter_at [(false, strL T), (false, .int ((pre.length : Nat) + (((num m).length : Nat) + (a.length : Nat)) : Int)), (false, strL hs)] = .ret false (strL [h]) [(false, strL T), (false, .int ((pre.length : Nat) + (((num m).length : Nat) + (a.length : Nat)) : Int)), (false, strL hs)] := by
        have := letter_ok T (pre.length + ((num m).length + a.length)) hs hT
        rw [show look T (pre.length + ((num m).length + a.length)) hs = [h] from look_at (by
          rw [e5, List.getElem?_append_right (by simp)]
          simp) hp.1] at this
        rw [Int.natCast_add, Int.natCast_add] at this
        exact this
      have eh : dEq (strL [h]) (.str "") = some (false, .bl false) := by
        rw [e_empty, dEq_strL (by
          have := List.all_eq_true.mp K.h1 h hp.1
          simp only [chOk, List.all_cons, List.all_nil, this, Bool.and_true]) rfl]
        simp
      have hl' : (ls.length : Int) + 1 + r.length + 1 ≤ 12 := by simp at hl; omega
      have e3 : dLen [lstI (ls ++ [m])] = some (false, .int ((ls.length : Nat) + 1 : Int)) := by simp [dLen]
      have h2 : dEq (.int ((ls.length : Nat) + 1 : Int)) (.int 12) = some (false, .bl false) := by
        rw [dEq_int, decide_eq_false (by omega)]
      have a3 : fAppend (lstS bs) [strL [h]] = some (.non, lstS (bs ++ [[h]])) := by
        rw [show lstS (bs ++ [[h]]) = .lst (bs.map strL ++ [strL [h]]) by simp]
        exact fApp (by rw [List.length_map]; omega)
      have e := cut_next (E := dEq) (I := dIntC) (L := dLen) (Z := dSl) (A := fAppend) (N1 := N1) (N2 := N2) (φl := φ_letter_at) hx ez h0 es ei el e1 e2 h1 el2 eh e3 h2 a1 a2 a3
      obtain ⟨g, e6⟩ := cut_loop K (N1 := N1) (N2 := N2) hT r m' a' (pre ++ (num m ++ (a ++ [h]))) (ls ++ [m]) (bs ++ [[h]]) (cs ++ [a]) _ _ _ n e4 hp.2.1 hp.2.2 (fun q hq => hr q (.tail _ hq)) (by simp; omega) (by simp; omega) (by simp; omega) (by simp at hn; omega) (.inr ⟨.int (num m).length, strL a, strL [h], rfl, rfl, rfl⟩)
      refine ⟨g, ?_⟩
      rw [loopW_nx (cTrue _) e]
      rw [show (((pre.length : Nat) : Int) + (((num m).length : Nat) + (a.length : Nat)) + 1) = (((pre ++ (num m ++ (a ++ [h]))).length : Nat) : Int) by simp; omega]
      rw [e6]
      simp
end M7.Z
namespace M7.Z
open PySem PySem.Spec PyProof.Rows L2 R7 SX
/-! texts of free hinges: what begins one, and where it is cut -/
def fd (a : Nat) : Bool := decide (49 ≤ a ∧ a ≤ 57)
def vl : List Nat → Int
  | [a] => (a : Int) - 48
  | [a, b] => 10 * ((a : Int) - 48) + ((b : Int) - 48)
  | _ => 0
def isL : List Nat → Bool
  | [a] => fd a
  | [a, b] => fd a && dig b && decide (vl [a, b] ≤ 40)
  | _ => false
def chk (t : List Nat) : List (List Nat) := TL.spl [45] 0 [] t
theorem chk_part {p r : List Nat} (h : 45 ∉ p) : chk (p ++ 45 :: r) = p :: chk r := by
  have := TL.spl_part1 (s := 45) (S := []) (p := p) (rest := r) (acc := []) h
  simpa [chk] using this
theorem chk_last {p : List Nat} (h : 45 ∉ p) : chk p = [p] := by
  have := TL.spl_last1 (s := 45) (S := []) (p := p) (acc := []) h
  simpa [chk] using this
def okR (k : Nat) (t : List Nat) : Bool := decide ((chk t).length ≤ k) && (chk t).all isL
theorem isL_45 {w : List Nat} (h : isL w = true) : 45 ∉ w := by
  unfold isL at h
  split at h
  · simp [fd] at h
    simp; omega
  · simp [fd, dig] at h
    simp; omega
  · cases h
theorem okR_part {p r : List Nat} {k : Nat} (h : 45 ∉ p) : okR (k + 1) (p ++ 45 :: r) = (isL p && okR k r) := by
  unfold okR
  rw [chk_part h, List.length_cons, List.all_cons]
  rw [show decide ((chk r).length + 1 ≤ k + 1) = decide ((chk r).length ≤ k) from decide_eq_decide.mpr (by omega)]
  cases decide ((chk r).length ≤ k) <;> cases isL p <;> simp
theorem okR_last {p : List Nat} {k : Nat} (h : 45 ∉ p) : okR (k + 1) p = isL p := by
  unfold okR
  rw [chk_last h]
  simp
theorem chk_pos (t : List Nat) : 1 ≤ (chk t).length := by
  by_cases h : 45 ∈ t
  · obtain ⟨u, v, e, hu⟩ := List.eq_append_cons_of_mem h
    rw [e, chk_part hu]
    simp
  · rw [chk_last h]
    simp
theorem okR_zero (t : List Nat) : okR 0 t = false := by
  unfold okR
  have := chk_pos t
  rw [decide_eq_false (by omega), Bool.false_and]
/-- the first part -/
theorem okR_first {v t : List Nat} {k : Nat} (hv : 45 ∉ v) (h : okR k (v ++ t) = true) : ∃ u, isL (v ++ u) = true := by
  cases k with
  | zero => rw [okR_zero] at h; cases h
  | succ k =>
    by_cases ht : 45 ∈ t
    · obtain ⟨u, r, e, hu⟩ := List.eq_append_cons_of_mem ht
      rw [e, ← List.append_assoc, okR_part (by simp [hv, hu]), Bool.and_eq_true] at h
      exact ⟨u, h.1⟩
    · rw [okR_last (by simp [hv, ht])] at h
      exact ⟨t, h⟩
def good (k : Nat) (t : List Nat) : Bool := okR k t || okR k (t ++ [49])
def sz : List Nat → Nat
  | a :: b :: _ => if fd a = true then (if (dig b && decide (vl [a, b] ≤ 40)) = true then 2 else 1) else 0
  | [a] => if fd a = true then 1 else 0
  | [] => 0
inductive RunG : Nat → List Nat → List Int → Prop
  | last {k : Nat} {w : List Nat} : isL w = true → RunG (k + 1) w [vl w]
  | more {k : Nat} {w r : List Nat} {ms : List Int} : isL w = true → RunG k r ms → RunG (k + 1) (w ++ 45 :: r) (vl w :: ms)
inductive RunB : Nat → List Nat → Nat → Prop
  | zero {k : Nat} {r : List Nat} : sz r = 0 → RunB (k + 1) r 0
  | stop {k c : Nat} {w r : List Nat} : isL w = true → sz (w ++ c :: r) = w.length → (c ≠ 45 ∨ k = 0) → RunB (k + 1) (w ++ c :: r) w.length
  | more {k p : Nat} {w r : List Nat} : isL w = true → 0 < k → RunB k r p → RunB (k + 1) (w ++ 45 :: r) (w.length + 1 + p)
theorem sz_split {r : List Nat} (h : sz r ≠ 0) : ∃ w r', r = w ++ r' ∧ isL w = true ∧ sz r = w.length := by
  match r with
  | [] => exact absurd rfl h
  | [a] =>
    by_cases ha : fd a = true
    · exact ⟨[a], [], rfl, ha, by simp [sz, ha]⟩
    · simp [sz, ha] at h
  | a :: b :: r =>
    by_cases ha : fd a = true
    · by_cases hb : (dig b && decide (vl [a, b] ≤ 40)) = true
      · exact ⟨[a, b], r, rfl, by simp only [isL, ha, Bool.true_and]; exact hb, by simp only [sz, ha, hb, if_true]; rfl⟩
      · exact ⟨[a], b :: r, rfl, ha, by simp only [sz, ha, hb, if_true]; rfl⟩
    · simp [sz, ha] at h
theorem run_all : ∀ (k : Nat) (r : List Nat), (∃ ms, RunG (k + 1) r ms) ∨ ∃ p, RunB (k + 1) r p
  | k, r => by
    by_cases h : sz r = 0
    · exact .inr ⟨0, .zero h⟩
    · obtain ⟨w, r', e, hw, hs⟩ := sz_split h
      subst e
      cases r' with
      | nil => rw [List.append_nil]; exact .inl ⟨_, .last hw⟩
      | cons c r =>
        by_cases hc : c = 45
        · subst hc
          cases k with
          | zero => exact .inr ⟨_, .stop hw hs (.inr rfl)⟩
          | succ k =>
            rcases run_all k r with ⟨ms, h⟩ | ⟨p, h⟩
            · exact .inl ⟨_, .more hw h⟩
            · exact .inr ⟨_, .more hw (Nat.succ_pos k) h⟩
        · exact .inr ⟨_, .stop hw hs (.inl hc)⟩
theorem runG_ok {k : Nat} {r : List Nat} {ms : List Int} (h : RunG k r ms) : okR k r = true ∧ (chk r).map vl = ms := by
  induction h with
  | last hw => exact ⟨by rw [okR_last (isL_45 hw)]; exact hw, by rw [chk_last (isL_45 hw)]; rfl⟩
  | more hw _ ih => exact ⟨by rw [okR_part (isL_45 hw), hw, ih.1]; rfl, by rw [chk_part (isL_45 hw), List.map_cons, ih.2]⟩
theorem okR_head {a k : Nat} {t : List Nat} (h : fd a = false) : okR k (a :: t) = false := by
  cases e : okR k (a :: t) with
  | false => rfl
  | true =>
    by_cases ha : a = 45
    · subst ha
      cases k with
      | zero => rw [okR_zero] at e; cases e
      | succ k =>
        have := okR_part (p := []) (r := t) (k := k) (by simp)
        rw [List.nil_append] at this
        rw [this] at e
        simp [isL] at e
    · obtain ⟨u, hu⟩ := okR_first (v := [a]) (t := t) (by simp; omega) e
      match u, hu with
      | [], hu => simp [isL, h] at hu
      | [b], hu => simp [isL, h] at hu
      | b :: c :: u, hu => simp [isL] at hu
theorem okR_stop {k c : Nat} {w r : List Nat} (hw : isL w = true) (hs : sz (w ++ c :: r) = w.length) (hc : c ≠ 45 ∨ k = 0) (t : List Nat) : okR (k + 1) (w ++ c :: t) = false := by
  by_cases h45 : c = 45
  · subst h45
    have hk : k = 0 := by rcases hc with h | h; exact absurd rfl h; exact h
    subst hk
    rw [okR_part (isL_45 hw), okR_zero, Bool.and_false]
  · cases e : okR (k + 1) (w ++ c :: t) with
    | false => rfl
    | true =>
      rw [show w ++ c :: t = (w ++ [c]) ++ t by simp] at e
      obtain ⟨u, hu⟩ := okR_first (by simp [isL_45 hw]; omega) e
      match w, hw with
      | [a], hw =>
        have ha : fd a = true := hw
        match u, hu with
        | [], hu =>
          have h2 : (dig c && decide (vl [a, c] ≤ 40)) = true := by
            have : (fd a && dig c && decide (vl [a, c] ≤ 40)) = true := hu
            rw [ha, Bool.true_and] at this
            exact this
          have : sz (a :: c :: r) = 1 := hs
          simp only [sz, ha, h2, if_true] at this
          cases this
        | b :: u, hu => simp [isL] at hu
      | [a, b], hw => simp [isL] at hu
theorem runB_ok {k : Nat} {r : List Nat} {p : Nat} (h : RunB k r p) : p ≤ r.length ∧ okR k r = false ∧ good k (r.take p) = true ∧ ∀ q, p < q → q ≤ r.length → good k (r.take q) = false := by
  induction h with
  | @zero k r hz =>
    refine ⟨Nat.zero_le _, ?_, ?_, ?_⟩
    · cases r with
      | nil => rw [okR_last (by simp)]; rfl
      | cons a r =>
        refine okR_head ?_
        cases r <;> simp only [sz] at hz <;> split at hz <;> simp_all <;> (split at hz <;> cases hz)
    · unfold good
      rw [List.take_zero, List.nil_append, okR_last (p := [49]) (by simp)]
      simp [isL, fd]
    · intro q h0 hq
      cases r with
      | nil => simp at hq; omega
      | cons a r =>
        have ha : fd a = false := by
          cases r <;> simp only [sz] at hz <;> split at hz <;> simp_all <;> (split at hz <;> cases hz)
        obtain ⟨q, rfl⟩ : ∃ n, q = n + 1 := ⟨q - 1, by omega⟩
        unfold good
        rw [List.take_succ_cons, okR_head ha, List.cons_append, okR_head ha]
        rfl
  | @stop k c w r hw hs hc =>
    refine ⟨by simp, okR_stop hw hs hc r, ?_, ?_⟩
    · unfold good
      rw [List.take_left, okR_last (isL_45 hw), hw]
      rfl
    · intro q h0 hq
      obtain ⟨n, rfl⟩ : ∃ n, q = w.length + (n + 1) := ⟨q - w.length - 1, by omega⟩
      unfold good
      rw [List.take_length_add_append, List.take_succ_cons, okR_stop hw hs hc, List.append_assoc, List.cons_append, okR_stop hw hs hc]
      rfl
  | @more k p w r hw hk _ ih =>
    obtain ⟨i1, i2, i3, i4⟩ := ih
    have gd : ∀ x, good (k + 1) (w ++ 45 :: x) = good k x := fun x => by
      unfold good
      rw [okR_part (isL_45 hw), List.append_assoc, List.cons_append, okR_part (isL_45 hw), hw, Bool.true_and, Bool.true_and]
    refine ⟨by simp; omega, by rw [okR_part (isL_45 hw), i2, Bool.and_false], ?_, ?_⟩
    · rw [show w.length + 1 + p = w.length + (p + 1) by omega, List.take_length_add_append, List.take_succ_cons, gd]
      exact i3
    · intro q h0 hq
      obtain ⟨n, rfl⟩ : ∃ n, q = w.length + (n + 1) := ⟨q - w.length - 1, by omega⟩
      rw [List.take_length_add_append, List.take_succ_cons, gd]
      exact i4 n (by omega) (by simp at hq; omega)
end M7.Z
namespace M7.Z
open PySem PySem.Spec PyProof.Rows L2 R7 SX
theorem it2 : ((List.range 9).all fun i => (List.range 10).all fun j => decide (intText? (S [49 + i, 48 + j]) = some (vl [49 + i, 48 + j]))) = true := by decide +kernel
theorem it1 : ((List.range 9).all fun i => decide (intText? (S [49 + i]) = some (vl [49 + i]))) = true := by decide +kernel
theorem int_two {a b : Nat} (ha : fd a = true) (hb : dig b = true) : intText? (S [a, b]) = some (vl [a, b]) := by
  simp only [fd, decide_eq_true_eq] at ha
  simp only [dig, decide_eq_true_eq] at hb
  have := List.all_eq_true.mp it2 (a - 49) (List.mem_range.mpr (by omega))
  have := List.all_eq_true.mp this (b - 48) (List.mem_range.mpr (by omega))
  rw [show 49 + (a - 49) = a by omega, show 48 + (b - 48) = b by omega] at this
  exact of_decide_eq_true this
theorem int_one {a : Nat} (ha : fd a = true) : intText? (S [a]) = some (vl [a]) := by
  simp only [fd, decide_eq_true_eq] at ha
  have := List.all_eq_true.mp it1 (a - 49) (List.mem_range.mpr (by omega))
  rw [show 49 + (a - 49) = a by omega] at this
  exact of_decide_eq_true this
theorem isL_cases {w : List Nat} (h : isL w = true) : (∃ a, w = [a] ∧ fd a = true) ∨ ∃ a b, w = [a, b] ∧ fd a = true ∧ dig b = true ∧ vl [a, b] ≤ 40 := by
  match w, h with
  | [a], h => exact .inl ⟨a, rfl, h⟩
  | [a, b], h =>
    simp only [isL, Bool.and_eq_true, decide_eq_true_eq] at h
    exact .inr ⟨a, b, rfl, h.1.1, h.1.2, h.2⟩
theorem isL_len {w : List Nat} (h : isL w = true) : 1 ≤ w.length ∧ w.length ≤ 2 := by
  rcases isL_cases h with ⟨a, rfl, _⟩ | ⟨a, b, rfl, _⟩ <;> simp
theorem isL_int {w : List Nat} (h : isL w = true) : intText? (S w) = some (vl w) := by
  rcases isL_cases h with ⟨a, rfl, ha⟩ | ⟨a, b, rfl, ha, hb, _⟩
  · exact int_one ha
  · exact int_two ha hb
theorem num_lo {m : Int} (h : m < 10) : num m = [(48 + m).toNat] := if_pos h
theorem num_hi {m : Int} (h : ¬ m < 10) : num m = [(48 + m / 10).toNat, (48 + m % 10).toNat] := if_neg h
theorem isL_num {w : List Nat} (h : isL w = true) : Rod (vl w) ∧ w = num (vl w) := by
  rcases isL_cases h with ⟨a, rfl, ha⟩ | ⟨a, b, rfl, ha, hb, hv⟩
  · simp only [fd, decide_eq_true_eq] at ha
    refine ⟨by unfold Rod; simp only [vl]; omega, ?_⟩
    rw [num_lo (by simp only [vl]; omega)]
    simp only [vl]
    congr 1
    omega
  · simp only [fd, decide_eq_true_eq] at ha
    simp only [dig, decide_eq_true_eq] at hb
    simp only [vl] at hv
    refine ⟨by unfold Rod; simp only [vl]; omega, ?_⟩
    rw [num_hi (by simp only [vl]; omega)]
    simp only [vl]
    congr 1
    · omega
    · congr 1
      omega
theorem chOk_mem {t : List Nat} (h : chOk t = true) {c : Nat} (m : c ∈ t) : c < 1114112 := by
  have := List.all_eq_true.mp h c m
  simpa using this
theorem chOk_app {a b : List Nat} : chOk (a ++ b) = (chOk a && chOk b) := by unfold chOk; exact List.all_append
/-- a length's size at a place of any text -/
theorem size_sz (pre r : List Nat) (hs : (pre ++ r).length ≤ 100000) :
    φ_length_size [(false, strL (pre ++ r)), (false, .int pre.length), (false, .int 40)] = .ret false (.int (sz r)) [(false, strL (pre ++ r)), (false, .int pre.length), (false, .int 40)] := by
  have l1 := letter_ok (pre ++ r) pre.length fdigs hs
  have l2 := letter_ok (pre ++ r) (pre.length + 1) digs hs
  rw [← e_fdigL] at l1
  rw [← e_digL] at l2
  have g0 : ∀ i, (pre ++ r)[pre.length + i]? = r[i]? := fun i => by rw [List.getElem?_append_right (by omega)]; congr 1; omega
  by_cases h0 : sz r = 0
  · have p1 : look (pre ++ r) pre.length fdigs = [] := look_not fun c hc hm => by
      have := g0 0
      rw [Nat.add_zero] at this
      rw [this] at hc
      have hf : fd c = true := by rw [mem_fdigs] at hm; exact decide_eq_true hm
      match r, hc, h0 with
      | [a], hc, h0 => simp at hc; subst hc; simp [sz, hf] at h0
      | a :: b :: r, hc, h0 => simp at hc; subst hc; simp only [sz, hf, if_true] at h0; split at h0 <;> cases h0
    rw [p1] at l1
    refine (size_gen φ_letter_at dEq dNe dIntC dSl _ _ (strL []) .non _ _ (.str "") pre.length 40 0 true false l1 ?_ (by simp) (by simp) (by simp) (by simp)).trans ?_
    · rw [e_empty, dEq_strL rfl rfl]; simp
    · rw [h0]; simp
  · obtain ⟨w, r', e, hw, hz⟩ := sz_split h0
    have hz' : 1 ≤ sz r := Nat.pos_of_ne_zero h0
    obtain ⟨a, q, e2, ha⟩ : ∃ a q, r = a :: q ∧ fd a = true := by
      rcases isL_cases hw with ⟨a, rfl, ha⟩ | ⟨a, b, rfl, ha, _⟩
      · exact ⟨a, r', e, ha⟩
      · exact ⟨a, b :: r', e, ha⟩
    have p1 : look (pre ++ r) pre.length fdigs = [a] := look_at (by have := g0 0; rw [Nat.add_zero] at this; rw [this, e2]; rfl) (mem_fdigs.mpr (of_decide_eq_true ha))
    have hac : chOk [a] = true := by
      have := of_decide_eq_true ha
      simp [chOk]
      omega
    rw [p1] at l1
    by_cases hb : ∃ b q', q = b :: q' ∧ dig b = true
    · obtain ⟨b, q', e3, hb⟩ := hb
      have p2 : look (pre ++ r) (pre.length + 1) digs = [b] := look_at (by rw [g0 1, e2, e3]; rfl) (mem_digs.mpr hb)
      have hbc : chOk [b] = true := by
        have := of_decide_eq_true hb
        simp [chOk]
        omega
      rw [p2] at l2
      refine (size_gen φ_letter_at dEq dNe dIntC dSl _ _ _ (strL [a, b]) _ _ (.str "") pre.length 40 (vl [a, b]) false true l1 ?_ (fun _ => l2) ?_ (fun _ _ => ?_) (fun _ _ => dIntC_S (int_two ha hb) (by simp))).trans ?_
      · rw [e_empty, dEq_strL hac rfl]; simp
      · intro _; rw [e_empty, dNe_strL hbc rfl]; simp
      · have := dSl_str (pre ++ r) pre.length (pre.length + 2) hs (by omega)
        rw [List.drop_left, show pre.length + 2 - pre.length = 2 by omega] at this
        rw [show (((pre.length : Nat) : Int) + 2) = ((pre.length + 2 : Nat) : Int) by omega, this, e2, e3]
        rfl
      · rw [e2, e3]
        by_cases hv : vl [a, b] ≤ 40
        · simp [sz, ha, hb, hv]
        · simp [sz, ha, hb, hv]
    · have p2 : look (pre ++ r) (pre.length + 1) digs = [] := look_not fun c hc hm => by
        rw [g0 1, e2] at hc
        match q, hb, hc with
        | [], _, hc => simp at hc
        | b :: q', hb, hc => simp at hc; exact hb ⟨b, q', rfl, by rw [hc]; exact mem_digs.mp hm⟩
      rw [p2] at l2
      refine (size_gen φ_letter_at dEq dNe dIntC dSl _ _ _ .non _ _ (.str "") pre.length 40 0 false false l1 ?_ (fun _ => l2) ?_ (by simp) (by simp)).trans ?_
      · rw [e_empty, dEq_strL hac rfl]; simp
      · intro _; rw [e_empty, dNe_strL rfl rfl]; simp
      · rw [e2]
        match q, hb with
        | [], _ => simp [sz, ha]
        | b :: q', hb =>
          have : dig b = false := by
            cases h : dig b with
            | false => rfl
            | true => exact absurd ⟨b, q', rfl, h⟩ hb
          simp [sz, ha, this]
end M7.Z
namespace M7.Z
open PySem PySem.Spec PyProof.Rows L2 R7 SX
theorem cut_fin (W N0 : SS) (T hs as : List Nat) (d : D) (g : G) (e : W (cutG (strL T) (.int 12) (.int 40) (strL hs) (strL as) (.lst []) (.lst []) (.lst []) 0 none none none) = .rt false d (some (.f, strL T) :: some (.f, .int 12) :: some (.f, .int 40) :: some (.f, strL hs) :: some (.f, strL as) :: g)) :
    bodyFn 5 12 (ssSeq (ssIf (stNot (stB (seIsi tStr (sbVar 0)))) N0 ssNext)
    (ssSeq (ssAsg (seLst saNil) (sgName 5))
    (ssSeq (ssAsg (seLst saNil) (sgName 6))
    (ssSeq (ssAsg (seLst saNil) (sgName 7))
    (ssSeq (ssAsg (seC (.int 0)) (sgName 8)) W))))) [(false, strL T), (false, .int 12), (false, .int 40), (false, strL hs), (false, strL as)] =
      .ret false d [(false, strL T), (false, .int 12), (false, .int 40), (false, strL hs), (false, strL as)] := by
  unfold bodyFn
  simp [argG, ssSeq, ssIf, stNot, stB, seIsi, tStr, tkD, sbVar, Ref.get, O.bind, ofO, ssNext, ssAsg, seLst, saNil, datas, sized_ok, sgName, setS, seC, e, endsOf, endOf]
theorem cut_ok {hs as T : List Nat} (K : KindOk hs as) (hT : T.length ≤ 100000) (m : Int) (a : List Nat) (r : List (Nat × Int × List Nat)) (eT : T = num m ++ (a ++ tailT r)) (hm : Rod m) (ha : a = [] ∨ ∃ c, a = [c] ∧ c ∈ as)
    (hr : ∀ p ∈ r, p.1 ∈ hs ∧ Rod p.2.1 ∧ (p.2.2 = [] ∨ ∃ c, p.2.2 = [c] ∧ c ∈ as)) (hl : 1 + r.length ≤ 12) :
    φ_cut [(false, strL T), (false, .int 12), (false, .int 40), (false, strL hs), (false, strL as)] =
      .ret false (.tup [lstI (m :: r.map (·.2.1)), lstS (r.map fun p => [p.1]), lstS (a :: r.map (·.2.2))]) [(false, strL T), (false, .int 12), (false, .int 40), (false, strL hs), (false, strL as)] := by
  obtain ⟨g, e⟩ := cut_loop K (N1 := ssRaiseI .text "place" okDI (seVar 8)) (N2 := ssRaiseI .text "place" okDI (seVar 8)) hT r m a [] [] [] [] none none none fuel eT hm ha hr (by simpa using hl) (Nat.le_refl _) (Nat.le_refl _) (by unfold fuel; omega) (.inl ⟨rfl, rfl, rfl⟩)
  exact cut_fin _ (ssRaiseI .text "place" okDI (seC (.int 0))) T hs as _ g e
/-! the text of a rule, as the law writes it -/
def mkT (e f : List Int) (k : Int) : Nat := if k ∈ e then 61 else if k ∈ f then 126 else 45
def amT (g h : List Int) (k : Int) : List Nat := if k ∈ g then [62] else if k ∈ h then [60] else []
def restT (e f g h : List Int) : Int → List Int → List (Nat × Int × List Nat)
  | _, [] => []
  | k, m :: ms => (mkT e f k, m, amT g h (k + 1)) :: restT e f g h (k + 1) ms
theorem restT_len (e f g h : List Int) : ∀ (ms : List Int) (k : Int), (restT e f g h k ms).length = ms.length
  | [], _ => rfl
  | m :: ms, k => by simp only [restT, List.length_cons, restT_len e f g h ms]
theorem restT_rods (e f g h : List Int) : ∀ (ms : List Int) (k : Int), (restT e f g h k ms).map (·.2.1) = ms
  | [], _ => rfl
  | m :: ms, k => by simp only [restT, List.map_cons, restT_rods e f g h ms]
theorem restT_marks (e f g h : List Int) : ∀ (ms : List Int) (k : Int), (restT e f g h k ms).map (fun p => [p.1]) = (rgI k ms.length).map fun k => [mkT e f k]
  | [], _ => rfl
  | m :: ms, k => by simp only [restT, List.map_cons, restT_marks e f g h ms, List.length_cons, rgI]
theorem restT_aims (e f g h : List Int) : ∀ (ms : List Int) (k : Int), (restT e f g h k ms).map (·.2.2) = (rgI (k + 1) ms.length).map (amT g h)
  | [], _ => rfl
  | m :: ms, k => by simp only [restT, List.map_cons, restT_aims e f g h ms, List.length_cons, rgI]
theorem mkT_mem (e f : List Int) (k : Int) : mkT e f k ∈ [45, 61, 126] := by
  unfold mkT
  split
  · simp
  · split <;> simp
theorem amT_mem (g h : List Int) (k : Int) : amT g h k = [] ∨ ∃ c, amT g h k = [c] ∧ c ∈ [62, 60] := by
  unfold amT
  split
  · exact .inr ⟨62, rfl, by simp⟩
  · split
    · exact .inr ⟨60, rfl, by simp⟩
    · exact .inl rfl
theorem restT_ok (e f g h : List Int) : ∀ (ms : List Int) (k : Int), (∀ m ∈ ms, Rod m) → ∀ p ∈ restT e f g h k ms, p.1 ∈ [45, 61, 126] ∧ Rod p.2.1 ∧ (p.2.2 = [] ∨ ∃ c, p.2.2 = [c] ∧ c ∈ [62, 60])
  | [], _, _, p, hp => by cases hp
  | m :: ms, k, hm, p, hp => by
    rcases List.mem_cons.mp hp with rfl | hp
    · exact ⟨mkT_mem _ _ _, hm m (.head _), amT_mem _ _ _⟩
    · exact restT_ok e f g h ms (k + 1) (fun m h => hm m (.tail _ h)) p hp
def textT (e f g h : List Int) : List Int → List Nat
  | [] => []
  | m :: ms => num m ++ (amT g h 1 ++ tailT (restT e f g h 1 ms))
theorem tail_len (e f g h : List Int) : ∀ (ms : List Int) (k : Int), (∀ m ∈ ms, Rod m) → (tailT (restT e f g h k ms)).length ≤ 4 * ms.length
  | [], _, _ => by simp [restT, tailT]
  | m :: ms, k, hm => by
    have ih := tail_len e f g h ms (k + 1) fun m h => hm m (.tail _ h)
    have hz : (num m).length ≤ 2 := by
      rcases num_shape (hm m (.head _)) with ⟨_, e, _⟩ | ⟨_, _, e, _⟩ <;> rw [e] <;> simp
    have ha : (amT g h (k + 1)).length ≤ 1 := by
      rcases amT_mem g h (k + 1) with e | ⟨c, e, _⟩ <;> rw [e] <;> simp
    simp only [restT, tailT, List.length_cons, List.length_append]
    omega
theorem text_len (e f g h : List Int) (ms : List Int) (hm : ∀ m ∈ ms, Rod m) : (textT e f g h ms).length ≤ 4 * ms.length := by
  cases ms with
  | nil => simp [textT]
  | cons m ms =>
    have ih := tail_len e f g h ms 1 fun m h => hm m (.tail _ h)
    have hz : (num m).length ≤ 2 := by
      rcases num_shape (hm m (.head _)) with ⟨_, e, _⟩ | ⟨_, _, e, _⟩ <;> rw [e] <;> simp
    have ha : (amT g h 1).length ≤ 1 := by
      rcases amT_mem g h 1 with e | ⟨c, e, _⟩ <;> rw [e] <;> simp
    simp only [textT, List.length_cons, List.length_append]
    omega
theorem kind_full : KindOk [45, 61, 126] [62, 60] := ⟨by decide, by decide, by decide, by decide, by decide⟩
theorem kind_plain : KindOk [45] [] := ⟨by decide, by decide, by decide, by decide, by decide⟩
theorem cut_text (e f g h : List Int) (m : Int) (ms : List Int) (hm : ∀ k ∈ m :: ms, Rod k) (hl : (m :: ms).length ≤ 12) :
    φ_cut [(false, strL (textT e f g h (m :: ms))), (false, .int 12), (false, .int 40), (false, strL [45, 61, 126]), (false, strL [62, 60])] =
      .ret false (.tup [lstI (m :: ms), lstS ((rgI 1 ms.length).map fun k => [mkT e f k]), lstS ((rgI 1 (m :: ms).length).map (amT g h))]) [(false, strL (textT e f g h (m :: ms))), (false, .int 12), (false, .int 40), (false, strL [45, 61, 126]), (false, strL [62, 60])] := by
  have hle := text_len e f g h (m :: ms) hm
  have := cut_ok kind_full (T := textT e f g h (m :: ms)) (by omega) m (amT g h 1) (restT e f g h 1 ms) rfl (hm m (.head _)) (amT_mem _ _ _) (restT_ok e f g h ms 1 fun m h => hm m (.tail _ h)) (by rw [restT_len]; simp at hl; omega)
  rw [restT_rods, restT_marks, restT_aims] at this
  exact this
end M7.Z
namespace M7.Z
open PySem PySem.Spec PyProof.Rows L2 R7 SX
abbrev plE (i : Int) : Option D := some (.dct [(.inr "place", .int i)])
theorem okDI_small {i : Int} (h0 : 0 ≤ i) (h1 : i < 1000000) : okDI (.int i) = true := by
  show decide (i.natAbs.log2 < 1920) = true
  rw [decide_eq_true_eq]
  have : i.natAbs < 2 ^ 1920 := Nat.lt_of_lt_of_le (m := 1000000) (by omega) (by decide)
  by_cases hz : i.natAbs = 0
  · rw [hz]; decide
  · exact (Nat.log2_lt hz).mpr this
section
variable {φz φl : Fn} {E : D → D → Option (Bool × D)} {I L : List D → Option (Bool × D)} {Z : D → Option Int → Option Int → Option (Bool × D)} {A : D → List D → Option (D × D)} 
  {t ml mr hs as w a h : D} {ls bs cs ls' bs' cs' : List D} {i z m na nt nl : Int} {x9 x10 x11 : Option (Fl × D)} {ok : D → Bool}
theorem cut_bad0 (hx : lapX x9 x10 x11) (ez : φz [(false, t), (false, .int i), (false, ml)] = .ret false (.int z) [(false, t), (false, .int i), (false, ml)]) (h0 : E (.int z) (.int 0) = some (false, .bl true)) (hk : ok (.int i) = true) :
    ∃ g, cutB φz φl E I L Z A (ssRaiseI .text "place" ok (seVar 8)) (ssRaiseI .text "place" ok (seVar 8)) (cutG t mr ml hs as (.lst ls) (.lst bs) (.lst cs) i x9 x10 x11) =
      .ex .text (plE i) (some (.f, t) :: some (.f, mr) :: some (.f, ml) :: some (.f, hs) :: some (.f, as) :: g) := by
  unfold cutB
  rcases hx with ⟨rfl, rfl, rfl⟩ | ⟨d9, d10, d11, rfl, rfl, rfl⟩
  · simp [ez, h0, hk, ssRaiseI, ssIf, ssDrop, ssRet, ssNext, ssAsg, ssPar, ofO, O.bind, stB, stNot, stAnd, stOr, seOp, seAnd, seOr, seNot, seIf, seCB, seVar, seMove, seC, sbVar, sbOf, saCons, saNil, Fl.own, Fl.pin, Fl.fz, Ref.get, ofOpt, refsGet, datas, setS, sgName, sgTup, sgCons, sgNil, ownAt, isLst, seMutV, seMut, seLst, seTup, sized_ok, seNeg, seCall, distinct, lentOf, argsOf, argOf, giveBack, ssSeq]
  · simp [ez, h0, hk, ssRaiseI, ssIf, ssDrop, ssRet, ssNext, ssAsg, ssPar, ofO, O.bind, stB, stNot, stAnd, stOr, seOp, seAnd, seOr, seNot, seIf, seCB, seVar, seMove, seC, sbVar, sbOf, saCons, saNil, Fl.own, Fl.pin, Fl.fz, Ref.get, ofOpt, refsGet, datas, setS, sgName, sgTup, sgCons, sgNil, ownAt, isLst, seMutV, seMut, seLst, seTup, sized_ok, seNeg, seCall, distinct, lentOf, argsOf, argOf, giveBack, ssSeq]
theorem cut_bad1 (hx : lapX x9 x10 x11) (ez : φz [(false, t), (false, .int i), (false, ml)] = .ret false (.int z) [(false, t), (false, .int i), (false, ml)]) (h0 : E (.int z) (.int 0) = some (false, .bl false))
    (es : Z t (some i) (some (i + z)) = some (false, w)) (ei : I [w] = some (false, .int m)) (el : φl [(false, t), (false, .int (i + z)), (false, as)] = .ret false a [(false, t), (false, .int (i + z)), (false, as)])
    (e1 : L [a] = some (false, .int na)) (e2 : L [t] = some (false, .int nt)) (h1 : E (.int (i + (z + na))) (.int nt) = some (false, .bl false))
    (el2 : φl [(false, t), (false, .int (i + (z + na))), (false, hs)] = .ret false h [(false, t), (false, .int (i + (z + na))), (false, hs)]) (b1 b2 : Bool) (eh : E h (.str "") = some (false, .bl b1))
    (e3 : L [.lst ls'] = some (false, .int nl)) (h2 : E (.int nl) mr = some (false, .bl b2)) (hb : b1 = true ∨ b2 = true)
    (a1 : A (.lst ls) [.int m] = some (.non, .lst ls')) (a2 : A (.lst cs) [a] = some (.non, .lst cs')) (hk : ok (.int (i + (z + na))) = true) :
    ∃ g, cutB φz φl E I L Z A (ssRaiseI .text "place" ok (seVar 8)) (ssRaiseI .text "place" ok (seVar 8)) (cutG t mr ml hs as (.lst ls) (.lst bs) (.lst cs) i x9 x10 x11) =
      .ex .text (plE (i + (z + na))) (some (.f, t) :: some (.f, mr) :: some (.f, ml) :: some (.f, hs) :: some (.f, as) :: g) := by
  unfold cutB
  rcases hx with ⟨rfl, rfl, rfl⟩ | ⟨d9, d10, d11, rfl, rfl, rfl⟩
  · cases b1
    · have hb2 : b2 = true := by simpa using hb
      subst hb2
      simp [ez, h0, es, ei, el, e1, e2, h1, el2, eh, e3, h2, a1, a2, hk, ssRaiseI, ssIf, ssDrop, ssRet, ssNext, ssAsg, ssPar, ofO, O.bind, stB, stNot, stAnd, stOr, seOp, seAnd, seOr, seNot, seIf, seCB, seVar, seMove, seC, sbVar, sbOf, saCons, saNil, Fl.own, Fl.pin, Fl.fz, Ref.get, ofOpt, refsGet, datas, setS, sgName, sgTup, sgCons, sgNil, ownAt, isLst, seMutV, seMut, seLst, seTup, sized_ok, seNeg, seCall, distinct, lentOf, argsOf, argOf, giveBack, ssSeq, ssAugI, dAdd, seSl, soSome]
    · simp [ez, h0, es, ei, el, e1, e2, h1, el2, eh, e3, h2, a1, a2, hk, ssRaiseI, ssIf, ssDrop, ssRet, ssNext, ssAsg, ssPar, ofO, O.bind, stB, stNot, stAnd, stOr, seOp, seAnd, seOr, seNot, seIf, seCB, seVar, seMove, seC, sbVar, sbOf, saCons, saNil, Fl.own, Fl.pin, Fl.fz, Ref.get, ofOpt, refsGet, datas, setS, sgName, sgTup, sgCons, sgNil, ownAt, isLst, seMutV, seMut, seLst, seTup, sized_ok, seNeg, seCall, distinct, lentOf, argsOf, argOf, giveBack, ssSeq, ssAugI, dAdd, seSl, soSome]
  · cases b1
    · have hb2 : b2 = true := by simpa using hb
      subst hb2
      simp [ez, h0, es, ei, el, e1, e2, h1, el2, eh, e3, h2, a1, a2, hk, ssRaiseI, ssIf, ssDrop, ssRet, ssNext, ssAsg, ssPar, ofO, O.bind, stB, stNot, stAnd, stOr, seOp, seAnd, seOr, seNot, seIf, seCB, seVar, seMove, seC, sbVar, sbOf, saCons, saNil, Fl.own, Fl.pin, Fl.fz, Ref.get, ofOpt, refsGet, datas, setS, sgName, sgTup, sgCons, sgNil, ownAt, isLst, seMutV, seMut, seLst, seTup, sized_ok, seNeg, seCall, distinct, lentOf, argsOf, argOf, giveBack, ssSeq, ssAugI, dAdd, seSl, soSome]
    · simp [ez, h0, es, ei, el, e1, e2, h1, el2, eh, e3, h2, a1, a2, hk, ssRaiseI, ssIf, ssDrop, ssRet, ssNext, ssAsg, ssPar, ofO, O.bind, stB, stNot, stAnd, stOr, seOp, seAnd, seOr, seNot, seIf, seCB, seVar, seMove, seC, sbVar, sbOf, saCons, saNil, Fl.own, Fl.pin, Fl.fz, Ref.get, ofOpt, refsGet, datas, setS, sgName, sgTup, sgCons, sgNil, ownAt, isLst, seMutV, seMut, seLst, seTup, sized_ok, seNeg, seCall, distinct, lentOf, argsOf, argOf, giveBack, ssSeq, ssAugI, dAdd, seSl, soSome]
end
end M7.Z
namespace M7.Z
open PySem PySem.Spec PyProof.Rows L2 R7 SX
theorem loopW_ex {c : ST} {b : SS} {n : Nat} {g : G} {x : XN} {f : Option D} {g' : G} (hc : c g = .ok true g) (hb : b g = .ex x f g') : loopW c b (n + 1) g = .ex x f g' := by
  simp only [loopW, hc, hb]
theorem sz_45 {w r : List Nat} (h : isL w = true) : sz (w ++ 45 :: r) = w.length := by
  rcases isL_cases h with ⟨a, rfl, ha⟩ | ⟨a, b, rfl, ha, hb, hv⟩
  · simp [sz, ha, dig]
  · simp [sz, ha, hb, hv]
theorem look_nil (t : List Nat) (i : Nat) : look t i [] = [] := look_not fun c _ h => by cases h
abbrev rzP : SS := ssRaiseI .text "place" okDI (seVar 8)
abbrev cutL : SS := cutB φ_length_size φ_letter_at dEq dIntC dLen dSl fAppend rzP rzP
section
variable {T pre w r : List Nat} {c : Nat}
structure StepF (T pre w : List Nat) : Prop where
  ez : φ_length_size [(false, strL T), (false, .int (pre.length : Nat)), (false, .int 40)] = .ret false (.int (w.length : Nat)) [(false, strL T), (false, .int (pre.length : Nat)), (false, .int 40)]
  h0 : dEq (.int (w.length : Nat)) (.int 0) = some (false, .bl false)
  es : dSl (strL T) (some (pre.length : Nat)) (some ((pre.length : Nat) + (w.length : Nat) : Int)) = some (false, strL w)
  ei : dIntC [strL w] = some (false, .int (vl w))
  el : φ_letter_at [(false, strL T), (false, .int ((pre.length : Nat) + (w.length : Nat) : Int)), (false, strL [])] = .ret false (strL []) [(false, strL T), (false, .int ((pre.length : Nat) + (w.length : Nat) : Int)), (false, strL [])]
  e1 : dLen [strL []] = some (false, .int 0)
  e2 : dLen [strL T] = some (false, .int (T.length : Nat))
  h1 : dEq (.int ((pre.length : Nat) + ((w.length : Nat) + 0) : Int)) (.int (T.length : Nat)) = some (false, .bl false)
  el2 : ∀ h, look T (pre.length + w.length) [45] = h → φ_letter_at [(false, strL T), (false, .int ((pre.length : Nat) + ((w.length : Nat) + 0) : Int)), (false, strL [45])] = .ret false (strL h) [(false, strL T), (false, .int ((pre.length : Nat) + ((w.length : Nat) + 0) : Int)), (false, strL [45])]
theorem step_f (hT : T.length ≤ 10000) (e : T = pre ++ (w ++ c :: r)) (hw : isL w = true) (hs : sz (w ++ c :: r) = w.length) : StepF T pre w := by
  have hz := isL_len hw
  refine ⟨?_, ?_, ?_, ?_, ?_, ?_, dLen_str T (by omega), ?_, ?_⟩
  · have := size_sz pre (w ++ c :: r) (by rw [← e]; omega)
    rw [← e, hs] at this
    exact this
  · rw [dEq_int, decide_eq_false (by omega)]
  · have := dSl_str T pre.length (pre.length + w.length) (by omega) (by omega)
    rw [show pre.length + w.length - pre.length = w.length by omega] at this
    have e3 : (T.drop pre.length).take w.length = w := by rw [e, List.drop_left, List.take_left]
    rw [e3] at this
    rw [← this]
    simp
  · exact dIntC_S (isL_int hw) (by omega)
  · have := letter_ok T (pre.length + w.length) [] (by omega)
    rw [look_nil, Int.natCast_add] at this
    exact this
  · exact dLen_str [] (by simp)
  · rw [dEq_int, decide_eq_false]
    rw [e]
    simp
    omega
  · intro h hh
    have := letter_ok T (pre.length + w.length) [45] (by omega)
    rw [hh, Int.natCast_add] at this
    rw [Int.add_zero]
    exact this
theorem look_c (e : T = pre ++ (w ++ c :: r)) : look T (pre.length + w.length) [45] = if c = 45 then [45] else [] := by
  have hg : T[pre.length + w.length]? = some c := by
    rw [e, List.getElem?_append_right (by omega), show pre.length + w.length - pre.length = w.length by omega, List.getElem?_append_right (Nat.le_refl _), Nat.sub_self]
    rfl
  by_cases h : c = 45
  · rw [if_pos h, look_at hg (by rw [h]; simp), h]
  · rw [if_neg h, look_not fun d hd hm => by
      rw [hg] at hd
      cases hd
      exact h (by simpa using hm)]
end
theorem cut_loopB {T : List Nat} (hT : T.length ≤ 10000) {k : Nat} {r : List Nat} {p : Nat} (h : RunB k r p) : ∀ (pre : List Nat) (ls : List Int) (bs cs : List (List Nat)) (x9 x10 x11 : Option (Fl × D)) (n : Nat),
    T = pre ++ r → ls.length + k = 12 → bs.length ≤ ls.length → cs.length ≤ ls.length → k ≤ n → lapX x9 x10 x11 →
    ∃ g, loopW (stB (seC (.bl true))) cutL n (cutG (strL T) (.int 12) (.int 40) (strL [45]) (strL []) (lstI ls) (lstS bs) (lstS cs) (pre.length : Nat) x9 x10 x11) =
      .ex .text (plE ((pre.length + p : Nat) : Int)) (some (.f, strL T) :: some (.f, .int 12) :: some (.f, .int 40) :: some (.f, strL [45]) :: some (.f, strL []) :: g) := by
  induction h with
  | @zero k r hz =>
    intro pre ls bs cs x9 x10 x11 n eT hl hb hc hn hx
    obtain ⟨n, rfl⟩ : ∃ m, n = m + 1 := ⟨n - 1, by omega⟩
    have ez := size_sz pre r (by rw [← eT]; omega)
    rw [← eT, hz] at ez
    have hlen : pre.length ≤ T.length := by rw [eT]; simp
    obtain ⟨g, e⟩ := cut_bad0 (E := dEq) (I := dIntC) (L := dLen) (Z := dSl) (A := fAppend) (φl := φ_letter_at) (ok := okDI) (mr := .int 12) (hs := strL [45]) (as := strL []) (ls := ls.map .int) (bs := bs.map strL) (cs := cs.map strL) hx ez (by rw [dEq_int]; rfl) (okDI_small (by omega) (by omega))
    exact ⟨g, by rw [loopW_ex (cTrue _) e]; simp⟩
  | @stop k c w r hw hs hc =>
    intro pre ls bs cs x9 x10 x11 n eT hl hb hcs hn hx
    obtain ⟨n, rfl⟩ : ∃ m, n = m + 1 := ⟨n - 1, by omega⟩
    have F := step_f hT eT hw hs
    have hlen : pre.length + w.length ≤ T.length := by rw [eT]; simp
    have a1 : fAppend (lstI ls) [.int (vl w)] = some (.non, lstI (ls ++ [vl w])) := by
      rw [show lstI (ls ++ [vl w]) = .lst (ls.map M7.D.int ++ [.int (vl w)]) by simp]
      exact fApp (by rw [List.length_map]; omega)
    have a2 : fAppend (lstS cs) [strL []] = some (.non, lstS (cs ++ [[]])) := by
      rw [show lstS (cs ++ [[]]) = .lst (cs.map strL ++ [strL []]) by simp]
      exact fApp (by rw [List.length_map]; omega)
    have e3 : dLen [lstI (ls ++ [vl w])] = some (false, .int ((ls.length : Nat) + 1 : Int)) := by simp [dLen]
    have hh := look_c eT
    have eh : dEq (strL (if c = 45 then [45] else [])) (.str "") = some (false, .bl (decide ((if c = 45 then [45] else []) = ([] : List Nat)))) := by
      rw [e_empty, dEq_strL (by split <;> rfl) rfl]
    obtain ⟨g, e⟩ := cut_bad1 (E := dEq) (I := dIntC) (L := dLen) (Z := dSl) (A := fAppend) (φl := φ_letter_at) (ok := okDI) (mr := .int 12) (hs := strL [45]) (bs := bs.map strL) hx F.ez F.h0 F.es F.ei F.el F.e1 F.e2 F.h1 (F.el2 _ hh) _ (decide (((ls.length : Nat) + 1 : Int) = 12)) eh e3 (dEq_int _ _) (by
      rcases hc with h | h
      · rw [if_neg h]; exact .inl rfl
      · subst h
        refine .inr (decide_eq_true ?_)
        omega) a1 a2 (okDI_small (by omega) (by omega))
    exact ⟨g, by rw [loopW_ex (cTrue _) e]; simp⟩
  | @more k p w r hw hk hr ih =>
    intro pre ls bs cs x9 x10 x11 n eT hl hb hcs hn hx
    obtain ⟨n, rfl⟩ : ∃ m, n = m + 1 := ⟨n - 1, by omega⟩
    have F := step_f hT eT hw (sz_45 hw)
    have hlen : pre.length + w.length ≤ T.length := by rw [eT]; simp
    have a1 : fAppend (lstI ls) [.int (vl w)] = some (.non, lstI (ls ++ [vl w])) := by
      rw [show lstI (ls ++ [vl w]) = .lst (ls.map M7.D.int ++ [.int (vl w)]) by simp]
      exact fApp (by rw [List.length_map]; omega)
    have a2 : fAppend (lstS cs) [strL []] = some (.non, lstS (cs ++ [[]])) := by
      rw [show lstS (cs ++ [[]]) = .lst (cs.map strL ++ [strL []]) by simp]
      exact fApp (by rw [List.length_map]; omega)
    have a3 : fAppend (lstS bs) [strL [45]] = some (.non, lstS (bs ++ [[45]])) := by
      rw [show lstS (bs ++ [[45]]) = .lst (bs.map strL ++ [strL [45]]) by simp]
      exact fApp (by rw [List.length_map]; omega)
    have e3 : dLen [lstI (ls ++ [vl w])] = some (false, .int ((ls.length : Nat) + 1 : Int)) := by simp [dLen]
    have hh := look_c eT
    rw [if_pos rfl] at hh
    have eh : dEq (strL [45]) (.str "") = some (false, .bl false) := by
      rw [e_empty, dEq_strL rfl rfl]; simp
    have e := cut_next (E := dEq) (I := dIntC) (L := dLen) (Z := dSl) (A := fAppend) (N1 := rzP) (N2 := rzP) (φl := φ_letter_at) (mr := .int 12) (hs := strL [45]) (bs := bs.map strL) hx F.ez F.h0 F.es F.ei F.el F.e1 F.e2 F.h1 (F.el2 _ hh) eh e3 (by rw [dEq_int, decide_eq_false (by omega)]) a1 a2 a3
    obtain ⟨g, e6⟩ := ih (pre ++ (w ++ [45])) (ls ++ [vl w]) (bs ++ [[45]]) (cs ++ [[]]) _ _ _ n (by rw [eT]; simp) (by simp; omega) (by simp; omega) (by simp; omega) (by omega) (.inr ⟨.int w.length, strL [], strL [45], rfl, rfl, rfl⟩)
    refine ⟨g, ?_⟩
    rw [loopW_nx (cTrue _) e]
    rw [show (((pre.length : Nat) : Int) + (((w.length : Nat) : Int) + 0) + 1) = (((pre ++ (w ++ [45])).length : Nat) : Int) by simp; omega]
    rw [e6]
    have e7 : (pre ++ (w ++ [45])).length + p = pre.length + (w.length + 1 + p) := by simp; omega
    rw [e7]
theorem cut_finB (W N0 : SS) (T hs as : List Nat) (x : XN) (f : Option D) (g : G) (e : W (cutG (strL T) (.int 12) (.int 40) (strL hs) (strL as) (.lst []) (.lst []) (.lst []) 0 none none none) = .ex x f (some (.f, strL T) :: some (.f, .int 12) :: some (.f, .int 40) :: some (.f, strL hs) :: some (.f, strL as) :: g)) :
    bodyFn 5 12 (ssSeq (ssIf (stNot (stB (seIsi tStr (sbVar 0)))) N0 ssNext)
    (ssSeq (ssAsg (seLst saNil) (sgName 5))
    (ssSeq (ssAsg (seLst saNil) (sgName 6))
    (ssSeq (ssAsg (seLst saNil) (sgName 7))
    (ssSeq (ssAsg (seC (.int 0)) (sgName 8)) W))))) [(false, strL T), (false, .int 12), (false, .int 40), (false, strL hs), (false, strL as)] =
      .ex x f [(false, strL T), (false, .int 12), (false, .int 40), (false, strL hs), (false, strL as)] := by
  unfold bodyFn
  simp [argG, ssSeq, ssIf, stNot, stB, seIsi, tStr, tkD, sbVar, Ref.get, O.bind, ofO, ssNext, ssAsg, seLst, saNil, datas, sized_ok, sgName, setS, seC, e, endsOf, endOf]
theorem cut_bad {T : List Nat} (hT : T.length ≤ 10000) {p : Nat} (h : RunB 12 T p) :
    φ_cut [(false, strL T), (false, .int 12), (false, .int 40), (false, strL [45]), (false, strL [])] =
      .ex .text (plE (p : Nat)) [(false, strL T), (false, .int 12), (false, .int 40), (false, strL [45]), (false, strL [])] := by
  obtain ⟨g, e⟩ := cut_loopB hT h [] [] [] [] none none none fuel rfl rfl (Nat.le_refl _) (Nat.le_refl _) (by unfold fuel; omega) (.inl ⟨rfl, rfl, rfl⟩)
  rw [List.length_nil, Nat.zero_add] at e
  exact cut_finB _ (ssRaiseI .text "place" okDI (seC (.int 0))) T [45] [] .text _ g e
/-! what is cut well is the text of these rods -/
theorem runG_text {k : Nat} {r : List Nat} {ms : List Int} (h : RunG k r ms) : ∃ m l, ms = m :: l ∧ (∀ x ∈ ms, Rod x) ∧ ms.length ≤ k ∧ r = TL.joinL [45] (ms.map num) := by
  induction h with
  | @last k w hw => exact ⟨_, _, rfl, by simpa using (isL_num hw).1, by simp, by simpa [TL.joinL] using (isL_num hw).2⟩
  | @more k w r ms hw _ ih =>
    obtain ⟨m, l, e, hm, hl, hr⟩ := ih
    refine ⟨_, _, rfl, ?_, by simp; omega, ?_⟩
    · intro x hx
      rcases List.mem_cons.mp hx with rfl | hx
      · exact (isL_num hw).1
      · exact hm x hx
    · subst e
      simp only [List.map_cons, TL.joinL] at hr ⊢
      rw [← (isL_num hw).2, ← hr]
      simp
end M7.Z
namespace M7.Z
open PySem PySem.Spec PyProof.Rows L2 R7 SX
theorem isInt_ok (m : Int) : φ_is_integer [(false, .int m)] = .ret false (.bl true) [(false, .int m)] := by
  simp [φ_is_integer, bodyFn, ss_is_integer, argG, ssRet, ofO, seAnd, seIsi, sbVar, O.bind, Ref.get, tkD, tInt, tBool, seNot, endsOf, endOf]
instance (m : Int) : Decidable (Rod m) := by unfold Rod; infer_instance
theorem isRod_ok (m : Int) : φ_Rule_is_rod [(false, .int m)] = .ret false (.bl (decide (Rod m))) [(false, .int m)] := by
  have e := isInt_ok m
  show bodyFn 1 1 ss_Rule_is_rod _ = _
  unfold ss_Rule_is_rod bodyFn
  generalize φ_is_integer = φ at e ⊢
  by_cases h1 : 1 ≤ m
  · by_cases h2 : m ≤ 40
    · simp [argG, ssRet, ofO, seAnd, seCall, saCons, sbVar, saNil, O.bind, distinct, lentOf, argsOf, argOf, Fl.own, e, giveBack, seChain, sbOf, seC, Ref.get, dLe, dCmp, ofOpt, endsOf, endOf, Rod, h1, h2]
    · simp [argG, ssRet, ofO, seAnd, seCall, saCons, sbVar, saNil, O.bind, distinct, lentOf, argsOf, argOf, Fl.own, e, giveBack, seChain, sbOf, seC, Ref.get, dLe, dCmp, ofOpt, endsOf, endOf, Rod, h1, h2]
  · simp [argG, ssRet, ofO, seAnd, seCall, saCons, sbVar, saNil, O.bind, distinct, lentOf, argsOf, argOf, Fl.own, e, giveBack, seChain, sbOf, seC, Ref.get, dLe, dCmp, ofOpt, endsOf, endOf, Rod, h1]
/-- a call of a def of one frozen argument -/
theorem call1 {φ : Fn} {g : G} {k : Nat} {d r : D} {o : Bool} (hg : g[k]? = some (some (.f, d))) (e : φ [(false, d)] = .ret o r [(false, d)]) : seCall φ (saCons (sbVar k) saNil) g = .ok (o, r) g := by
  simp [seCall, saCons, sbVar, saNil, hg, O.bind, distinct, lentOf, Fl.own, argsOf, argOf, e, giveBack]
theorem all_true {α : Type} (p : α → Bool) : ∀ l : List α, (∀ a ∈ l, p a = true) → (l.map p).all id = true
  | [], _ => rfl
  | a :: l, h => by simp only [List.map_cons, List.all_cons, h a (.head _), id, all_true p l fun a h' => h a (.tail _ h'), Bool.and_self]
theorem rods_lc (ms : List Int) (o : Option (Fl × D)) (hl : ms.length < 1000) :
    seLc (siOf (seVar 1)) (sgName 2) (fun g => .ok true g) (seCall φ_Rule_is_rod (saCons (sbVar 2) saNil)) [2] [o, some (.f, tupI ms), none] =
      .ok (true, .lst (ms.map fun m => .bl (decide (Rod m)))) [o, some (.f, tupI ms), none] :=
  lc1m (mk := M7.D.int) (ds := ms) (fun m => .bl (decide (Rod m))) (by simp [siOf, seVar, O.bind, Fl.fz, itemsOf]) rfl (by omega) fun m _ => ⟨false, call1 rfl (isRod_ok m)⟩
theorem init_gen (LC : SE) (R1 R2 : SS) (c : CN) (fs : List (Str × D)) (ms : List D) (bs : List D) (hl : 1 ≤ ms.length ∧ ms.length ≤ 12) (hc : isRule c = true) (hf : fs.length < 1000) (hb : boolsOf bs = some xs) (ha : xs.all id = true)
    (e : LC [some (.p, .obj c fs), some (.f, .tup ms), none] = .ok (true, .lst bs) [some (.p, .obj c fs), some (.f, .tup ms), none]) :
    bodyFn 2 3 (ssSeq (ssIf (stNot (stB (seChain dLe dLe (sbOf (seC (.int 1))) (sbOf (seCB dLen (saCons (sbVar 1) saNil))) (sbOf (seC (.int 12)))))) R1 ssNext)
    (ssSeq (ssIf (stNot (stB (seCB dAll (saCons (sbOf LC) saNil)))) R2 ssNext)
    (ssSetF isRule 0 "_rods" (seVar 1)))) [(true, .obj c fs), (false, .tup ms)] = .ret false .non [(true, .obj c (putFD "_rods" (.tup ms) fs)), (false, .tup ms)] := by
  have h1 : (1 : Int) ≤ (ms.length : Nat) := by omega
  have h2 : ((ms.length : Nat) : Int) ≤ 12 := by omega
  have ha' : ¬ false ∈ xs := by simpa using ha
  unfold bodyFn
  simp [argG, ssSeq, ssIf, stNot, stB, seChain, sbOf, seC, seCB, saCons, sbVar, saNil, O.bind, refsGet, Ref.get, dLen, dLe, dCmp, ofOpt, h1, h2, e, dAll, hb, ofO, ssNext, ssSetF, seVar, Fl.fz, ownAt, Fl.own, hc, hf, ha', endsOf, endOf]
theorem rule_init (c : CN) (fs : List (Str × D)) (ms : List Int) (hc : isRule c = true) (hf : fs.length < 1000) (hl : 1 ≤ ms.length ∧ ms.length ≤ 12) (hm : ∀ m ∈ ms, Rod m) :
    φ_Rule___init [(true, .obj c fs), (false, tupI ms)] = .ret false .non [(true, .obj c (putFD "_rods" (tupI ms) fs)), (false, tupI ms)] :=
  init_gen _ _ _ c fs (ms.map .int) _ (by rw [List.length_map]; exact hl) hc hf (boolsOf_map (fun m => decide (Rod m)) ms) (all_true _ _ fun m h => decide_eq_true (hm m h)) (rods_lc ms _ (by omega))
theorem e_rs : ¬ (("_rods" : Str) = "_straight") := by decide +kernel
/-- the fields of a rule of each kind -/
def fldR (ms : List Int) : List (Str × D) := [("_rods", tupI ms)]
theorem mkO_ok {c : CN} {φ : Fn} {m : Nat} {gD : List D → List D} {ds es : List D} {o : D} {g : G} {bk : List (Bool × D)} (hl : ds.length ≤ 100) (hm : es.length = m) (e : φ ((true, .obj c []) :: (gD es ++ [M7.D.tup ds]).map fun d => (false, d)) = .ret false .non ((true, o) :: bk)) : mkO c φ m gD ds es g = .ok (true, o) g := by
  have hs : ds.length ≤ sizeLine := Nat.le_trans hl (by decide)
  unfold mkO
  rw [if_pos ⟨hs, hm⟩, e]
theorem e_mi : (("-" : String) : Str) = S [45] := by decide +kernel
theorem ok_app {a b : Str} (ha : PyData.strOk a = true) (hb : PyData.strOk b = true) : PyData.strOk (a ++ b) = true := by
  have e : (a ++ b).cps = a.cps ++ b.cps := rfl
  unfold PyData.strOk at *
  rw [e, Array.all_append, ha, hb]
  rfl
theorem ok_from : ∀ (ts : List Str) (k : Nat) (acc : Str), (∀ t ∈ ts, PyData.strOk t = true) → PyData.strOk acc = true → PyData.strOk (textFrom k acc ts) = true
  | [], _, _, _, h => h
  | t :: r, k, acc, ht, h => by
    unfold textFrom
    refine ok_from r (k + 1) _ (fun t q => ht t (.tail _ q)) (ok_app (ok_app h ?_) (ht t (.head _)))
    split <;> decide +kernel
theorem ok_join : ∀ ts : List Str, (∀ t ∈ ts, PyData.strOk t = true) → PyData.strOk (Str.join ", " ts) = true
  | [], _ => by decide +kernel
  | [t], h => h t (.head _)
  | t :: u :: r, h => ok_app (ok_app (h t (.head _)) (by decide +kernel)) (ok_join (u :: r) fun t q => h t (.tail _ q))
/-- data that repr shows in at most n signs -/
structure SmP (n k : Nat) (d : PyData) : Prop where
  sh : d.showable = true
  sz : d.shown.length ≤ n
  dp : d.depth ≤ k
  ok : PyData.strOk d.shown = true
theorem smp_all : ∀ {ds : List PyData} {n k : Nat}, (∀ d ∈ ds, SmP n k d) → PyData.showableAll ds = true ∧ ((PyData.shownAll ds).map (·.length)).sum ≤ ds.length * n ∧ (PyData.shownAll ds).length = ds.length ∧ PyData.depthAll ds ≤ k ∧ ∀ t ∈ PyData.shownAll ds, PyData.strOk t = true
  | [], _, _, _ => by simp [PyData.showableAll, PyData.shownAll, PyData.depthAll]
  | d :: ds, n, k, h => by
    obtain ⟨a, b, c, e, f⟩ := smp_all (ds := ds) fun x hx => h x (List.mem_cons_of_mem _ hx)
    have hd := h d List.mem_cons_self
    refine ⟨by simp only [PyData.showableAll, hd.sh, a]; rfl, ?_, ?_, ?_, ?_⟩
    · simp only [PyData.shownAll, List.map_cons, List.sum_cons, List.length_cons, Nat.add_mul, Nat.one_mul]
      have := hd.sz
      omega
    · simp only [PyData.shownAll, List.length_cons, c]
    · simp only [PyData.depthAll]
      exact Nat.max_le.mpr ⟨hd.dp, e⟩
    · intro t ht
      simp only [PyData.shownAll, List.mem_cons] at ht
      rcases ht with rfl | ht
      · exact hd.ok
      · exact f t ht
theorem smp_list {ds : List PyData} {n k : Nat} (h : ∀ d ∈ ds, SmP n k d) : SmP (ds.length * n + 2 * ds.length + 3) (k + 1) (.list ds) := by
  obtain ⟨a, b, c, e, f⟩ := smp_all h
  refine ⟨by simpa only [PyData.showable] using a, ?_, by simp only [PyData.depth]; omega, ?_⟩
  · have := listText_len_le (PyData.shownAll ds)
    simp only [PyData.shown]
    omega
  · simp only [PyData.shown]
    exact ok_app (ok_from _ _ _ f (by decide +kernel)) (by decide +kernel)
theorem smp_tuple {ds : List PyData} {n k : Nat} (h : ∀ d ∈ ds, SmP n k d) : SmP (ds.length * n + 2 * ds.length + 3) (k + 1) (.tuple ds) := by
  obtain ⟨a, b, c, e, f⟩ := smp_all h
  refine ⟨by simpa only [PyData.showable] using a, ?_, by simp only [PyData.depth]; omega, ?_⟩
  · have := tupleText_len_le (PyData.shownAll ds)
    simp only [PyData.shown]
    omega
  · simp only [PyData.shown]
    refine ok_app (ok_app (by decide +kernel) (ok_join _ f)) ?_
    split <;> decide +kernel
theorem smp_nat : ∀ k : Nat, k < 1000 → (PyData.int (k : Int)).showable = true ∧ (PyData.int (k : Int)).shown.length ≤ 3 ∧ PyData.strOk (PyData.int (k : Int)).shown = true := by decide +kernel
theorem smp_int {n : Int} (h0 : 0 ≤ n) (h1 : n < 1000) : SmP 3 0 (.int n) := by
  obtain ⟨k, rfl⟩ : ∃ k : Nat, n = (k : Int) := ⟨n.toNat, by omega⟩
  obtain ⟨a, b, c⟩ := smp_nat k (by omega)
  exact ⟨a, b, by simp only [PyData.depth]; omega, c⟩
theorem SmP.mono {n k n' k' : Nat} {d : PyData} (h : SmP n k d) (hn : n ≤ n') (hk : k ≤ k') : SmP n' k' d := ⟨h.sh, Nat.le_trans h.sz hn, Nat.le_trans h.dp hk, h.ok⟩
/-- .. of data of the program -/
structure Sm (n k : Nat) (d : D) : Prop where
  ex : ∃ p, pd d = some p ∧ SmP n k p
theorem sm_ds {n k : Nat} : ∀ {ds : List D}, (∀ d ∈ ds, Sm n k d) → ∃ ps, pds ds = some ps ∧ ps.length = ds.length ∧ ∀ p ∈ ps, SmP n k p
  | [], _ => ⟨[], by simp [pds], rfl, by simp⟩
  | d :: ds, h => by
    obtain ⟨p, e, hp⟩ := (h d (.head _)).ex
    obtain ⟨ps, e2, hl, hps⟩ := sm_ds fun d q => h d (.tail _ q)
    refine ⟨p :: ps, by simp only [pds, e, e2], by simp [hl], fun q hq => ?_⟩
    rcases List.mem_cons.mp hq with rfl | hq
    · exact hp
    · exact hps q hq
theorem sm_lst {n k : Nat} {ds : List D} (h : ∀ d ∈ ds, Sm n k d) : Sm (ds.length * n + 2 * ds.length + 3) (k + 1) (.lst ds) := by
  obtain ⟨ps, e, hl, hps⟩ := sm_ds h
  refine ⟨.list ps, by simp only [pd, e, Option.map_some], ?_⟩
  rw [← hl]
  exact smp_list hps
theorem sm_tup {n k : Nat} {ds : List D} (h : ∀ d ∈ ds, Sm n k d) : Sm (ds.length * n + 2 * ds.length + 3) (k + 1) (.tup ds) := by
  obtain ⟨ps, e, hl, hps⟩ := sm_ds h
  refine ⟨.tuple ps, by simp only [pd, e, Option.map_some], ?_⟩
  rw [← hl]
  exact smp_tuple hps
theorem Sm.mono {n k n' k' : Nat} {d : D} (h : Sm n k d) (hn : n ≤ n') (hk : k ≤ k') : Sm n' k' d := by
  obtain ⟨p, e, hp⟩ := h.ex
  exact ⟨p, e, hp.mono hn hk⟩
theorem sm_int {n : Int} (h0 : 0 ≤ n) (h1 : n < 1000) : Sm 3 0 (.int n) := ⟨_, by simp only [pd], smp_int h0 h1⟩
theorem sm_lstI {ns : List Int} (h : ∀ n ∈ ns, 0 ≤ n ∧ n < 1000) (hl : ns.length ≤ 100) : Sm 600 1 (lstI ns) :=
  (sm_lst (n := 3) (k := 0) fun d hd => by
    obtain ⟨n, hn, rfl⟩ := List.mem_map.mp hd
    exact sm_int (h n hn).1 (h n hn).2).mono (by rw [List.length_map]; omega) (Nat.le_refl _)
theorem sm_tupI {ns : List Int} (h : ∀ n ∈ ns, 0 ≤ n ∧ n < 1000) (hl : ns.length ≤ 100) : Sm 600 1 (tupI ns) :=
  (sm_tup (n := 3) (k := 0) fun d hd => by
    obtain ⟨n, hn, rfl⟩ := List.mem_map.mp hd
    exact sm_int (h n hn).1 (h n hn).2).mono (by rw [List.length_map]; omega) (Nat.le_refl _)
theorem dRep_ok {n k : Nat} {d : D} (h : Sm n k d) (hn : n ≤ 100000) (hk : k ≤ 20) : ∃ s, dRep [d] = some (false, .str s) ∧ PyData.strOk s = true := by
  obtain ⟨p, e, hp⟩ := h.ex
  refine ⟨p.shown, ?_, hp.ok⟩
  simp only [dRep, e]
  rw [if_pos ⟨hp.sh, Nat.le_trans hp.sz (Nat.le_trans hn (by decide)), Nat.le_trans hp.dp hk⟩]
theorem equal_gen (E : D → D → Option (Bool × D)) (R : List D → Option (Bool × D)) (b1 b2 : Bool) (d d' s s' : D) (q : Bool) (e : R [d] = some (false, s)) (e' : R [d'] = some (false, s')) (he : E s s' = some (false, .bl q)) :
    bodyFn 2 2 (ssRet (seOp E (sbOf (seCB R (saCons (sbVar 0) saNil))) (sbOf (seCB R (saCons (sbVar 1) saNil))))) [(b1, d), (b2, d')] = .ret false (.bl q) [(b1, d), (b2, d')] := by
  unfold bodyFn
  cases b1 <;> cases b2 <;> simp [argG, ssRet, ofO, seOp, seCB, saCons, sbOf, sbVar, saNil, O.bind, refsGet, Ref.get, ofOpt, e, e', he, endsOf, endOf]
theorem equal_ok {n k : Nat} {d : D} (h : Sm n k d) (hn : n ≤ 100000) (hk : k ≤ 20) (b1 b2 : Bool) : φ_law_is_equal [(b1, d), (b2, d)] = .ret false (.bl true) [(b1, d), (b2, d)] := by
  obtain ⟨s, e, hs⟩ := dRep_ok h hn hk
  exact equal_gen dEq dRep b1 b2 d d (.str s) (.str s) true e e (by rw [dEq_str hs hs, decide_eq_true rfl])
theorem rest_nil : ∀ (ms : List Int) (k : Int), (∀ m ∈ ms, Rod m) → ∀ p ∈ restT [] [] [] [] k ms, p.1 ∈ [45] ∧ Rod p.2.1 ∧ (p.2.2 = [] ∨ ∃ c, p.2.2 = [c] ∧ c ∈ ([] : List Nat))
  | [], _, _, p, hp => by cases hp
  | m :: ms, k, hm, p, hp => by
    rcases List.mem_cons.mp hp with rfl | hp
    · exact ⟨by simp [mkT], hm m (.head _), .inl (by simp [amT])⟩
    · exact rest_nil ms (k + 1) (fun m h => hm m (.tail _ h)) p hp
theorem plain_gen (φc M : Fn) (t k1 k2 r x y o : D) (rs : List D) (bk : List (Bool × D)) (hl : rs.length ≤ 100) (ec : φc [(false, t), (false, .int 12), (false, .int 40), (false, k1), (false, k2)] = .ret false (.tup [.lst rs, x, y]) [(false, t), (false, .int 12), (false, .int 40), (false, k1), (false, k2)])
    (em : M [(true, .obj .rule []), (false, .tup rs)] = .ret false .non ((true, o) :: bk)) :
    bodyFn 2 3 (ssSeq (ssAsg (seOp dIx (sbOf (seCall φc (saCons (sbVar 1) (saCons (sbOf (seC (.int 12))) (saCons (sbOf (seC (.int 40))) (saCons (sbOf (seC k1)) (saCons (sbOf (seC k2)) saNil))))))) (sbOf (seC (.int 0)))) (sgName 2))
    (ssRet (seMakeSv .rule M id 0 (seVar 2)))) [(false, .cls .rule), (false, t)] = .ret true o [(false, .cls .rule), (false, t)] := by
  have hk := fun (g : M7.G) => mkO_ok (c := .rule) (φ := M) (m := 0) (gD := id) (ds := rs) (es := []) (o := o) (g := g) (bk := bk) hl rfl em
  unfold bodyFn
  simp [argG, ssSeq, ssAsg, seOp, sbOf, seCall, saCons, sbVar, seC, saNil, O.bind, distinct, lentOf, argsOf, argOf, Fl.own, Fl.fz, ec, giveBack, Ref.get, dIx, atI, ixN, ofOpt, ofO, sgName, setS, ssRet, seMakeSv, seVar, seqOf, hk, endsOf, endOf]
theorem plain_ok (m : Int) (ms : List Int) (hm : ∀ k ∈ m :: ms, Rod k) (hl : (m :: ms).length ≤ 12) :
    φ_Rule_plain [(false, .cls .rule), (false, strL (textT [] [] [] [] (m :: ms)))] = .ret true (.obj .rule (fldR (m :: ms))) [(false, .cls .rule), (false, strL (textT [] [] [] [] (m :: ms)))] := by
  have hle := text_len [] [] [] [] (m :: ms) hm
  have ec := cut_ok kind_plain (T := textT [] [] [] [] (m :: ms)) (by omega) m [] (restT [] [] [] [] 1 ms) (by simp [textT, amT]) (hm m (.head _)) (.inl rfl) (rest_nil ms 1 fun m h => hm m (.tail _ h)) (by rw [restT_len]; simp at hl; omega)
  rw [restT_rods] at ec
  have em := rule_init .rule [] (m :: ms) rfl (by simp) ⟨by simp, hl⟩ hm
  simp only [putFD] at em
  show bodyFn 2 3 ss_Rule_plain _ = _
  unfold ss_Rule_plain
  rw [e_mi, e_empty]
  exact plain_gen φ_cut φ_Rule___init _ _ _ .non _ _ _ _ _ (by rw [List.length_map]; omega) ec em
theorem join_text : ∀ (m : Int) (ms : List Int) (k : Int), TL.joinL [45] ((m :: ms).map num) = num m ++ tailT (restT [] [] [] [] k ms)
  | m, [], k => by simp [TL.joinL, restT, tailT]
  | m, n :: ms, k => by
    have ih := join_text n ms (k + 1)
    simp only [List.map_cons] at ih
    simp only [List.map_cons, TL.joinL, ih, restT, tailT]
    simp [mkT, amT]
theorem strsD_map (l : List (List Nat)) : strsD (l.map strL) = some (l.map S) := by
  induction l with
  | nil => rfl
  | cons a l ih => simp only [List.map_cons, strsD, ih, Option.map_some]
theorem join_num (m : Int) (ms : List Int) (hm : ∀ k ∈ m :: ms, Rod k) (hl : (m :: ms).length ≤ 12) : dJoin (.str ("-" : Str)) (lstS ((m :: ms).map num)) = some (false, strL (textT [] [] [] [] (m :: ms))) := by
  have h2 : ∀ l : List Int, (∀ k ∈ l, Rod k) → ((l.map num).map (·.length)).sum ≤ 2 * l.length := fun l => by
    induction l with
    | nil => simp
    | cons a l ih =>
      intro h
      have := ih fun k q => h k (.tail _ q)
      have hz : (num a).length ≤ 2 := by
        rcases num_shape (h a (.head _)) with ⟨_, e, _⟩ | ⟨_, _, e, _⟩ <;> rw [e] <;> simp
      simp only [List.map_cons, List.sum_cons, List.length_cons]
      omega
  have := h2 (m :: ms) hm
  simp only [dJoin, strsD_map, Option.bind_some]
  rw [if_pos, e_mi, join_S, join_text m ms 1]
  · simp [textT, amT]
  · rw [lens, e_mi, S_len]
    simp only [List.length_map, List.length_cons, List.length_nil] at *
    omega
end M7.Z
namespace M7.Z
open PySem PySem.Spec PyProof.Rows L2 R7 SX
/-! the law's own reading of a text -/
def alph : List Nat := [45, 61, 126, 60, 62, 48, 49, 50, 51, 52, 53, 54, 55, 56, 57, 32]
def Al (t : List Nat) : Prop := ∀ c ∈ t, c ∈ alph
theorem Al.app {a b : List Nat} (h : Al a) (k : Al b) : Al (a ++ b) := fun c m => (List.mem_append.mp m).elim (h c) (k c)
theorem Al.sub {a b : List Nat} (h : Al b) (k : ∀ c ∈ a, c ∈ b) : Al a := fun c m => h c (k c m)
theorem Al.take {a : List Nat} (h : Al a) (n : Nat) : Al (a.take n) := h.sub fun _ m => List.mem_of_mem_take m
theorem Al.drop {a : List Nat} (h : Al a) (n : Nat) : Al (a.drop n) := h.sub fun _ m => List.mem_of_mem_drop m
theorem al_digit : (alph.all fun c => decide (Unicode.isDigit c = dig c)) = true := by decide +kernel
theorem al_ch : (alph.all fun c => decide (c < 1114112)) = true := by decide +kernel
theorem Al.ch {t : List Nat} (h : Al t) : chOk t = true := List.all_eq_true.mpr fun c m => List.all_eq_true.mp al_ch c (h c m)
theorem isdigit_S {t : List Nat} (h : Al t) : Txt.isdigit (S t) = (!t.isEmpty && t.all dig) := by
  unfold Txt.isdigit
  rw [S_len, ← Array.all_toList]
  show (decide (t.length > 0) && t.all Unicode.isDigit) = _
  have : t.all Unicode.isDigit = t.all dig := by
    rw [Bool.eq_iff_iff, List.all_eq_true, List.all_eq_true]
    exact ⟨fun k c m => by rw [← of_decide_eq_true (List.all_eq_true.mp al_digit c (h c m))]; exact k c m, fun k c m => by rw [of_decide_eq_true (List.all_eq_true.mp al_digit c (h c m))]; exact k c m⟩
  rw [this]
  cases t <;> simp
theorem len_gen (Dg : D → Option (Bool × D)) (L : List D → Option (Bool × D)) (X N : D → D → Option (Bool × D)) (I : List D → Option (Bool × D)) (z : Str) (s h : D) (b0 b3 : Bool) (n k : Int)
    (e0 : Dg (.str z) = some (false, .bl b0)) (e1 : L [.str z] = some (false, .int n)) (e2 : b0 = true → n ≤ 2 → X (.str z) (.int 0) = some (false, h)) (e3 : b0 = true → n ≤ 2 → N h s = some (false, .bl b3)) (e4 : b0 = true → n ≤ 2 → b3 = true → I [.str z] = some (false, .int k)) :
    bodyFn 1 1 (ssRet (seAnd (seM0 Dg (sbVar 0)) (seAnd (seOp dLe (sbOf (seCB L (saCons (sbVar 0) saNil))) (sbOf (seC (.int 2)))) (seAnd (seOp N (sbOf (seOp X (sbVar 0) (sbOf (seC (.int 0))))) (sbOf (seC s))) (seOp dLe (sbOf (seCB I (saCons (sbVar 0) saNil))) (sbOf (seC (.int 40)))))))) [(false, .str z)] =
      .ret false (.bl (b0 && (decide (n ≤ 2) && (b3 && decide (k ≤ 40))))) [(false, .str z)] := by
  unfold bodyFn
  cases b0
  · simp [argG, e0, seM0, ssIf, ssDrop, ssRet, ssNext, ssAsg, ssPar, ofO, O.bind, stB, stNot, stAnd, stOr, seOp, seAnd, seOr, seNot, seIf, seCB, seVar, seMove, seC, sbVar, sbOf, saCons, saNil, Fl.own, Fl.pin, Fl.fz, Ref.get, ofOpt, refsGet, datas, setS, sgName, sgTup, sgCons, sgNil, ownAt, isLst, seMutV, seMut, seLst, seTup, sized_ok, seNeg, endsOf, endOf]
  · by_cases hn : n ≤ 2
    · have e2 := e2 rfl hn
      have e3 := e3 rfl hn
      cases b3
      · simp [argG, e0, e1, e2, e3, hn, seM0, dLe, dCmp, seCB, refsGet, ssIf, ssDrop, ssRet, ssNext, ssAsg, ssPar, ofO, O.bind, stB, stNot, stAnd, stOr, seOp, seAnd, seOr, seNot, seIf, seCB, seVar, seMove, seC, sbVar, sbOf, saCons, saNil, Fl.own, Fl.pin, Fl.fz, Ref.get, ofOpt, refsGet, datas, setS, sgName, sgTup, sgCons, sgNil, ownAt, isLst, seMutV, seMut, seLst, seTup, sized_ok, seNeg, endsOf, endOf]
      · have e4 := e4 rfl hn rfl
        simp [argG, e0, e1, e2, e3, e4, hn, seM0, dLe, dCmp, seCB, refsGet, ssIf, ssDrop, ssRet, ssNext, ssAsg, ssPar, ofO, O.bind, stB, stNot, stAnd, stOr, seOp, seAnd, seOr, seNot, seIf, seCB, seVar, seMove, seC, sbVar, sbOf, saCons, saNil, Fl.own, Fl.pin, Fl.fz, Ref.get, ofOpt, refsGet, datas, setS, sgName, sgTup, sgCons, sgNil, ownAt, isLst, seMutV, seMut, seLst, seTup, sized_ok, seNeg, endsOf, endOf]
    · simp [argG, e0, e1, hn, seM0, dLe, dCmp, seCB, refsGet, ssIf, ssDrop, ssRet, ssNext, ssAsg, ssPar, ofO, O.bind, stB, stNot, stAnd, stOr, seOp, seAnd, seOr, seNot, seIf, seCB, seVar, seMove, seC, sbVar, sbOf, saCons, saNil, Fl.own, Fl.pin, Fl.fz, Ref.get, ofOpt, refsGet, datas, setS, sgName, sgTup, sgCons, sgNil, ownAt, isLst, seMutV, seMut, seLst, seTup, sized_ok, seNeg, endsOf, endOf]
theorem e_zero : (("0" : String) : Str) = S [48] := by decide +kernel
theorem isLen_ok {c : List Nat} (h : Al c) (hl : c.length ≤ 10000) : φ_law_is_length [(false, strL c)] = .ret false (.bl (isL c)) [(false, strL c)] := by
  have e0 : dIsdigit (strL c) = some (false, .bl (!c.isEmpty && c.all dig)) := by
    show some (false, M7.D.bl (Txt.isdigit (S c))) = _
    rw [isdigit_S h]
  have e1 := dLen_str c (by omega)
  match c, h, hl, e0, e1 with
  | [], _, _, e0, e1 =>
    refine (len_gen dIsdigit dLen dIx dNe dIntC (S []) (.str "0") .non _ false _ 0 e0 e1 ?_ ?_ ?_).trans ?_
    · intro hh; simp at hh
    · intro hh; simp at hh
    · intro hh; simp at hh
    · simp [isL]
  | [a], h, _, e0, e1 =>
    have e2 : dIx (strL [a]) (.int 0) = some (false, strL [a]) := dIx_str [a] 0 a (by simp) rfl
    have e3 : dNe (strL [a]) (.str "0") = some (false, .bl (!decide ([a] = [48]))) := by
      rw [e_zero, dNe_strL h.ch rfl]
    have hd : dig a = true → (!decide ([a] = [48])) = true → fd a = true := fun h1 h2 => by
      simp [dig] at h1
      simp at h2
      simp [fd]
      omega
    refine (len_gen dIsdigit dLen dIx dNe dIntC (S [a]) (.str "0") (strL [a]) _ _ _ (vl [a]) e0 e1 (fun _ _ => e2) (fun _ _ => e3) ?_).trans ?_
    · intro h1 _ h2
      exact dIntC_S (int_one (hd (by simpa using h1) h2)) (by simp)
    · by_cases ha : fd a = true
      · have h1 : dig a = true := by simp [fd] at ha; simp [dig]; omega
        have h2 : ¬ a = 48 := by simp [fd] at ha; omega
        have h3 : (a : Int) - 48 ≤ 40 := by simp [fd] at ha; omega
        simp [isL, ha, h1, h2, vl, h3]
      · have : ¬ (dig a = true ∧ ¬ a = 48) := fun hh => ha (hd hh.1 (by simp [hh.2]))
        simp [isL, ha]
        intro h1 h2
        exact absurd ⟨h1, h2⟩ this
  | [a, b], h, _, e0, e1 =>
    have e2 : dIx (strL [a, b]) (.int 0) = some (false, strL [a]) := dIx_str [a, b] 0 a (by simp) rfl
    have h' : Al [a] := fun c m => h c (by simp at m; simp [m])
    have e3 : dNe (strL [a]) (.str "0") = some (false, .bl (!decide ([a] = [48]))) := by
      rw [e_zero, dNe_strL h'.ch rfl]
    have hd : dig a = true → (!decide ([a] = [48])) = true → fd a = true := fun h1 h2 => by
      simp [dig] at h1
      simp at h2
      simp [fd]
      omega
    refine (len_gen dIsdigit dLen dIx dNe dIntC (S [a, b]) (.str "0") (strL [a]) _ _ _ (vl [a, b]) e0 e1 (fun _ _ => e2) (fun _ _ => e3) ?_).trans ?_
    · intro h1 _ h2
      simp at h1
      exact dIntC_S (int_two (hd h1.1 h2) h1.2) (by simp)
    · by_cases ha : fd a = true
      · have h1 : dig a = true := by simp [fd] at ha; simp [dig]; omega
        have h2 : ¬ a = 48 := by simp [fd] at ha; omega
        simp [isL, ha, h1, h2]
      · have : ¬ (dig a = true ∧ ¬ a = 48) := fun hh => ha (hd hh.1 (by simp [hh.2]))
        simp [isL, ha]
        intro h1 _ h2
        exact absurd ⟨h1, h2⟩ this
  | a :: b :: c :: r, h, hl, e0, e1 =>
    have hn : ¬ (((a :: b :: c :: r).length : Nat) : Int) ≤ 2 := by simp; omega
    refine (len_gen dIsdigit dLen dIx dNe dIntC (S (a :: b :: c :: r)) (.str "0") .non _ false _ 0 e0 e1 (fun _ q => absurd q hn) (fun _ q => absurd q hn) (fun _ q => absurd q hn)).trans ?_
    rw [decide_eq_false hn]
    simp [isL]
end M7.Z
namespace M7.Z
open PySem PySem.Spec PyProof.Rows L2 R7 SX
section
variable {s k l x4 x5 x6 x7 x8 x9 x10 : Option (Fl × D)}
end
section
variable (M e f g h : List Int)
end
section
variable (d : D) (M : List Int) (e f g h : List Int)
end
section
variable {M e f g h : List Int} {ws : List Nat}
end
def Un (x : Option (Fl × D)) : Prop := ∀ c d, x = some (c, d) → c.pin = false
theorem un_none : Un none := fun _ _ h => by cases h
theorem un_f (d : D) : Un (some (.f, d)) := fun _ _ h => by cases h; rfl
theorem un_o (d : D) : Un (some (.o, d)) := fun _ _ h => by cases h; rfl
section
variable {s k l x4 x5 x6 x7 x8 x9 x10 : Option (Fl × D)}
end
theorem sgN {x : Option (Fl × D)} {g : G} {k : Nat} (h : g[k]? = some x) (u : x = none ∨ ∃ d, x = some (.f, d)) (d : D) : sgName k (false, d) g = some (g.set k (some (.f, d))) := by
  unfold sgName setS
  rw [h]
  rcases u with rfl | ⟨e, rfl⟩ <;> simp [Fl.pin]
section
variable (e f g h : List Int) (M : List Int)
end
section
variable {s k l x4 x5 x6 x7 x8 x9 x10 : Option (Fl × D)}
end
section
variable (M e f g h : List Int)
end
theorem rangeD_int {lo : Int} {n : Nat} {d : D} (h : d ∈ rangeD lo n) : ∃ i : Int, lo ≤ i ∧ i < lo + n ∧ d = .int i := by
  rw [← rgI_map] at h
  obtain ⟨i, hi, rfl⟩ := List.mem_map.mp h
  have := (rgI_mem n lo i).mp hi
  exact ⟨i, this.1, this.2, rfl⟩
section
variable (d : D) (M : List Int) (e f g h : List Int)
end
theorem si_rg1 {u : SB} {g : G} {n : Int} (hu : u g = .ok (.dt (.int n)) g) (h0 : 0 ≤ n) (h1 : n < 1000000) : siA rg1 (saCons u saNil) g = .ok (rangeD 0 n.toNat) g := by
  have h3 : -4611686018427387904 ≤ n ∧ n < 4611686018427387904 := by omega
  simp [siA, saCons, hu, saNil, O.bind, refsGet, Ref.get, rg1, h3]
theorem for_rg1 {u : SB} {g g' : G} {n : Int} {sg : SG} {B : SS} (hu : u g = .ok (.dt (.int n)) g) (h0 : 0 ≤ n) (h1 : n < 1000000) (e : loopL sg B (rangeD 0 n.toNat) g = .nx g') : ssFor (siA rg1 (saCons u saNil)) sg B g = .nx g' := by
  unfold ssFor
  rw [si_rg1 hu h0 h1]
  exact e
section
variable {M e f g h : List Int} {ws : List Nat}
end
theorem seq_rt {a b : SS} {g g1 : G} {o : Bool} {d : D} (e : a g = .rt o d g1) : ssSeq a b g = .rt o d g1 := by
  simp only [ssSeq, e]
theorem loopL_rt {sg : SG} {body : SS} {d : D} {ds : List D} {g g1 g2 : G} {o : Bool} {r : D} (e1 : sg (false, d) g = some g1) (e2 : body g1 = .rt o r g2) : loopL sg body (d :: ds) g = .rt o r g2 := by
  simp only [loopL, e1, e2]
section
variable {φ : Fn} {x0 x1 : Option (Fl × D)} {a b c a' b' c' : Int} {tl : G} {r : D} {o : Bool}
end
section
variable {d R : D} {M e f g h : List Int}
end
section
variable {R : D} {M e f g h : List Int}
end
section
variable {R : D} {M e f g h : List Int}
end
section
variable (e f g h : List Int) (le : e.length + f.length ≤ 1000) (lg : g.length + h.length ≤ 1000) (re : ∀ k ∈ e ++ f, 1 ≤ k)
end
theorem seIf_c {st : ST} {a b : SE} {g : G} {q : Bool} (e : st g = .ok q g) : seIf st a b g = if q = true then a g else b g := by
  simp only [seIf, e, O.bind]
theorem seq_nx {a b : SS} {g g1 : G} (e : a g = .nx g1) : ssSeq a b g = b g1 := by
  simp only [ssSeq, e]
theorem dAdd_strL (a b : List Nat) (h : a.length + b.length ≤ 100000) : dAdd (strL a) (strL b) = some (false, strL (a ++ b)) := by
  simp only [dAdd, dCatS]
  rw [if_pos (by rw [S_len, S_len]; exact Nat.le_trans h (by decide)), S_cat]
theorem e_eq : (("=" : String) : Str) = S [61] := by decide +kernel
theorem e_ti : (("~" : String) : Str) = S [126] := by decide +kernel
theorem e_gt : ((">" : String) : Str) = S [62] := by decide +kernel
theorem e_lt : (("<" : String) : Str) = S [60] := by decide +kernel
instance (m : Int) : Decidable (Rod m) := by unfold Rod; infer_instance
theorem loopL_step {sg : SG} {body : SS} {d : D} {ds : List D} {g g1 g2 : G} (e1 : sg (false, d) g = some g1) (e2 : body g1 = .nx g2) : loopL sg body (d :: ds) g = loopL sg body ds g2 := by
  simp only [loopL, e1, e2]
end M7.Z
namespace M7.Z
open PySem PySem.Spec PyProof.Rows L2 R7 SX
theorem chk_mem : ∀ (n : Nat) (t : List Nat), t.length ≤ n → (chk t).length ≤ t.length + 1 ∧ ∀ p ∈ chk t, (∀ c ∈ p, c ∈ t) ∧ p.length ≤ t.length
  | 0, t, h => by
    have : t = [] := List.eq_nil_of_length_eq_zero (by omega)
    subst this
    rw [chk_last (by simp)]
    simp
  | n + 1, t, h => by
    by_cases ht : 45 ∈ t
    · obtain ⟨u, v, e, hu⟩ := List.eq_append_cons_of_mem ht
      subst e
      rw [chk_part hu]
      simp at h
      obtain ⟨h1, h2⟩ := chk_mem n v (by omega)
      refine ⟨by simp; omega, fun p hp => ?_⟩
      rcases List.mem_cons.mp hp with rfl | hp
      · exact ⟨fun c hc => by simp [hc], by simp⟩
      · obtain ⟨h3, h4⟩ := h2 p hp
        exact ⟨fun c hc => by simp [h3 c hc], by simp; omega⟩
    · rw [chk_last ht]
      simp
theorem text_gen (SP : D → D → Option (Bool × D)) (L : List D → Option (Bool × D)) (E : D → D → Option (Bool × D)) (LC : SE) (z : Str) (s d : D) (ones : List D) (n : Int) (q : Bool) (e0 : SP (.str z) s = some (true, d)) (e1 : L [d] = some (false, .int n))
    (e2 : LC [some (.f, .str z), some (.o, d), none] = .ok (true, .lst ones) [some (.f, .str z), some (.f, d), none]) (e3 : E (.lst ones) (.lst []) = some (false, .bl q)) :
    bodyFn 1 3 (ssSeq (ssAsg (seM1 SP (sbVar 0) (sbOf (seC s))) (sgName 1)) (ssRet (seAnd (seOp dLe (sbOf (seCB L (saCons (sbVar 1) saNil))) (sbOf (seC (.int 12)))) (seOp E (sbOf LC) (sbOf (seLst saNil)))))) [(false, .str z)] =
      .ret false (.bl (decide (n ≤ 12) && q)) [(false, .str z)] := by
  unfold bodyFn
  by_cases hn : n ≤ 12
  · simp [argG, seM1, e0, e1, e2, e3, hn, seCB, dLe, dCmp, ssSeq, ssIf, ssDrop, ssRet, ssNext, ssAsg, ssPar, ofO, O.bind, stB, stNot, stAnd, stOr, seOp, seAnd, seOr, seNot, seIf, seCB, seVar, seMove, seC, sbVar, sbOf, saCons, saNil, Fl.own, Fl.pin, Fl.fz, Ref.get, ofOpt, refsGet, datas, setS, sgName, sgTup, sgCons, sgNil, ownAt, isLst, seMutV, seMut, seLst, seTup, sized_ok, seNeg, endsOf, endOf]
  · simp [argG, seM1, e0, e1, e2, e3, hn, seCB, dLe, dCmp, ssSeq, ssIf, ssDrop, ssRet, ssNext, ssAsg, ssPar, ofO, O.bind, stB, stNot, stAnd, stOr, seOp, seAnd, seOr, seNot, seIf, seCB, seVar, seMove, seC, sbVar, sbOf, saCons, saNil, Fl.own, Fl.pin, Fl.fz, Ref.get, ofOpt, refsGet, datas, setS, sgName, sgTup, sgCons, sgNil, ownAt, isLst, seMutV, seMut, seLst, seTup, sized_ok, seNeg, endsOf, endOf]
theorem dSplit_ok {t : List Nat} (hl : t.length ≤ 10000) : dSplit (strL t) (.str "-") = some (true, .lst ((chk t).map strL)) := by
  rw [e_mi]
  have hz : (S t).length + 2 ≤ sizeLine := by rw [S_len]; exact Nat.le_trans (by omega : t.length + 2 ≤ 100000) (by decide)
  simp only [dSplit]
  rw [if_pos ⟨rfl, hz⟩, split_S (by simp) (by decide), List.map_map]
  rfl
theorem dEq_ones (n : Nat) : dEq (.lst (List.replicate n (.int 1))) (.lst []) = some (false, .bl (decide (n = 0))) := by
  have e : List.replicate n (M7.D.int 1) = (List.replicate n (1 : Int)).map .int := by rw [List.map_replicate]
  rw [e]
  unfold dEq
  rw [cmp_ints, show (M7.D.lst []).cmpable = true from cmp_ints []]
  cases n with
  | zero => simp [D.py, D.pys, PyData.eqv, PyData.eqvAll]
  | succ n => simp [D.py, D.pys, PyData.eqv, PyData.eqvAll, List.replicate_succ]
theorem dLen_lst {ds : List D} (h : ds.length ≤ 100000) : dLen [.lst ds] = some (false, .int (ds.length : Nat)) := by
  simp [dLen]
theorem isText_ok {t : List Nat} (h : Al t) (hl : t.length ≤ 10000) : φ_law_is_text [(false, strL t)] = .ret false (.bl (okR 12 t)) [(false, strL t)] := by
  obtain ⟨c1, c2⟩ := chk_mem _ t (Nat.le_refl _)
  have e1 : dLen [.lst ((chk t).map strL)] = some (false, .int ((chk t).length : Nat)) := by
    rw [dLen_lst (by rw [List.length_map]; omega), List.length_map]
  have e2 : seLc (siOf (seVar 1)) (sgName 2) (stNot (stB (seCall φ_law_is_length (saCons (sbVar 2) saNil)))) (seC (.int 1)) [2] [some (.f, strL t), some (.o, .lst ((chk t).map strL)), none] =
      .ok (true, .lst (((chk t).filter fun p => !isL p).map fun _ => .int 1)) [some (.f, strL t), some (.f, .lst ((chk t).map strL)), none] := by
    refine lc1 (mk := strL) (ds := chk t) (fun _ => M7.D.int 1) (fun p => !isL p) (by simp [siOf, seVar, O.bind, Fl.fz, itemsOf]) rfl (by omega) fun p hp => ?_
    obtain ⟨k1, k2⟩ := c2 p hp
    have ec := call1 (g := [some (.f, strL t), some (.f, .lst ((chk t).map strL)), some (.f, strL p)]) (k := 2) rfl (isLen_ok (h.sub k1) (by omega))
    refine ⟨?_, fun _ => ⟨false, rfl⟩⟩
    show stNot _ [some (.f, strL t), some (.f, .lst ((chk t).map strL)), some (.f, strL p)] = .ok _ [some (.f, strL t), some (.f, .lst ((chk t).map strL)), some (.f, strL p)]
    unfold stNot stB
    rw [ec]
    rfl
  rw [show (((chk t).filter fun p => !isL p).map fun _ => M7.D.int 1) = List.replicate ((chk t).filter fun p => !isL p).length (.int 1) from List.map_const'] at e2
  refine (text_gen dSplit dLen dEq _ (S t) (.str "-") _ _ _ _ (dSplit_ok hl) e1 e2 (dEq_ones _)).trans ?_
  unfold okR
  congr 2
  congr 1
  · exact decide_eq_decide.mpr (by omega)
  · rw [Bool.eq_iff_iff, decide_eq_true_eq, List.length_eq_zero_iff, List.filter_eq_nil_iff, List.all_eq_true]
    simp
theorem e_one : (("1" : String) : Str) = S [49] := by decide +kernel
theorem slT_to (t : List Nat) (i : Nat) (hl : t.length ≤ 10000) : dSl (strL t) none (some (i : Int)) = some (false, strL (t.take i)) := by
  have hz : (S t).length ≤ sizeLine := by rw [S_len]; exact Nat.le_trans (by omega : t.length ≤ 100000) (by decide)
  simp only [dSl]
  rw [if_pos hz]
  have := cut_S t 0 i (Nat.zero_le _)
  rw [List.drop_zero, Nat.sub_zero] at this
  rw [show strL (t.take i) = .str (S (t.take i)) from rfl, ← this]
  unfold cutS
  rw [HT.sIx_nat, HT.sIx_none, HT.sIx_nat, Nat.zero_min]
theorem slT_from (t : List Nat) (i : Nat) (hl : t.length ≤ 10000) : dSl (strL t) (some (i : Int)) none = some (false, strL (t.drop i)) := by
  have hz : (S t).length ≤ sizeLine := by rw [S_len]; exact Nat.le_trans (by omega : t.length ≤ 100000) (by decide)
  simp only [dSl]
  rw [if_pos hz]
  have e : cutS (S t) (some (i : Int)) none = S ((t.drop (min i t.length)).take (t.length - min i t.length)) := by
    unfold cutS
    rw [HT.sIx_nat, HT.sIx_none, S_len]
  rw [e]
  by_cases hi : i ≤ t.length
  · rw [Nat.min_eq_left hi, List.take_of_length_le (by rw [List.length_drop]; omega)]
  · rw [Nat.min_eq_right (by omega), Nat.sub_self, List.take_zero, List.drop_eq_nil_of_le (show t.length ≤ i by omega)]
end M7.Z
namespace M7.Z
open PySem PySem.Spec PyProof.Rows L2 R7 SX
theorem place_step (φ : Fn) (A : D → D → Option (Bool × D)) (Z : D → Option Int → Option Int → Option (Bool × D)) (t s x y : D) (f i : Int) (b1 b2 : Bool) (z : Str)
    (e1 : Z (.str z) none (some i) = some (false, x)) (e2 : φ [(false, x)] = .ret false (.bl b1) [(false, x)]) (e3 : A x s = some (false, y)) (e4 : φ [(false, y)] = .ret false (.bl b2) [(false, y)]) :
    ssIf (stOr (stB (seCall φ (saCons (sbOf (seSl Z (sbVar 0) soNone (soSome (seVar 2)))) saNil))) (stB (seCall φ (saCons (sbOf (seOp A (sbOf (seSl Z (sbVar 0) soNone (soSome (seVar 2)))) (sbOf (seC s)))) saNil)))) (ssAsg (seCB dMax2 (saCons (sbVar 1) (saCons (sbVar 2) saNil))) (sgName 1)) ssNext [some (.f, .str z), some (.f, .int f), some (.f, .int i)] =
      .nx [some (.f, .str z), some (.f, .int (if (b1 || b2) = true then (if i > f then i else f) else f)), some (.f, .int i)] := by
  cases b1 <;> cases b2 <;> simp [e1, e2, e3, e4, seSl, soNone, soSome, seCB, refsGet, dMax2, ssIf, ssDrop, ssRet, ssNext, ssAsg, ssPar, ofO, O.bind, stB, stNot, stAnd, stOr, seOp, seAnd, seOr, seNot, seIf, seCB, seVar, seMove, seC, sbVar, sbOf, saCons, saNil, Fl.own, Fl.pin, Fl.fz, Ref.get, ofOpt, refsGet, datas, setS, sgName, sgTup, sgCons, sgNil, ownAt, isLst, seMutV, seMut, seLst, seTup, sized_ok, seNeg, seCall, distinct, lentOf, argsOf, argOf, giveBack]
theorem place_fin (B : SS) (t : D) (f : Int) (n : Int) (x : Option (Fl × D)) (h0 : 0 ≤ n) (h1 : n < 1000000) (el : dLen [t] = some (false, .int (n - 1))) (e : loopL (sgName 2) B (rangeD 0 n.toNat) [some (.f, t), some (.f, .int 0), none] = .nx [some (.f, t), some (.f, .int f), x]) :
    bodyFn 1 3 (ssSeq (ssAsg (seC (.int 0)) (sgName 1)) (ssSeq (ssFor (siA rg1 (saCons (sbOf (seOp dAdd (sbOf (seCB dLen (saCons (sbVar 0) saNil))) (sbOf (seC (.int 1))))) saNil)) (sgName 2) B) (ssRet (seMove 1)))) [(false, t)] = .ret false (.int f) [(false, t)] := by
  have lp : ssFor (siA rg1 (saCons (sbOf (seOp dAdd (sbOf (seCB dLen (saCons (sbVar 0) saNil))) (sbOf (seC (.int 1))))) saNil)) (sgName 2) B [some (.f, t), some (.f, .int 0), none] = .nx [some (.f, t), some (.f, .int f), x] :=
    for_rg1 (n := n) (by simp [el, seCB, refsGet, dAdd, ssIf, ssDrop, ssRet, ssNext, ssAsg, ssPar, ofO, O.bind, stB, stNot, stAnd, stOr, seOp, seAnd, seOr, seNot, seIf, seCB, seVar, seMove, seC, sbVar, sbOf, saCons, saNil, Fl.own, Fl.pin, Fl.fz, Ref.get, ofOpt, refsGet, datas, setS, sgName, sgTup, sgCons, sgNil, ownAt, isLst, seMutV, seMut, seLst, seTup, sized_ok, seNeg]) h0 h1 e
  unfold bodyFn
  simp [argG, ssSeq, lp, seMove, ssIf, ssDrop, ssRet, ssNext, ssAsg, ssPar, ofO, O.bind, stB, stNot, stAnd, stOr, seOp, seAnd, seOr, seNot, seIf, seCB, seVar, seMove, seC, sbVar, sbOf, saCons, saNil, Fl.own, Fl.pin, Fl.fz, Ref.get, ofOpt, refsGet, datas, setS, sgName, sgTup, sgCons, sgNil, ownAt, isLst, seMutV, seMut, seLst, seTup, sized_ok, seNeg, endsOf, endOf]
theorem place_ok {t : List Nat} {p : Nat} (h : Al t) (hl : t.length ≤ 5000) (h1 : p ≤ t.length) (h2 : good 12 (t.take p) = true) (h3 : ∀ q, p < q → q ≤ t.length → good 12 (t.take q) = false) :
    φ_law_place [(false, strL t)] = .ret false (.int (p : Nat)) [(false, strL t)] := by
  obtain ⟨g', e, f, x, hf0, hf1, hf2, rfl, _⟩ := loopL_nx (sg := sgName 2) (body := ss_law_place_b0) (ds := rangeD 0 ((t.length + 1 : Nat) : Int).toNat) (i := 0) (g := [some (.f, strL t), some (.f, .int 0), none])
    (fun i g => ∃ (f : Int) (x : Option (Fl × D)), 0 ≤ f ∧ f ≤ p ∧ (p < i → f = p) ∧ g = [some (.f, strL t), some (.f, .int f), x] ∧ (x = none ∨ ∃ d, x = some (.f, d)))
    ⟨0, none, by omega, by omega, by omega, rfl, .inl rfl⟩ (fun j d g hd hi => by
      obtain ⟨f, x, hf0, hf1, hf2, rfl, hx⟩ := hi
      have hj := rangeD_get hd
      have hlt : j < ((t.length + 1 : Nat) : Int).toNat := by
        have := (List.getElem?_eq_some_iff.mp hd).1
        simpa [rangeD] using this
      have hjl : j ≤ t.length := by omega
      have ht : (t.take j).length ≤ 5000 := by rw [List.length_take]; omega
      have a49 : Al [49] := fun c m => by simp at m; subst m; decide
      have e2 := isText_ok (h.take j) (by omega)
      have e4 := isText_ok ((h.take j).app a49) (by simp; omega)
      have e3 : dAdd (strL (t.take j)) (.str "1") = some (false, strL (t.take j ++ [49])) := by
        rw [e_one]
        exact dAdd_strL _ _ (by simp; omega)
      have st := place_step φ_law_is_text dAdd dSl (strL t) (.str "1") (strL (t.take j)) (strL (t.take j ++ [49])) f (0 + (j : Int)) _ _ (S t) (by rw [Int.zero_add]; exact slT_to t j (by omega)) e2 e3 e4
      refine ⟨_, _, by rw [hj]; exact (sgN rfl hx _).trans rfl, st, _, _, ?_, ?_, ?_, rfl, .inr ⟨_, rfl⟩⟩
      · split
        · split <;> omega
        · omega
      · split
        · rename_i hg
          split
          · by_cases hjp : p < j
            · have := h3 j hjp hjl
              rw [good] at this
              rw [this] at hg
              cases hg
            · omega
          · omega
        · omega
      · intro hp
        by_cases hjp : p < j
        · have hg := h3 j hjp hjl
          rw [good] at hg
          rw [hg, if_neg (by simp)]
          exact hf2 (by omega)
        · have hjp : j = p := by omega
          rw [good] at h2
          subst hjp
          rw [h2, if_pos rfl]
          split <;> omega)
  have hlen : (0 + (rangeD 0 ((t.length + 1 : Nat) : Int).toNat).length) = t.length + 1 := by simp [rangeD]
  have hfp := hf2 (by rw [hlen]; omega)
  subst hfp
  exact place_fin ss_law_place_b0 (strL t) _ ((t.length + 1 : Nat) : Int) x (by omega) (by omega) (by rw [dLen_str t (by omega)]; simp) e
end M7.Z
namespace M7.Z
open PySem PySem.Spec PyProof.Rows L2 R7 SX
open PySem.Builtin PySem.Builtin.Str
/-! what repr shows of a text -/
theorem al_repr : (alph.all fun c => (reprChar 39 c).all fun k => decide (k < 1114112)) = true := by decide +kernel
theorem al_q : (alph.all fun c => decide (c ≠ 39)) = true := by decide +kernel
theorem fold_ok : ∀ (l : List Nat) (acc : Array Nat), (∀ c ∈ l, c ∈ alph) → acc.all (· < 1114112) = true → (l.foldl (fun out c => out ++ (reprChar 39 c).toArray) acc).all (· < 1114112) = true
  | [], acc, _, h => h
  | c :: r, acc, hl, h => by
    rw [List.foldl_cons]
    refine fold_ok r _ (fun d hd => hl d (.tail _ hd)) ?_
    rw [Array.all_append, h, Bool.true_and]
    have := List.all_eq_true.mp al_repr c (hl c (.head _))
    rw [← Array.all_toList]
    exact this
theorem quote_S {t : List Nat} (h : Al t) : reprQuote (S t) = 39 := by
  unfold reprQuote
  rw [if_neg]
  intro hh
  rw [Bool.and_eq_true] at hh
  have hm : 39 ∈ t := by
    have := hh.1
    rw [Array.contains_eq_mem, decide_eq_true_eq] at this
    simpa [S] using this
  have := List.all_eq_true.mp al_q 39 (h 39 hm)
  simp at this
theorem sm_txt {t : List Nat} (h : Al t) (hl : t.length ≤ 1000) : Sm 10002 0 (strL t) := by
  refine ⟨.str (S t), by simp only [pd], ⟨rfl, ?_, by simp only [PyData.depth]; omega, ?_⟩⟩
  · have hx : ∀ c ∈ (S t).cps.toList, c < 16 ^ 8 := fun c hc => by
      have := chOk_mem h.ch (show c ∈ t from by simpa [S] using hc)
      omega
    have := StrLaws.reprText_len (S t) hx
    have e : (S t).length = t.length := S_len t
    simp only [PyData.shown]
    omega
  · simp only [PyData.shown]
    unfold PyData.strOk reprText
    rw [quote_S h]
    show ((((S t).cps.foldl (fun out c => out ++ (reprChar 39 c).toArray) #[39]).push 39).all fun c => decide (c < 0x110000)) = true
    rw [Array.all_push, ← Array.foldl_toList]
    have := fold_ok (S t).cps.toList #[39] (fun c hc => h c (by simpa [S] using hc)) (by decide +kernel)
    rw [this]
    rfl
theorem sm_dct0 : Sm 2 1 (.dct []) := ⟨.dict [], by simp only [pd], by decide +kernel, by decide +kernel, by decide +kernel, by decide +kernel⟩
theorem sm_te : Sm 13 0 (.str "TextError") := ⟨.str "TextError", by simp only [pd], by decide +kernel, by decide +kernel, by decide +kernel, by decide +kernel⟩
theorem sm_told {p : Nat} (hp : p < 1000) : Sm 1000 1 (.tup [.str "TextError", .int (p : Nat)]) :=
  (sm_tup (n := 13) (k := 0) fun d hd => by
    rcases List.mem_cons.mp hd with rfl | hd
    · exact sm_te
    · rw [List.mem_singleton.mp hd]
      exact (sm_int (by omega) (by omega)).mono (by omega) (Nat.le_refl _)).mono (by simp) (Nat.le_refl _)
/-! what comes of Rule.plain -/
theorem plain_genB (φc M : Fn) (t k1 k2 : D) (x : XN) (f : Option D) (ec : φc [(false, t), (false, .int 12), (false, .int 40), (false, k1), (false, k2)] = .ex x f [(false, t), (false, .int 12), (false, .int 40), (false, k1), (false, k2)]) :
    bodyFn 2 3 (ssSeq (ssAsg (seOp dIx (sbOf (seCall φc (saCons (sbVar 1) (saCons (sbOf (seC (.int 12))) (saCons (sbOf (seC (.int 40))) (saCons (sbOf (seC k1)) (saCons (sbOf (seC k2)) saNil))))))) (sbOf (seC (.int 0)))) (sgName 2))
    (ssRet (seMakeSv .rule M id 0 (seVar 2)))) [(false, .cls .rule), (false, t)] = .ex x f [(false, .cls .rule), (false, t)] := by
  unfold bodyFn
  simp [argG, ec, ssSeq, ssIf, ssDrop, ssRet, ssNext, ssAsg, ssPar, ofO, O.bind, stB, stNot, stAnd, stOr, seOp, seAnd, seOr, seNot, seIf, seCB, seVar, seMove, seC, sbVar, sbOf, saCons, saNil, Fl.own, Fl.pin, Fl.fz, Ref.get, ofOpt, refsGet, datas, setS, sgName, sgTup, sgCons, sgNil, ownAt, isLst, seMutV, seMut, seLst, seTup, sized_ok, seNeg, seCall, distinct, lentOf, argsOf, argOf, giveBack, endsOf, endOf]
theorem plain_bad {T : List Nat} {p : Nat} (hT : T.length ≤ 10000) (h : RunB 12 T p) :
    φ_Rule_plain [(false, .cls .rule), (false, strL T)] = .ex .text (plE (p : Nat)) [(false, .cls .rule), (false, strL T)] := by
  have ec := cut_bad hT h
  show bodyFn 2 3 ss_Rule_plain _ = _
  unfold ss_Rule_plain
  rw [e_mi, e_empty]
  exact plain_genB φ_cut φ_Rule___init _ _ _ .text _ ec
theorem cut_val (W : SS) (d a b c e : D) (k : TK) (h1 : tkD d = some k) (h2 : tStr k = some false) :
    bodyFn 5 12 (ssSeq (ssIf (stNot (stB (seIsi tStr (sbVar 0)))) (ssRaiseI .text "place" okDI (seC (.int 0))) ssNext) W) [(false, d), (false, a), (false, b), (false, c), (false, e)] =
      .ex .text (plE 0) [(false, d), (false, a), (false, b), (false, c), (false, e)] := by
  have hk : okDI (.int 0) = true := by decide +kernel
  unfold bodyFn
  simp [argG, ssSeq, seIsi, h1, h2, hk, ssRaiseI, ssIf, ssDrop, ssRet, ssNext, ssAsg, ssPar, ofO, O.bind, stB, stNot, stAnd, stOr, seOp, seAnd, seOr, seNot, seIf, seCB, seVar, seMove, seC, sbVar, sbOf, saCons, saNil, Fl.own, Fl.pin, Fl.fz, Ref.get, ofOpt, refsGet, datas, setS, sgName, sgTup, sgCons, sgNil, ownAt, isLst, seMutV, seMut, seLst, seTup, sized_ok, seNeg, endsOf, endOf]
theorem plain_val (d : D) (k : TK) (h1 : tkD d = some k) (h2 : tStr k = some false) : φ_Rule_plain [(false, .cls .rule), (false, d)] = .ex .text (plE 0) [(false, .cls .rule), (false, d)] := by
  show bodyFn 2 3 ss_Rule_plain _ = _
  unfold ss_Rule_plain
  exact plain_genB φ_cut φ_Rule___init _ _ _ .text _ (cut_val _ d _ _ _ _ k h1 h2)
theorem right_genB (φp φt φl φe : Fn) (R : SS) (t : D) (p : Int) (ep : φp [(false, .cls .rule), (false, t)] = .ex .text (plE p) [(false, .cls .rule), (false, t)]) (et : φt [(false, t)] = .ret false (.bl false) [(false, t)]) (el : φl [(false, t)] = .ret false (.int p) [(false, t)])
    (ee : φe [(false, .tup [.str "TextError", .int p]), (false, .tup [.str "TextError", .int p])] = .ret false (.bl true) [(false, .tup [.str "TextError", .int p]), (false, .tup [.str "TextError", .int p])]) :
    bodyFn 1 4 (ssSeq (ssAsg (seOutF .text "value" "TextError" "place" (seCall φp (saD (.cls .rule) (saCons (sbVar 0) saNil)))) (sgName 1))
    (ssSeq (ssIf (stNot (stB (seCall φt (saCons (sbVar 0) saNil)))) (ssRet (seCall φe (saCons (sbVar 1) (saCons (sbOf (seTup (saCons (sbOf (seC (.str "TextError"))) (saCons (sbOf (seCall φl (saCons (sbVar 0) saNil))) saNil)))) saNil)))) ssNext) R)) [(false, t)] = .ret false (.bl true) [(false, t)] := by
  unfold bodyFn
  simp [argG, ssSeq, seOutF, offG, offS, saD, ep, fldOf, et, el, ee, ssIf, ssDrop, ssRet, ssNext, ssAsg, ssPar, ofO, O.bind, stB, stNot, stAnd, stOr, seOp, seAnd, seOr, seNot, seIf, seCB, seVar, seMove, seC, sbVar, sbOf, saCons, saNil, Fl.own, Fl.pin, Fl.fz, Ref.get, ofOpt, refsGet, datas, setS, sgName, sgTup, sgCons, sgNil, ownAt, isLst, seMutV, seMut, seLst, seTup, sized_ok, seNeg, seCall, distinct, lentOf, argsOf, argOf, giveBack, endsOf, endOf]
theorem right_bad {T : List Nat} {p : Nat} (hA : Al T) (hT : T.length ≤ 900) (h : RunB 12 T p) : φ_law_is_right [(false, strL T)] = .ret false (.bl true) [(false, strL T)] := by
  obtain ⟨h1, h2, h3, h4⟩ := runB_ok h
  have et := isText_ok hA (by omega)
  rw [h2] at et
  exact right_genB φ_Rule_plain φ_law_is_text φ_law_place φ_law_is_equal _ (strL T) (p : Nat) (plain_bad (by omega) h) et (place_ok hA (by omega) h1 h3 h4) (equal_ok (sm_told (by omega)) (by omega) (by omega) false false)
end M7.Z
namespace M7.Z
open PySem PySem.Spec PyProof.Rows L2 R7 SX
theorem rods_ok' (b : Bool) (c : CN) (fs : List (Str × D)) (ms : List Int) (hc : isRule c = true) (l : fs.lookup ("_rods" : Str) = some (tupI ms)) : φ_Rule_rods [(b, .obj c fs)] = .ret true (lstI ms) [(b, .obj c fs)] := by
  show bodyFn 1 1 ss_Rule_rods _ = _
  unfold bodyFn ss_Rule_rods
  cases b <;> simp [argG, ssRet, ofO, seCB, saCons, saNil, sbOf, seFld, sbVar, Ref.get, fieldD, hc, l, O.bind, refsGet, dList, ofOpt, endsOf, endOf]
theorem ckr_ok (c : CN) (fs : List (Str × D)) (hc : isRule c = true) : φ_check_rule [(false, .obj c fs)] = .ret false .non [(false, .obj c fs)] := by
  show bodyFn 1 1 ss_check_rule _ = _
  unfold bodyFn ss_check_rule
  cases c <;> first | (exact absurd hc (by decide)) | simp [argG, ssIf, stNot, stB, seIsi, sbVar, Ref.get, tkD, tCls, onRules, O.bind, ofO, ssNext, endsOf, endOf]
section
variable {R : D} {M : List Int} {al : List Nat → Bool}
end
theorem if_no {se : SE} {g g1 : G} {S : SS} (e : se g = .ok (false, .bl true) g1) : ssIf (stNot (stB se)) S ssNext g = .nx g1 := by
  simp [ssIf, ssDrop, ssRet, ssNext, ssAsg, ssPar, ofO, O.bind, stB, stNot, stAnd, stOr, seOp, seAnd, seOr, seNot, seIf, seCB, seVar, seMove, seC, sbVar, sbOf, saCons, saNil, Fl.own, Fl.pin, Fl.fz, Ref.get, ofOpt, refsGet, datas, setS, sgName, sgTup, sgCons, sgNil, ownAt, isLst, seMutV, seMut, seLst, seTup, sized_ok, seNeg, e]
def lap2 (x y : Option (Fl × D)) : Prop := (x = none ∧ y = none) ∨ ∃ d e, x = some (.f, d) ∧ y = some (.f, e)
end M7.Z
namespace M7.Z
open PySem PySem.Spec PyProof.Rows L2 R7 SX
abbrev tab0 : D := .dct [(.inr "straight", .tup []), (.inr "folded", .tup []), (.inr "right", .tup []), (.inr "left", .tup [])]
theorem opt_rule (b : Bool) (o : D) : φ_Rule_options [(b, o)] = .ret true (.dct []) [(b, o)] := by
  show bodyFn 1 1 ss_Rule_options _ = _
  unfold bodyFn ss_Rule_options
  cases b <;> simp [argG, ssRet, seDNew, ofO, endsOf, endOf]
theorem dc_tab (x0 : Option (Fl × D)) : seDc (siOf (seC (.tup [.str "straight", .str "folded", .str "right", .str "left"]))) (sgName 2) (fun g => .ok true g) (seVar 2) (seDGet2 (sbVar 1) (sbVar 2) (sbOf (seTup saNil))) [2] [x0, some (.o, .dct []), none] =
    .ok (true, tab0) [x0, some (.o, .dct []), none] := by rfl
theorem allo_gen (φ : Fn) (DC : SE) (tb : CN → Option Fn) (fs : List (Str × D)) (h1 : tb .rule = some φ) (h2 : fs.lookup ("options" : Str) = none) (e : φ [(false, .obj .rule fs)] = .ret true (.dct []) [(false, .obj .rule fs)])
    (ed : DC [some (.f, .obj .rule fs), some (.o, .dct []), none] = .ok (true, tab0) [some (.f, .obj .rule fs), some (.o, .dct []), none]) :
    bodyFn 1 3 (ssSeq (ssAsg (seMeth "options" tb (sbVar 0) saNil) (sgName 1)) (ssRet DC)) [(false, .obj .rule fs)] = .ret true tab0 [(false, .obj .rule fs)] := by
  unfold bodyFn
  simp [argG, ssSeq, seMeth, callO, h1, h2, e, ed, ssIf, ssDrop, ssRet, ssNext, ssAsg, ssPar, ofO, O.bind, stB, stNot, stAnd, stOr, seOp, seAnd, seOr, seNot, seIf, seCB, seVar, seMove, seC, sbVar, sbOf, saCons, saNil, Fl.own, Fl.pin, Fl.fz, Ref.get, ofOpt, refsGet, datas, setS, sgName, sgTup, sgCons, sgNil, ownAt, isLst, seMutV, seMut, seLst, seTup, sized_ok, seNeg, seCall, distinct, lentOf, argsOf, argOf, giveBack, endsOf, endOf]
theorem allo_ok (fs : List (Str × D)) (h : fs.lookup ("options" : Str) = none) : φ_all_options [(false, .obj .rule fs)] = .ret true tab0 [(false, .obj .rule fs)] :=
  allo_gen φ_Rule_options _ tb_options fs rfl h (opt_rule false _) (dc_tab _)
theorem hinge_ok (b : Bool) (i : Int) : φ_hinge_mark [(false, .int i), (b, tab0)] = .ret false (.str "-") [(false, .int i), (b, tab0)] := by
  cases b <;> rfl
theorem aim_ok (b : Bool) (i : Int) : φ_aim_mark [(false, .int i), (b, tab0)] = .ret false (.str "") [(false, .int i), (b, tab0)] := by
  cases b <;> rfl
theorem jn_step (φa : Fn) (m i : Int) (tab : D) (x0 x1 x3 : Option (Fl × D)) (hm : Rod m) (ea : φa [(false, .int i), (true, tab)] = .ret false (.str "") [(false, .int i), (true, tab)]) :
    jsL [seFmt (seVar 5), seFmt (seCall φa (saCons (sbVar 4) (saCons (sbVar 2) saNil)))] Str.empty [x0, x1, some (.o, tab), x3, some (.f, .int i), some (.f, .int m)] = .ok (false, strL (num m)) [x0, x1, some (.o, tab), x3, some (.f, .int i), some (.f, .int m)] := by
  have hz : (num m).length ≤ 2 := by
    rcases num_shape hm with ⟨_, e, _⟩ | ⟨_, _, e, _⟩ <;> rw [e] <;> simp
  have e1 : Str.empty ++ Str.ofString (toString m) = S (num m) := by
    rw [num_str hm, show Str.empty = S [] from rfl, S_cat, List.nil_append]
  have e2 : S (num m) ++ (("" : String) : Str) = S (num m) := by
    rw [e_empty, S_cat, List.append_nil]
  have l1 : (S (num m)).length ≤ sizeLine := by rw [S_len]; exact Nat.le_trans (by omega : (num m).length ≤ 100) (by decide)
  have l2 : (("" : String) : Str).length ≤ sizeLine := by rw [e_empty, S_len]; exact Nat.zero_le _
  have e1' : Str.empty ++ Str.ofString m.repr = S (num m) := e1
  have e2' : S (num m) ++ Str.ofString "" = S (num m) := e2
  have l2' : (Str.ofString "").length ≤ sizeLine := l2
  simp [jsL, seFmt, num_log hm, e1', e2', l1, l2', ea, ssIf, ssDrop, ssRet, ssNext, ssAsg, ssPar, ofO, O.bind, stB, stNot, stAnd, stOr, seOp, seAnd, seOr, seNot, seIf, seCB, seVar, seMove, seC, sbVar, sbOf, saCons, saNil, Fl.own, Fl.pin, Fl.fz, Ref.get, ofOpt, refsGet, datas, setS, sgName, sgTup, sgCons, sgNil, ownAt, isLst, seMutV, seMut, seLst, seTup, sized_ok, seNeg, seCall, distinct, lentOf, argsOf, argOf, giveBack]
theorem writ_gen (φa φh : Fn) (A : D → List D → Option (D × D)) (L : List D → Option (Bool × D)) (JS : SE) (x0 : Option (Fl × D)) (M tab : D) (ps ps1 ps2 : List D) (i m n : Int) (s h : D)
    (ej : JS [x0, some (.f, M), some (.o, tab), some (.o, .lst ps), some (.f, .int i), some (.f, .int m)] = .ok (false, s) [x0, some (.f, M), some (.o, tab), some (.o, .lst ps), some (.f, .int i), some (.f, .int m)])
    (eh : φh [(false, .int i), (true, tab)] = .ret false h [(false, .int i), (true, tab)]) (eL : L [M] = some (false, .int n)) (a1 : A (.lst ps) [s] = some (.non, .lst ps1)) (a2 : A (.lst ps1) [h] = some (.non, .lst ps2)) :
    (ssSeq (ssDrop (seMutV isLst 3 A (saCons (sbOf JS) saNil)))
    (ssIf (stB (seOp dLt (sbVar 4) (sbOf (seCB L (saCons (sbVar 1) saNil))))) (ssDrop (seMutV isLst 3 A (saCons (sbOf (seCall φh (saCons (sbVar 4) (saCons (sbVar 2) saNil)))) saNil))) ssNext)) [x0, some (.f, M), some (.o, tab), some (.o, .lst ps), some (.f, .int i), some (.f, .int m)] =
      .nx [x0, some (.f, M), some (.o, tab), some (.o, .lst (if i < n then ps2 else ps1)), some (.f, .int i), some (.f, .int m)] := by
  by_cases hi : i < n
  · simp [ej, eh, eL, a1, a2, hi, ssSeq, seCB, refsGet, dLt, dCmp, ssIf, ssDrop, ssRet, ssNext, ssAsg, ssPar, ofO, O.bind, stB, stNot, stAnd, stOr, seOp, seAnd, seOr, seNot, seIf, seCB, seVar, seMove, seC, sbVar, sbOf, saCons, saNil, Fl.own, Fl.pin, Fl.fz, Ref.get, ofOpt, refsGet, datas, setS, sgName, sgTup, sgCons, sgNil, ownAt, isLst, seMutV, seMut, seLst, seTup, sized_ok, seNeg, seCall, distinct, lentOf, argsOf, argOf, giveBack]
  · simp [ej, eh, eL, a1, a2, hi, ssSeq, seCB, refsGet, dLt, dCmp, ssIf, ssDrop, ssRet, ssNext, ssAsg, ssPar, ofO, O.bind, stB, stNot, stAnd, stOr, seOp, seAnd, seOr, seNot, seIf, seCB, seVar, seMove, seC, sbVar, sbOf, saCons, saNil, Fl.own, Fl.pin, Fl.fz, Ref.get, ofOpt, refsGet, datas, setS, sgName, sgTup, sgCons, sgNil, ownAt, isLst, seMutV, seMut, seLst, seTup, sized_ok, seNeg, seCall, distinct, lentOf, argsOf, argOf, giveBack]
def pts : List Int → List (List Nat)
  | [] => []
  | [m] => [num m]
  | m :: n :: l => num m :: [45] :: pts (n :: l)
theorem pts_join : ∀ ms : List Int, TL.joinL [] (pts ms) = TL.joinL [45] (ms.map num)
  | [] => rfl
  | [m] => rfl
  | m :: n :: l => by
    have ih := pts_join (n :: l)
    have hne : ∀ (a : List Nat) (q : List (List Nat)), q ≠ [] → TL.joinL [] (a :: q) = a ++ TL.joinL [] q := fun a q hq => by
      cases q with
      | nil => exact absurd rfl hq
      | cons b q => simp [TL.joinL]
    have hp : pts (n :: l) ≠ [] := by cases l <;> simp [pts]
    simp only [List.map_cons] at ih
    simp only [pts, List.map_cons, TL.joinL]
    rw [hne _ _ hp, ih]
    simp
theorem pts_len : ∀ ms : List Int, (pts ms).length ≤ 2 * ms.length
  | [] => by simp [pts]
  | [m] => by simp [pts]
  | m :: n :: l => by
    have := pts_len (n :: l)
    simp [pts] at this ⊢
    omega
theorem sg45 {x0 x1 x2 x3 x4 x5 : Option (Fl × D)} (h : lap2 x4 x5) (a b : D) : sgTup 2 (sgCons (sgName 4) (sgCons (sgName 5) sgNil)) (false, .tup [a, b]) [x0, x1, x2, x3, x4, x5] = some [x0, x1, x2, x3, some (.f, a), some (.f, b)] := by
  rcases h with ⟨rfl, rfl⟩ | ⟨d, e, rfl, rfl⟩ <;> rfl
theorem writ_loop (x0 : Option (Fl × D)) (M : List Int) : ∀ (ms : List Int) (k : Int) (ps : List (List Nat)) (x4 x5 : Option (Fl × D)), k + ms.length = M.length + 1 → ps.length + 2 * ms.length ≤ 1000 → lap2 x4 x5 → (∀ m ∈ ms, Rod m) →
    ∃ y4 y5, loopL (sgTup 2 (sgCons (sgName 4) (sgCons (sgName 5) sgNil))) ss_written_b0 (enumK k (ms.map .int)) [x0, some (.f, lstI M), some (.o, tab0), some (.o, lstS ps), x4, x5] =
      .nx [x0, some (.f, lstI M), some (.o, tab0), some (.o, lstS (ps ++ pts ms)), y4, y5]
  | [], k, ps, x4, x5, _, _, _, _ => ⟨x4, x5, by simp [enumK, loopL, pts]⟩
  | m :: ms, k, ps, x4, x5, hk, hp, hx, hm => by
    have hr := hm m (.head _)
    simp only [List.length_cons] at hp hk
    have a1 : fAppend (lstS ps) [strL (num m)] = some (.non, lstS (ps ++ [num m])) := by
      rw [show lstS (ps ++ [num m]) = .lst (ps.map strL ++ [strL (num m)]) by simp]
      exact fApp (by rw [List.length_map]; omega)
    have a2 : fAppend (lstS (ps ++ [num m])) [.str "-"] = some (.non, lstS (ps ++ [num m] ++ [[45]])) := by
      rw [e_mi, show lstS (ps ++ [num m] ++ [[45]]) = .lst ((ps ++ [num m]).map strL ++ [strL [45]]) by simp]
      exact fApp (by rw [List.length_map, List.length_append]; simp; omega)
    have st : ss_written_b0 [x0, some (.f, lstI M), some (.o, tab0), some (.o, lstS ps), some (.f, .int k), some (.f, .int m)] = .nx [x0, some (.f, lstI M), some (.o, tab0), some (.o, .lst (if k < (M.length : Nat) then (ps ++ [num m] ++ [[45]]).map strL else (ps ++ [num m]).map strL)), some (.f, .int k), some (.f, .int m)] :=
      writ_gen φ_aim_mark φ_hinge_mark fAppend dLen _ x0 (lstI M) tab0 _ _ _ k m (M.length : Nat) (strL (num m)) (.str "-") (jn_step φ_aim_mark m k tab0 x0 _ _ hr (aim_ok true k)) (hinge_ok true k) (by simp [dLen]) a1 a2
    have ih := fun ps h => writ_loop x0 M ms (k + 1) ps (some (.f, .int k)) (some (.f, .int m)) (by omega) h (.inr ⟨_, _, rfl, rfl⟩) (fun m h => hm m (.tail _ h))
    rw [List.map_cons, enumK, loopL_step (sg45 hx _ _) st]
    cases ms with
    | nil =>
      obtain ⟨y4, y5, e⟩ := ih (ps ++ [num m]) (by simp; simp at hp; omega)
      refine ⟨y4, y5, ?_⟩
      rw [if_neg (by simp at hk; omega), e]
      simp [pts]
    | cons n l =>
      obtain ⟨y4, y5, e⟩ := ih (ps ++ [num m] ++ [[45]]) (by simp; simp at hp; omega)
      refine ⟨y4, y5, ?_⟩
      rw [if_pos (by simp at hk; omega), e]
      simp [pts]
theorem written_gen (φk φr φa : Fn) (tb : CN → Option Fn) (B : SS) (E : D → D → Option (Bool × D)) (fs : List (Str × D)) (ms : List Int) (ps : List D) (tab s r : D) (z : Str) (y4 y5 : Option (Fl × D)) (ht : tb .rule = some φr) (es : s = .str z)
    (ek : φk [(false, .obj .rule fs)] = .ret false .non [(false, .obj .rule fs)]) (er : φr [(false, .obj .rule fs)] = .ret true (lstI ms) [(false, .obj .rule fs)]) (ea : φa [(false, .obj .rule fs)] = .ret true tab [(false, .obj .rule fs)])
    (el : loopL (sgTup 2 (sgCons (sgName 4) (sgCons (sgName 5) sgNil))) B (enumK 1 (ms.map .int)) [some (.f, .obj .rule fs), some (.f, lstI ms), some (.o, tab), some (.o, .lst []), none, none] = .nx [some (.f, .obj .rule fs), some (.f, lstI ms), some (.o, tab), some (.o, .lst ps), y4, y5])
    (ej : E s (.lst ps) = some (false, r)) :
    bodyFn 1 6 (ssSeq (ssDrop (seCall φk (saCons (sbVar 0) saNil)))
    (ssSeq (ssAsg (seProp tb (sbVar 0)) (sgName 1))
    (ssSeq (ssAsg (seCall φa (saCons (sbVar 0) saNil)) (sgName 2))
    (ssSeq (ssAsg (seLst saNil) (sgName 3))
    (ssSeq (ssFor (siV (enK 1) (saCons (sbOf (seVar 1)) saNil)) (sgTup 2 (sgCons (sgName 4) (sgCons (sgName 5) sgNil))) B)
    (ssRet (seM1 E (sbOf (seC s)) (sbVar 3)))))))) [(false, .obj .rule fs)] = .ret false r [(false, .obj .rule fs)] := by
  subst es
  unfold bodyFn
  simp [argG, ssSeq, seProp, callO, ht, ek, er, ea, ssFor, siV, enK, el, seM1, ej, ssIf, ssDrop, ssRet, ssNext, ssAsg, ssPar, ofO, O.bind, stB, stNot, stAnd, stOr, seOp, seAnd, seOr, seNot, seIf, seCB, seVar, seMove, seC, sbVar, sbOf, saCons, saNil, Fl.own, Fl.pin, Fl.fz, Ref.get, ofOpt, refsGet, datas, setS, sgName, sgTup, sgCons, sgNil, ownAt, isLst, seMutV, seMut, seLst, seTup, sized_ok, seNeg, seCall, distinct, lentOf, argsOf, argOf, giveBack, endsOf, endOf]
theorem num_sum : ∀ ms : List Int, (∀ m ∈ ms, Rod m) → ((pts ms).map (·.length)).sum ≤ 3 * ms.length
  | [], _ => by simp [pts]
  | [m], h => by
    have : (num m).length ≤ 2 := by
      rcases num_shape (h m (.head _)) with ⟨_, e, _⟩ | ⟨_, _, e, _⟩ <;> rw [e] <;> simp
    simp [pts]
    omega
  | m :: n :: l, h => by
    have := num_sum (n :: l) fun m q => h m (.tail _ q)
    have h2 : (num m).length ≤ 2 := by
      rcases num_shape (h m (.head _)) with ⟨_, e, _⟩ | ⟨_, _, e, _⟩ <;> rw [e] <;> simp
    simp [pts] at this ⊢
    omega
theorem join_pts (ms : List Int) (hm : ∀ m ∈ ms, Rod m) (hl : ms.length ≤ 12) : dJoin (.str "") (lstS (pts ms)) = some (false, strL (TL.joinL [45] (ms.map num))) := by
  have h1 := num_sum ms hm
  have h2 := pts_len ms
  simp only [dJoin, strsD_map, Option.bind_some]
  rw [if_pos, e_empty, join_S, pts_join]
  rw [lens, e_empty, S_len]
  simp only [List.length_map, List.length_nil] at *
  omega
theorem written_ok (ms : List Int) (hm : ∀ m ∈ ms, Rod m) (hl : ms.length ≤ 12) : φ_written [(false, .obj .rule (fldR ms))] = .ret false (strL (TL.joinL [45] (ms.map num))) [(false, .obj .rule (fldR ms))] := by
  obtain ⟨y4, y5, e⟩ := writ_loop (some (.f, .obj .rule (fldR ms))) ms ms 1 [] none none (by omega) (by simp; omega) (.inl ⟨rfl, rfl⟩) hm
  rw [List.nil_append] at e
  exact written_gen φ_check_rule φ_Rule_rods φ_all_options tb_rods ss_written_b0 dJoin (fldR ms) ms _ tab0 (.str "") _ _ y4 y5 rfl rfl (ckr_ok .rule _ rfl) (rods_ok' false .rule _ ms rfl (by rfl)) (allo_ok _ (by rfl)) e (join_pts ms hm hl)
end M7.Z
namespace M7.Z
open PySem PySem.Spec PyProof.Rows L2 R7 SX
theorem right_genG (φp φt φr φo φw φe : Fn) (tbr tbo : CN → Option Fn) (N : D → D → Option (Bool × D)) (LC : SE) (t : D) (fs : List (Str × D)) (ms : List Int) (z : Str) (hz : t = .str z)
    (ep : φp [(false, .cls .rule), (false, t)] = .ret true (.obj .rule fs) [(false, .cls .rule), (false, t)]) (et : φt [(false, t)] = .ret false (.bl true) [(false, t)]) (eN : N (.str "value") (.str "value") = some (false, .bl false))
    (eL : LC [some (.f, t), some (.f, .tup [.str "value", .obj .rule fs]), none, none] = .ok (true, lstI ms) [some (.f, t), some (.f, .tup [.str "value", .obj .rule fs]), none, none])
    (hr : tbr .rule = some φr) (er : φr [(false, .obj .rule fs)] = .ret true (lstI ms) [(false, .obj .rule fs)]) (ho : tbo .rule = some φo) (hl : fs.lookup ("options" : Str) = none) (eo : φo [(false, .obj .rule fs)] = .ret true (.dct []) [(false, .obj .rule fs)])
    (ew : φw [(false, .obj .rule fs)] = .ret false t [(false, .obj .rule fs)]) (ee : φe [(false, .lst [lstI ms, .dct [], t]), (false, .lst [lstI ms, .dct [], t])] = .ret false (.bl true) [(false, .lst [lstI ms, .dct [], t]), (false, .lst [lstI ms, .dct [], t])]) :
    bodyFn 1 4 (ssSeq (ssAsg (seOutF .text "value" "TextError" "place" (seCall φp (saD (.cls .rule) (saCons (sbVar 0) saNil)))) (sgName 1))
    (ssSeq (ssIf (stNot (stB (seCall φt (saCons (sbVar 0) saNil)))) (ssRet (seCall φe (saCons (sbVar 1) (saCons (sbOf (seTup (saCons (sbOf (seC (.str "TextError"))) (saCons (sbOf (seCall φl (saCons (sbVar 0) saNil))) saNil)))) saNil)))) ssNext)
    (ssSeq (ssIf (stOr (stB (seOp N (sbOf (seOp dIx (sbVar 1) (sbOf (seC (.int 0))))) (sbOf (seC (.str "value"))))) (stOr (stNot (stB (seIsi (tCls (onRules true true true true)) (sbOf (seOp dIx (sbVar 1) (sbOf (seC (.int 1)))))))) (stB (seIsi (orT (tCls (onRules false true false false)) (tCls (onRules false false true false))) (sbOf (seOp dIx (sbVar 1) (sbOf (seC (.int 1))))))))) (ssRet (seC (.bl false))) ssNext)
    (ssSeq (ssAsg LC (sgName 2))
    (ssRet (seCall φe (saCons (sbOf (seLst (saCons (sbOf (seProp tbr (sbOf (seOp dIx (sbVar 1) (sbOf (seC (.int 1))))))) (saCons (sbOf (seMeth "options" tbo (sbOf (seOp dIx (sbVar 1) (sbOf (seC (.int 1))))) saNil)) (saCons (sbOf (seCall φw (saCons (sbOf (seOp dIx (sbVar 1) (sbOf (seC (.int 1))))) saNil))) saNil))))) (saCons (sbOf (seLst (saCons (sbOf (seVar 2)) (saCons (sbOf seDNew) (saCons (sbOf (seVar 0)) saNil))))) saNil)))))))) [(false, t)] = .ret false (.bl true) [(false, t)] := by
  subst hz
  unfold bodyFn
  simp [argG, ssSeq, seOutF, offG, offS, saD, ep, et, eN, eL, hr, er, ho, hl, eo, ew, ee, dIx, atI, ixN, seIsi, tkD, tCls, onRules, orT, seProp, seMeth, callO, seDNew, sized_ok, ssIf, ssDrop, ssRet, ssNext, ssAsg, ssPar, ofO, O.bind, stB, stNot, stAnd, stOr, seOp, seAnd, seOr, seNot, seIf, seCB, seVar, seMove, seC, sbVar, sbOf, saCons, saNil, Fl.own, Fl.pin, Fl.fz, Ref.get, ofOpt, refsGet, datas, setS, sgName, sgTup, sgCons, sgNil, ownAt, isLst, seMutV, seMut, seLst, seTup, sized_ok, seNeg, seCall, distinct, lentOf, argsOf, argOf, giveBack, endsOf, endOf]
theorem right_good {T : List Nat} {ms : List Int} (hA : Al T) (hT : T.length ≤ 900) (h : RunG 12 T ms) : φ_law_is_right [(false, strL T)] = .ret false (.bl true) [(false, strL T)] := by
  obtain ⟨h1, h2⟩ := runG_ok h
  obtain ⟨m, l, e, hm, hl, hr⟩ := runG_text h
  have et := isText_ok hA (by omega)
  rw [h1] at et
  have eT : textT [] [] [] [] ms = T := by
    rw [hr, e, join_text m l 1]
    simp [textT, amT]
  have ep : φ_Rule_plain [(false, .cls .rule), (false, strL T)] = .ret true (.obj .rule (fldR ms)) [(false, .cls .rule), (false, strL T)] := by
    have := plain_ok m l (by rw [← e]; exact hm) (by rw [← e]; exact hl)
    rw [← e, eT] at this
    exact this
  have hall : ∀ p ∈ chk T, isL p = true := by
    unfold okR at h1
    rw [Bool.and_eq_true] at h1
    exact List.all_eq_true.mp h1.2
  obtain ⟨c1, c2⟩ := chk_mem _ T (Nat.le_refl _)
  have eL : seLc (siOf (seM1 dSplit (sbVar 0) (sbOf (seC (.str "-"))))) (sgName 3) (fun g => .ok true g) (seCB dIntC (saCons (sbVar 3) saNil)) [3] [some (.f, strL T), some (.f, .tup [.str "value", .obj .rule (fldR ms)]), none, none] =
      .ok (true, lstI ms) [some (.f, strL T), some (.f, .tup [.str "value", .obj .rule (fldR ms)]), none, none] := by
    have := lc1m (mk := strL) (ds := chk T) (si := siOf (seM1 dSplit (sbVar 0) (sbOf (seC (.str "-"))))) (se := seCB dIntC (saCons (sbVar 3) saNil)) (k := 3) (g := [some (.f, strL T), some (.f, .tup [.str "value", .obj .rule (fldR ms)]), none, none]) (g1 := [some (.f, strL T), some (.f, .tup [.str "value", .obj .rule (fldR ms)]), none, none]) (fun p => M7.D.int (vl p)) (by
      have e0 := dSplit_ok (t := T) (by omega)
      simp [siOf, seM1, sbVar, sbOf, seC, O.bind, Ref.get, ofOpt, e0, itemsOf]) rfl (by omega) fun p hp => by
        have ei : dIntC [strL p] = some (false, .int (vl p)) := dIntC_S (isL_int (hall p hp)) (by have := isL_len (hall p hp); omega)
        exact ⟨false, by simp [seCB, saCons, sbVar, saNil, O.bind, refsGet, Ref.get, ofOpt, ei]⟩
    rw [this, show ((chk T).map fun p => M7.D.int (vl p)) = ms.map .int by rw [← h2, List.map_map]; rfl]
  have sm : Sm 90000 2 (.lst [lstI ms, .dct [], strL T]) :=
    (sm_lst (n := 10002) (k := 1) fun d hd => by
      simp only [List.mem_cons, List.not_mem_nil, or_false] at hd
      rcases hd with rfl | rfl | rfl
      · exact (sm_lstI (fun n hn => by have := hm n hn; unfold Rod at this; omega) (by omega)).mono (by omega) (Nat.le_refl _)
      · exact sm_dct0.mono (by omega) (Nat.le_refl _)
      · exact (sm_txt hA (by omega)).mono (Nat.le_refl _) (by omega)).mono (by simp) (Nat.le_refl _)
  have eN : dNe (.str "value") (.str "value") = some (false, .bl false) := by
    rw [dNe_str (by decide +kernel) (by decide +kernel)]
    simp
  have ew := written_ok ms hm hl
  rw [← hr] at ew
  exact right_genG φ_Rule_plain φ_law_is_text φ_Rule_rods φ_Rule_options φ_written φ_law_is_equal tb_rods tb_options dNe _ (strL T) (fldR ms) ms (S T) rfl ep et eN eL rfl (rods_ok' false .rule _ ms rfl (by rfl)) rfl (by rfl) (opt_rule false _) ew (equal_ok sm (by omega) (by omega) false false)
theorem right_ok {T : List Nat} (hA : Al T) (hT : T.length ≤ 900) : φ_law_is_right [(false, strL T)] = .ret false (.bl true) [(false, strL T)] := by
  rcases run_all 11 T with ⟨ms, h⟩ | ⟨p, h⟩
  · exact right_good hA hT h
  · exact right_bad hA hT h
end M7.Z
namespace M7.Z
open PySem PySem.Spec PyProof.Rows L2 R7 SX
abbrev srcD (a b c : Int) : D := .lst [.int a, .int b, .int c]
theorem e_alph : (("-=~<>0123456789 " : String) : Str) = S alph := by decide +kernel
theorem chars_ok : dListU [.str "-=~<>0123456789 "] = some (true, .lst (alph.map fun c => strL [c])) := by
  rw [e_alph]
  simp only [dListU]
  rw [if_pos (show (S alph).cps.size ≤ sizeLine from by show 16 ≤ sizeLine; decide)]
theorem bent1 (φd φc : Fn) (L U : List D → Option (Bool × D)) (Ad : D → D → Option (Bool × D)) (s0 s1 s2 t lt ls sg : D) (n i : Int) (u : Bool)
    (eL : L [t] = some (false, .int n)) (eA : Ad (.int n) (.int 1) = some (false, .int (n + 1))) (e1 : φd [(true, s0), (false, .int (n + 1))] = .ret false (.int i) [(true, s1), (false, .int (n + 1))])
    (eU : U [lt] = some (u, ls)) (e2 : φc [(true, s1), (false, ls)] = .ret false sg [(true, s2), (false, ls)]) :
    ssPar 2 3 (seCall φd (saCons (sbVar 0) (saCons (sbOf (seOp Ad (sbOf (seCB L (saCons (sbVar 1) saNil))) (sbOf (seC (.int 1))))) saNil))) (seCall φc (saCons (sbVar 0) (saCons (sbOf (seCB U (saCons (sbOf (seC lt)) saNil))) saNil))) [some (.p, s0), some (.f, t), none, none, none] =
      .nx [some (.p, s2), some (.f, t), some (.f, .int i), some (.f, sg), none] := by
  cases u <;> simp [eL, eA, e1, eU, e2, seCB, refsGet, ssIf, ssDrop, ssRet, ssNext, ssAsg, ssPar, ofO, O.bind, stB, stNot, stAnd, stOr, seOp, seAnd, seOr, seNot, seIf, seCB, seVar, seMove, seC, sbVar, sbOf, saCons, saNil, Fl.own, Fl.pin, Fl.fz, Ref.get, ofOpt, refsGet, datas, setS, sgName, sgTup, sgCons, sgNil, ownAt, isLst, seMutV, seMut, seLst, seTup, sized_ok, seNeg, seCall, distinct, lentOf, argsOf, argOf, giveBack]
theorem bent2 (Ad : D → D → Option (Bool × D)) (Z : D → Option Int → Option Int → Option (Bool × D)) (s2 t sg p q q1 x1 y1 y2 y3 : D) (i : Int)
    (z1 : Z t none (some i) = some (false, p)) (z2 : Z t (some i) none = some (false, q)) (eI : Ad (.int i) (.int 1) = some (false, .int (i + 1))) (z3 : Z t (some (i + 1)) none = some (false, q1)) (a1 : Ad p sg = some (false, x1)) (a2 : Ad x1 q = some (false, y1)) (a3 : Ad x1 q1 = some (false, y2)) (a4 : Ad p q1 = some (false, y3)) :
    ssAsg (seLst (saCons (sbOf (seOp Ad (sbOf (seOp Ad (sbOf (seSl Z (sbVar 1) soNone (soSome (seVar 2)))) (sbVar 3))) (sbOf (seSl Z (sbVar 1) (soSome (seVar 2)) soNone)))) (saCons (sbOf (seOp Ad (sbOf (seOp Ad (sbOf (seSl Z (sbVar 1) soNone (soSome (seVar 2)))) (sbVar 3))) (sbOf (seSl Z (sbVar 1) (soSome (seOp Ad (sbVar 2) (sbOf (seC (.int 1))))) soNone)))) (saCons (sbOf (seOp Ad (sbOf (seSl Z (sbVar 1) soNone (soSome (seVar 2)))) (sbOf (seSl Z (sbVar 1) (soSome (seOp Ad (sbVar 2) (sbOf (seC (.int 1))))) soNone)))) (saCons (sbOf (seSl Z (sbVar 1) soNone (soSome (seVar 2)))) saNil))))) (sgName 4) [some (.p, s2), some (.f, t), some (.f, .int i), some (.f, sg), none] =
      .nx [some (.p, s2), some (.f, t), some (.f, .int i), some (.f, sg), some (.o, .lst [y1, y2, y3, p])] := by
  simp [z1, z2, eI, z3, a1, a2, a3, a4, seSl, soNone, soSome, ssIf, ssDrop, ssRet, ssNext, ssAsg, ssPar, ofO, O.bind, stB, stNot, stAnd, stOr, seOp, seAnd, seOr, seNot, seIf, seCB, seVar, seMove, seC, sbVar, sbOf, saCons, saNil, Fl.own, Fl.pin, Fl.fz, Ref.get, ofOpt, refsGet, datas, setS, sgName, sgTup, sgCons, sgNil, ownAt, isLst, seMutV, seMut, seLst, seTup, sized_ok, seNeg, seCall, distinct, lentOf, argsOf, argOf, giveBack]
theorem bent3 (φc : Fn) (Ad : D → D → Option (Bool × D)) (Z : D → Option Int → Option Int → Option (Bool × D)) (s2 s3 t sg q w1 w2 w3 w4 z0 zz v1 v2 r : D) (i : Int) (l4 all : List D) (u : Bool)
    (z2 : Z t (some i) none = some (false, q)) (a1 : Ad t w1 = some (false, z0)) (a2 : Ad z0 t = some (false, zz)) (a3 : Ad t w2 = some (false, v1)) (a4 : Ad t w3 = some (false, v2)) (aL : Ad (.lst l4) (.lst [q, zz, v1, v2, w4, z0]) = some (u, .lst all))
    (e3 : φc [(true, s2), (false, .lst all)] = .ret false r [(true, s3), (false, .lst all)]) :
    ∃ g, ssRet (seCall φc (saCons (sbVar 0) (saCons (sbOf (seOp Ad (sbVar 4) (sbOf (seLst (saCons (sbOf (seSl Z (sbVar 1) (soSome (seVar 2)) soNone)) (saCons (sbOf (seOp Ad (sbOf (seOp Ad (sbVar 1) (sbOf (seC w1)))) (sbVar 1))) (saCons (sbOf (seOp Ad (sbVar 1) (sbOf (seC w2)))) (saCons (sbOf (seOp Ad (sbVar 1) (sbOf (seC w3)))) (saCons (sbOf (seC w4)) (saCons (sbOf (seOp Ad (sbVar 1) (sbOf (seC w1)))) saNil)))))))))) saNil))) [some (.p, s2), some (.f, t), some (.f, .int i), some (.f, sg), some (.o, .lst l4)] =
      .rt false r (some (.p, s3) :: some (.f, t) :: g) := by
  cases u <;> simp [z2, a1, a2, a3, a4, aL, e3, seSl, soNone, soSome, ssIf, ssDrop, ssRet, ssNext, ssAsg, ssPar, ofO, O.bind, stB, stNot, stAnd, stOr, seOp, seAnd, seOr, seNot, seIf, seCB, seVar, seMove, seC, sbVar, sbOf, saCons, saNil, Fl.own, Fl.pin, Fl.fz, Ref.get, ofOpt, refsGet, datas, setS, sgName, sgTup, sgCons, sgNil, ownAt, isLst, seMutV, seMut, seLst, seTup, sized_ok, seNeg, seCall, distinct, lentOf, argsOf, argOf, giveBack]
theorem bent_fin (A B C : SS) (s0 s2 s3 t r : D) (g1 g2 : G) (g : G) (h1 : A [some (.p, s0), some (.f, t), none, none, none] = .nx g1) (h2 : B g1 = .nx g2) (h3 : C g2 = .rt false r (some (.p, s3) :: some (.f, t) :: g)) :
    bodyFn 2 5 (ssSeq A (ssSeq B C)) [(true, s0), (false, t)] = .ret false r [(true, s3), (false, t)] := by
  unfold bodyFn
  simp [argG, ssSeq, h1, h2, h3, endsOf, endOf]
theorem bent_ok (a b c : Int) (t : List Nat) (h : Al t) (hl : t.length ≤ 400) : ∃ (u : List Nat) (a' b' c' : Int), Al u ∧ u.length ≤ 2 * t.length + 2 ∧ φ_law_bent [(true, srcD a b c), (false, strL t)] = .ret false (strL u) [(true, srcD a' b' c'), (false, strL t)] := by
  obtain ⟨r1, a1, b1, c1, p1, q1, e1⟩ := draw_ok a b c ((t.length : Nat) + 1) (by omega) (by omega)
  obtain ⟨i, rfl⟩ : ∃ i : Nat, r1 = i := ⟨r1.toNat, by omega⟩
  obtain ⟨sg, a2, b2, c2, hs, e2⟩ := choose_ok a1 b1 c1 (alph.map fun c => strL [c]) (by decide) (by decide)
  obtain ⟨k, hk, rfl⟩ := List.mem_map.mp hs
  have ak : Al [k] := fun c m => by rw [List.mem_singleton.mp m]; exact hk
  have ad : ∀ x y : List Nat, x.length + y.length ≤ 5000 → dAdd (strL x) (strL y) = some (false, strL (x ++ y)) := fun x y q => dAdd_strL x y (by omega)
  have lt : (t.take i).length ≤ t.length := by rw [List.length_take]; omega
  have ld : (t.drop i).length ≤ t.length := by rw [List.length_drop]; omega
  have ld1 : (t.drop (i + 1)).length ≤ t.length := by rw [List.length_drop]; omega
  have s1 := bent1 φ_law_draw φ_law_choose dLen dListU dAdd (srcD a b c) (srcD a1 b1 c1) (srcD a2 b2 c2) (strL t) (.str "-=~<>0123456789 ") _ (strL [k]) (t.length : Nat) (i : Nat) _ (dLen_str t (by omega)) rfl e1 chars_ok e2
  have s2 := bent2 dAdd dSl (srcD a2 b2 c2) (strL t) (strL [k]) _ _ _ _ _ _ _ (i : Nat) (slT_to t i (by omega)) (slT_from t i (by omega)) rfl (slT_from t (i + 1) (by omega)) (ad (t.take i) [k] (by simp; omega)) (ad (t.take i ++ [k]) (t.drop i) (by simp; omega)) (ad (t.take i ++ [k]) (t.drop (i + 1)) (by simp; omega)) (ad (t.take i) (t.drop (i + 1)) (by omega))
  obtain ⟨r, a3, b3, c3, hr, e3⟩ := choose_ok a2 b2 c2 ([strL (t.take i ++ [k] ++ t.drop i), strL (t.take i ++ [k] ++ t.drop (i + 1)), strL (t.take i ++ t.drop (i + 1)), strL (t.take i)] ++ [strL (t.drop i), strL (t ++ [45] ++ t), strL (t ++ [45, 49]), strL (t ++ [62]), strL [], strL (t ++ [45])]) (by simp) (by simp)
  have e_mi1 : (("-1" : String) : Str) = S [45, 49] := by decide +kernel
  obtain ⟨g, s3⟩ := bent3 φ_law_choose dAdd dSl (srcD a2 b2 c2) (srcD a3 b3 c3) (strL t) (strL [k]) (strL (t.drop i)) (.str "-") (.str "-1") (.str ">") (.str "") _ _ _ _ r (i : Nat) [strL (t.take i ++ [k] ++ t.drop i), strL (t.take i ++ [k] ++ t.drop (i + 1)), strL (t.take i ++ t.drop (i + 1)), strL (t.take i)] _ true (slT_from t i (by omega)) (by rw [e_mi]; exact ad t [45] (by simp; omega)) (ad (t ++ [45]) t (by simp; omega)) (by rw [e_mi1]; exact ad t [45, 49] (by simp; omega)) (by rw [e_gt]; exact ad t [62] (by simp; omega)) (by
    rw [e_empty]
    simp only [dAdd, dCatL]
    rw [if_pos (show _ ≤ sizeLine by simp; decide)]) e3
  have al1 : ∀ c ∈ [45, 49, 62], c ∈ alph := by decide
  have a45 : Al [45] := fun c m => al1 c (by simp at m; simp [m])
  have a62 : Al [62] := fun c m => al1 c (by simp at m; simp [m])
  have a4549 : Al [45, 49] := fun c m => al1 c (by simp at m; rcases m with rfl | rfl <;> simp)
  have anil : Al [] := fun c m => by cases m
  have fin := bent_fin _ _ _ (srcD a b c) (srcD a2 b2 c2) (srcD a3 b3 c3) (strL t) r _ _ g s1 s2 s3
  have key : ∃ u, r = strL u ∧ Al u ∧ u.length ≤ 2 * t.length + 2 := by
    simp only [List.cons_append, List.nil_append, List.mem_cons, List.not_mem_nil, or_false] at hr
    rcases hr with rfl | rfl | rfl | rfl | rfl | rfl | rfl | rfl | rfl | rfl
    · exact ⟨_, rfl, ((h.take i).app ak).app (h.drop i), by simp; omega⟩
    · exact ⟨_, rfl, ((h.take i).app ak).app (h.drop (i + 1)), by simp; omega⟩
    · exact ⟨_, rfl, (h.take i).app (h.drop (i + 1)), by simp; omega⟩
    · exact ⟨_, rfl, h.take i, by omega⟩
    · exact ⟨_, rfl, h.drop i, by omega⟩
    · exact ⟨_, rfl, (h.app a45).app h, by simp; omega⟩
    · exact ⟨_, rfl, h.app a4549, by simp; omega⟩
    · exact ⟨_, rfl, h.app a62, by simp; omega⟩
    · exact ⟨_, rfl, anil, by simp⟩
    · exact ⟨_, rfl, h.app a45, by simp; omega⟩
  obtain ⟨u, rfl, au, lu⟩ := key
  exact ⟨u, a3, b3, c3, au, lu, fin⟩
end M7.Z
namespace M7.Z
open PySem PySem.Spec PyProof.Rows L2 R7 SX
section
variable {s k l x4 x5 x6 x7 x8 x9 x10 : Option (Fl × D)}
end
section
variable (M e f g h : List Int)
end
section
variable (d : D) (M : List Int) (e f g h : List Int)
end
section
variable {M e f g h : List Int} {ws : List Nat}
end
theorem setS_un {g : G} {i : Nat} {x : Option (Fl × D)} {r : Bool × D} (h : g[i]? = some x) (u : Un x) : setS g i r = some (g.set i (some (if r.1 = true then .o else .f, r.2))) := by
  unfold setS
  rw [h]
  rcases x with _ | ⟨c, d⟩
  · rfl
  · simp [u c d rfl]
theorem asg_un {se : SE} {g g1 : G} {i : Nat} {x : Option (Fl × D)} {o : Bool} {d : D} (e : se g = .ok (o, d) g1) (h : g1[i]? = some x) (u : Un x) : ssAsg se (sgName i) g = .nx (g1.set i (some (if o = true then .o else .f, d))) := by
  unfold ssAsg sgName
  rw [e]
  simp only [ofO, setS_un h u]
section
variable {s k l x4 x5 x6 x7 x8 x9 x10 : Option (Fl × D)}
end
section
variable (e f g h : List Int) (M : List Int)
end
section
variable {s k l x4 x5 x6 x7 x8 x9 x10 : Option (Fl × D)}
end
section
variable (M e f g h : List Int)
end
def lap1 (x : Option (Fl × D)) : Prop := x = none ∨ ∃ d, x = some (.f, d)
theorem lap1.un {x : Option (Fl × D)} (h : lap1 x) : Un x := by
  rcases h with rfl | ⟨d, rfl⟩
  · exact un_none
  · exact un_f d
theorem lap1.f (d : D) : lap1 (some (.f, d)) := .inr ⟨d, rfl⟩
section
variable (d : D) (M : List Int) (e f g h : List Int)
end
section
variable {M e f g h : List Int} {ws : List Nat}
end
section
variable {φ : Fn} {x0 x1 : Option (Fl × D)} {a b c a' b' c' : Int} {tl : G} {r : D} {o : Bool}
end
theorem asgF {se : SE} {g g1 : G} {i : Nat} {x : Option (Fl × D)} {d : D} (e : se g = .ok (false, d) g1) (h : g1[i]? = some x) (u : Un x) : ssAsg se (sgName i) g = .nx (g1.set i (some (.f, d))) := (asg_un e h u).trans (by simp)
section
variable {d R : D} {M e f g h : List Int}
end
section
variable {R : D} {M e f g h : List Int}
end
theorem par_un {sa sb : SE} {g g1 g2 : G} {i j : Nat} {o1 o2 : Bool} {d1 d2 : D} {x y : Option (Fl × D)} (e1 : sa g = .ok (o1, d1) g1) (e2 : sb g1 = .ok (o2, d2) g2) (hi : g2[i]? = some x) (ux : Un x)
    (hj : (g2.set i (some (if o1 = true then .o else .f, d1)))[j]? = some y) (uy : Un y) : ssPar i j sa sb g = .nx ((g2.set i (some (if o1 = true then .o else .f, d1))).set j (some (if o2 = true then .o else .f, d2))) := by
  have h1 := setS_un (r := (o1, d1)) hi ux
  have h2 := setS_un (r := (o2, d2)) hj uy
  unfold ssPar
  rw [e1]
  show ofO (sb g1) _ = _
  rw [e2]
  show (match setS g2 i (o1, d1) with | some g3 => _ | none => _) = _
  rw [h1]
  show (match setS _ j (o2, d2) with | some g4 => _ | none => _) = _
  rw [h2]
section
variable {R : D} {M e f g h : List Int}
end
section
variable (e f g h : List Int) (le : e.length + f.length ≤ 1000) (lg : g.length + h.length ≤ 1000) (re : ∀ k ∈ e ++ f, 1 ≤ k)
end
theorem dStr_num {m : Int} (h : Rod m) : dStr [.int m] = some (false, strL (num m)) := by
  simp only [dStr]
  rw [if_pos (num_log h), num_str h]
end M7.Z
namespace M7.Z
open PySem PySem.Spec PyProof.Rows L2 R7 SX
abbrev lwG (s k : Option (Fl × D)) (a b c : Int) (x3 x4 x5 x6 x7 x8 : Option (Fl × D)) : G := [s, k, some (.o, srcD a b c), x3, x4, x5, x6, x7, x8, none]
theorem num_al : ((List.range 40).all fun k => (num ((k : Nat) + 1 : Int)).all fun c => alph.contains c) = true := by decide +kernel
theorem al_num {m : Int} (h : Rod m) : Al (num m) := fun c hc => by
  obtain ⟨h1, h2⟩ := h
  have := List.all_eq_true.mp num_al (m - 1).toNat (List.mem_range.mpr (by omega))
  rw [show (((m - 1).toNat : Nat) : Int) + 1 = m by omega] at this
  have := List.all_eq_true.mp this c hc
  simpa using this
theorem al_join : ∀ ls : List (List Nat), (∀ l ∈ ls, Al l) → Al (TL.joinL [45] ls)
  | [], _ => fun c h => by cases h
  | [l], h => h l (.head _)
  | l :: k :: r, h => by
    have ih := al_join (k :: r) fun l q => h l (.tail _ q)
    have a45 : Al [45] := fun c m => by rw [List.mem_singleton.mp m]; decide
    simp only [TL.joinL] at ih ⊢
    exact (h l (.head _)).app (a45.app ih)
section
variable {s k x3 x4 x5 x6 x7 x8 : Option (Fl × D)} {a b c : Int}
theorem rows_src (φc φr : Fn) (s k x3 x4 x5 x6 x7 x8 : Option (Fl × D)) (s0 s1 s2 : D) (m : Int) (ds : List D) (e1 : φc [(true, s0), (false, .lst [.int 4, .int 9, .int 12])] = .ret false (.int m) [(true, s1), (false, .lst [.int 4, .int 9, .int 12])]) (e2 : φr [(true, s1), (false, .int m)] = .ret true (.lst ds) [(true, s2), (false, .int m)]) :
    siOf (seCall φr (saCons (sbVar 2) (saCons (sbOf (seCall φc (saCons (sbVar 2) (saCons (sbOf (seLst (saCons (sbOf (seC (.int 4))) (saCons (sbOf (seC (.int 9))) (saCons (sbOf (seC (.int 12))) saNil))))) saNil)))) saNil))) [s, k, some (.o, s0), x3, x4, x5, x6, x7, x8, none] = .ok ds [s, k, some (.o, s2), x3, x4, x5, x6, x7, x8, none] := by
  simp [e1, e2, siOf, itemsOf, ssIf, ssDrop, ssRet, ssNext, ssAsg, ssPar, ofO, O.bind, stB, stNot, stAnd, stOr, seOp, seAnd, seOr, seNot, seIf, seCB, seVar, seMove, seC, sbVar, sbOf, saCons, saNil, Fl.own, Fl.pin, Fl.fz, Ref.get, ofOpt, refsGet, datas, setS, sgName, sgTup, sgCons, sgNil, ownAt, isLst, seMutV, seMut, seLst, seTup, sized_ok, seNeg, seCall, distinct, lentOf, argsOf, argOf, giveBack]
theorem join_gen (J : D → D → Option (Bool × D)) (z : Str) (LC : SE) (g g2 : G) (L r : D) (el : LC g = .ok (true, L) g2) (ej : J (.str z) L = some (false, r)) : seM1 J (sbOf (seC (.str z))) (sbOf LC) g = .ok (false, r) g2 := by
  simp [seM1, el, ej, ssIf, ssDrop, ssRet, ssNext, ssAsg, ssPar, ofO, O.bind, stB, stNot, stAnd, stOr, seOp, seAnd, seOr, seNot, seIf, seCB, seVar, seMove, seC, sbVar, sbOf, saCons, saNil, Fl.own, Fl.pin, Fl.fz, Ref.get, ofOpt, refsGet, datas, setS, sgName, sgTup, sgCons, sgNil, ownAt, isLst, seMutV, seMut, seLst, seTup, sized_ok, seNeg]
theorem txt_ok (s k x3 x4 x5 x6 x7 x8 : Option (Fl × D)) (a b c : Int) : ∃ (T : List Nat) (a' b' c' : Int), Al T ∧ T.length ≤ 48 ∧
    seM1 dJoin (sbOf (seC (.str "-"))) (sbOf (seLc (siOf (seCall φ_law_rods (saCons (sbVar 2) (saCons (sbOf (seCall φ_law_choose (saCons (sbVar 2) (saCons (sbOf (seLst (saCons (sbOf (seC (.int 4))) (saCons (sbOf (seC (.int 9))) (saCons (sbOf (seC (.int 12))) saNil))))) saNil)))) saNil)))) (sgName 9) (fun g => .ok true g) (seCB dStr (saCons (sbVar 9) saNil)) [9])) (lwG s k a b c x3 x4 x5 x6 x7 x8) =
      .ok (false, strL T) (lwG s k a' b' c' x3 x4 x5 x6 x7 x8) := by
  obtain ⟨d, a1, b1, c1, hd, e1⟩ := choose_ok a b c [.int 4, .int 9, .int 12] (by decide) (by decide)
  obtain ⟨m, rfl, hm⟩ : ∃ m : Int, d = .int m ∧ 1 ≤ m ∧ m ≤ 12 := by
    simp only [List.mem_cons, List.not_mem_nil, or_false] at hd
    rcases hd with rfl | rfl | rfl
    · exact ⟨4, rfl, by decide, by decide⟩
    · exact ⟨9, rfl, by decide, by decide⟩
    · exact ⟨12, rfl, by decide, by decide⟩
  obtain ⟨ms, a2, b2, c2, h1, h2, hr, e2⟩ := rods_ok a1 b1 c1 m hm.1 (by omega)
  have es := rows_src φ_law_choose φ_law_rods s k x3 x4 x5 x6 x7 x8 (srcD a b c) (srcD a1 b1 c1) (srcD a2 b2 c2) m _ e1 e2
  have el := lc1m (mk := M7.D.int) (se := seCB dStr (saCons (sbVar 9) saNil)) (k := 9) (fun m => strL (if Rod m then num m else [])) es rfl (by omega) fun n hn => ⟨false, by
    have := dStr_num (hr n hn)
    simp [seCB, saCons, sbVar, saNil, O.bind, refsGet, Ref.get, ofOpt, this, hr n hn]⟩
  have em : (ms.map fun m => strL (if Rod m then num m else [])) = (ms.map num).map strL := by
    rw [List.map_map]
    exact List.map_congr_left fun n hn => by simp [hr n hn]
  rw [em] at el
  match ms, h1, h2, hr, el with
  | n :: l, h1, h2, hr, el =>
    have ej := join_num n l hr (by omega)
    refine ⟨textT [] [] [] [] (n :: l), a2, b2, c2, ?_, ?_, ?_⟩
    · have eT : textT [] [] [] [] (n :: l) = TL.joinL [45] ((n :: l).map num) := by
        rw [join_text n l 1]
        simp [textT, amT]
      rw [eT]
      exact al_join _ fun x hx => by
        obtain ⟨q, hq, rfl⟩ := List.mem_map.mp hx
        exact al_num (hr q hq)
    · have := text_len [] [] [] [] (n :: l) hr
      omega
    · exact join_gen dJoin _ _ _ _ _ _ el ej
def fullT (n : Nat) : List Nat := TL.joinL [45] (List.replicate n [52])
theorem full_rep (n : Nat) (h : n ≤ 13) : dRepL (.lst [.str "4"]) (.int (n : Nat)) = some (true, lstS (List.replicate n [52])) := by
  have e : (("4" : String) : Str) = S [52] := by decide +kernel
  rw [e]
  simp only [dRepL]
  rw [if_pos ⟨by omega, by omega, Nat.le_trans (by simp; omega : _ ≤ 100) (by decide)⟩, Int.toNat_natCast]
  have : (List.replicate n [M7.D.str (S [52])]).flatten = (List.replicate n [52]).map strL := by
    induction n with
    | zero => rfl
    | succ n ih => rw [List.replicate_succ, List.replicate_succ, List.flatten_cons, List.map_cons, ih (by omega)]; rfl
  rw [this]
theorem full_join (n : Nat) (h : n ≤ 13) : dJoin (.str "-") (lstS (List.replicate n [52])) = some (false, strL (fullT n)) := by
  simp only [dJoin, strsD_map, Option.bind_some]
  rw [if_pos, e_mi, join_S]
  · rfl
  rw [lens, e_mi, S_len]
  simp
  exact Nat.le_trans (by omega : _ ≤ 100) (by decide)
theorem full_len : ∀ n, n ≤ 13 → (fullT n).length ≤ 25 := by decide +kernel
theorem full_al (n : Nat) : Al (fullT n) := al_join _ fun l hl => by
  rw [(List.mem_replicate.mp hl).2]
  exact fun c m => by rw [List.mem_singleton.mp m]; decide
end
end M7.Z
namespace M7.Z
open PySem PySem.Spec PyProof.Rows L2 R7 SX
section
variable (s k x3 x4 x5 x6 x7 x8 : Option (Fl × D)) (φ : Fn) (s0 s1 s2 t u t7 t8 u7 u8 : D)
theorem bent5 (e : φ [(true, s0), (false, t)] = .ret false u [(true, s1), (false, t)]) :
    seCall φ (saCons (sbVar 2) (saCons (sbVar 5) saNil)) [s, k, some (.o, s0), x3, x4, some (.f, t), x6, x7, x8, none] = .ok (false, u) [s, k, some (.o, s1), x3, x4, some (.f, t), x6, x7, x8, none] := by
  simp [e, ssIf, ssDrop, ssRet, ssNext, ssAsg, ssPar, ofO, O.bind, stB, stNot, stAnd, stOr, seOp, seAnd, seOr, seNot, seIf, seCB, seVar, seMove, seC, sbVar, sbOf, saCons, saNil, Fl.own, Fl.pin, Fl.fz, Ref.get, ofOpt, refsGet, datas, setS, sgName, sgTup, sgCons, sgNil, ownAt, isLst, seMutV, seMut, seLst, seTup, sized_ok, seNeg, seCall, distinct, lentOf, argsOf, argOf, giveBack]
theorem rep_gen (R Ad : D → D → Option (Bool × D)) (w l : D) (n : Int) (e : φ [(true, s0), (false, .int 3)] = .ret false (.int n) [(true, s1), (false, .int 3)]) (ea : Ad (.int 11) (.int n) = some (false, .int (11 + n))) (er : R (.lst [w]) (.int (11 + n)) = some (true, l)) :
    seOp R (sbOf (seLst (saCons (sbOf (seC w)) saNil))) (sbOf (seOp Ad (sbOf (seC (.int 11))) (sbOf (seCall φ (saCons (sbVar 2) (saCons (sbOf (seC (.int 3))) saNil)))))) [s, k, some (.o, s0), x3, x4, x5, x6, x7, x8, none] = .ok (true, l) [s, k, some (.o, s1), x3, x4, x5, x6, x7, x8, none] := by
  simp [e, ea, er, ssIf, ssDrop, ssRet, ssNext, ssAsg, ssPar, ofO, O.bind, stB, stNot, stAnd, stOr, seOp, seAnd, seOr, seNot, seIf, seCB, seVar, seMove, seC, sbVar, sbOf, saCons, saNil, Fl.own, Fl.pin, Fl.fz, Ref.get, ofOpt, refsGet, datas, setS, sgName, sgTup, sgCons, sgNil, ownAt, isLst, seMutV, seMut, seLst, seTup, sized_ok, seNeg, seCall, distinct, lentOf, argsOf, argOf, giveBack]
theorem five_gen (e7 : φ [(true, s0), (false, t7)] = .ret false u7 [(true, s1), (false, t7)]) (e8 : φ [(true, s1), (false, t8)] = .ret false u8 [(true, s2), (false, t8)]) :
    siOf (seLst (saCons (sbOf (seVar 5)) (saCons (sbOf (seVar 7)) (saCons (sbOf (seCall φ (saCons (sbVar 2) (saCons (sbVar 7) saNil)))) (saCons (sbOf (seVar 8)) (saCons (sbOf (seCall φ (saCons (sbVar 2) (saCons (sbVar 8) saNil)))) saNil)))))) [s, k, some (.o, s0), x3, x4, some (.f, t), x6, some (.f, t7), some (.f, t8), none] =
      .ok [t, t7, u7, t8, u8] [s, k, some (.o, s2), x3, x4, some (.f, t), x6, some (.f, t7), some (.f, t8), none] := by
  simp [e7, e8, siOf, itemsOf, ssIf, ssDrop, ssRet, ssNext, ssAsg, ssPar, ofO, O.bind, stB, stNot, stAnd, stOr, seOp, seAnd, seOr, seNot, seIf, seCB, seVar, seMove, seC, sbVar, sbOf, saCons, saNil, Fl.own, Fl.pin, Fl.fz, Ref.get, ofOpt, refsGet, datas, setS, sgName, sgTup, sgCons, sgNil, ownAt, isLst, seMutV, seMut, seLst, seTup, sized_ok, seNeg, seCall, distinct, lentOf, argsOf, argOf, giveBack]
theorem val_gen (d1 d2 d3 d4 d5 d6 : D) (e : φ [(true, s0), (false, .lst [d1, d2, d3, .lst [], .lst [d4], .tup [d5], .dct [], .tup [d4, d6]])] = .ret false u [(true, s1), (false, .lst [d1, d2, d3, .lst [], .lst [d4], .tup [d5], .dct [], .tup [d4, d6]])]) :
    seCall φ (saCons (sbVar 2) (saCons (sbOf (seLst (saCons (sbOf (seC d1)) (saCons (sbOf (seC d2)) (saCons (sbOf (seC d3)) (saCons (sbOf (seLst saNil)) (saCons (sbOf (seLst (saCons (sbOf (seC d4)) saNil))) (saCons (sbOf (seTup (saCons (sbOf (seC d5)) saNil))) (saCons (sbOf seDNew) (saCons (sbOf (seTup (saCons (sbOf (seC d4)) (saCons (sbOf (seC d6)) saNil)))) saNil)))))))))) saNil)) [s, k, some (.o, s0), x3, x4, x5, x6, x7, x8, none] = .ok (false, u) [s, k, some (.o, s1), x3, x4, x5, x6, x7, x8, none] := by
  simp [e, seDNew, ssIf, ssDrop, ssRet, ssNext, ssAsg, ssPar, ofO, O.bind, stB, stNot, stAnd, stOr, seOp, seAnd, seOr, seNot, seIf, seCB, seVar, seMove, seC, sbVar, sbOf, saCons, saNil, Fl.own, Fl.pin, Fl.fz, Ref.get, ofOpt, refsGet, datas, setS, sgName, sgTup, sgCons, sgNil, ownAt, isLst, seMutV, seMut, seLst, seTup, sized_ok, seNeg, seCall, distinct, lentOf, argsOf, argOf, giveBack]
theorem out_gen (φe : Fn) (d : D) (ep : φ [(false, .cls .rule), (false, d)] = .ex .text (plE 0) [(false, .cls .rule), (false, d)]) (ee : φe [(false, .tup [.str "TextError", .int 0]), (false, .tup [.str "TextError", .int 0])] = .ret false (.bl true) [(false, .tup [.str "TextError", .int 0]), (false, .tup [.str "TextError", .int 0])]) (a b c : Int) (h3 : lap1 x3) (h5 : lap1 x5) (h6 : lap1 x6) (h7 : lap1 x7) (h8 : lap1 x8) :
    seCall φe (saCons (sbOf (seOutF .text "value" "TextError" "place" (seCall φ (saD (.cls .rule) (saCons (sbVar 4) saNil))))) (saCons (sbOf (seTup (saCons (sbOf (seC (.str "TextError"))) (saCons (sbOf (seC (.int 0))) saNil)))) saNil)) (lwG s k a b c x3 (some (.f, d)) x5 x6 x7 x8) = .ok (false, .bl true) (lwG s k a b c x3 (some (.f, d)) x5 x6 x7 x8) := by
  simp [lwG, seOutF, offG, offS, saD, ep, fldOf, ee, ssIf, ssDrop, ssRet, ssNext, ssAsg, ssPar, ofO, O.bind, stB, stNot, stAnd, stOr, seOp, seAnd, seOr, seNot, seIf, seCB, seVar, seMove, seC, sbVar, sbOf, saCons, saNil, Fl.own, Fl.pin, Fl.fz, Ref.get, ofOpt, refsGet, datas, setS, sgName, sgTup, sgCons, sgNil, ownAt, isLst, seMutV, seMut, seLst, seTup, sized_ok, seNeg, seCall, distinct, lentOf, argsOf, argOf, giveBack]
end
theorem b0_loop (s k x3 x4 x5 x7 x8 : Option (Fl × D)) (a b c : Int) : ∀ (Ts : List (List Nat)) (x6 : Option (Fl × D)), (∀ T ∈ Ts, Al T ∧ T.length ≤ 900) → lap1 x6 → ∃ y6, lap1 y6 ∧ loopL (sgName 6) ss_law_b0 (Ts.map strL) (lwG s k a b c x3 x4 x5 x6 x7 x8) = .nx (lwG s k a b c x3 x4 x5 y6 x7 x8)
  | [], x6, _, h6 => ⟨x6, h6, rfl⟩
  | T :: Ts, x6, h, h6 => by
    have eg : sgName 6 (false, strL T) (lwG s k a b c x3 x4 x5 x6 x7 x8) = some (lwG s k a b c x3 x4 x5 (some (.f, strL T)) x7 x8) := (sgN rfl h6 _).trans rfl
    have hT := h T (.head _)
    have st : ss_law_b0 (lwG s k a b c x3 x4 x5 (some (.f, strL T)) x7 x8) = .nx (lwG s k a b c x3 x4 x5 (some (.f, strL T)) x7 x8) := if_no (call1 rfl (right_ok hT.1 hT.2))
    obtain ⟨y6, w6, e⟩ := b0_loop s k x3 x4 x5 x7 x8 a b c Ts (some (.f, strL T)) (fun T q => h T (.tail _ q)) (.f _)
    exact ⟨y6, w6, by rw [List.map_cons, loopL_step eg st]; exact e⟩
theorem lw_lap (s k x3 x4 x5 x6 x7 x8 : Option (Fl × D)) (u5 : lap1 x5) (u6 : lap1 x6) (u7 : lap1 x7) (u8 : lap1 x8) (a b c : Int) : ∃ (a' b' c' : Int) (y5 y6 y7 y8 : Option (Fl × D)), lap1 y5 ∧ lap1 y6 ∧ lap1 y7 ∧ lap1 y8 ∧ ss_law_b1 (lwG s k a b c x3 x4 x5 x6 x7 x8) = .nx (lwG s k a' b' c' x3 x4 y5 y6 y7 y8) := by
  obtain ⟨T, a1, b1, c1, hA, hl, e1⟩ := txt_ok s k x3 x4 x5 x6 x7 x8 a b c
  have s1 : ssAsg _ (sgName 5) (lwG s k a b c x3 x4 x5 x6 x7 x8) = .nx (lwG s k a1 b1 c1 x3 x4 (some (.f, strL T)) x6 x7 x8) := asgF (i := 5) e1 rfl u5.un
  obtain ⟨U, a2, b2, c2, hB, hm, e2⟩ := bent_ok a1 b1 c1 T hA (by omega)
  obtain ⟨r, a3, b3, c3, r0, r1, e3⟩ := draw_ok a2 b2 c2 3 (by decide) (by decide)
  obtain ⟨n, rfl⟩ : ∃ n : Nat, r = n := ⟨r.toNat, by omega⟩
  have f1 := full_rep (11 + n) (by omega)
  have f2 := full_join (11 + n) (by omega)
  rw [Int.natCast_add] at f1
  have e4 := join_gen dJoin _ _ _ _ _ _ (rep_gen s k x3 x4 (some (.f, strL T)) x6 x7 x8 φ_law_draw (srcD a2 b2 c2) (srcD a3 b3 c3) dRepL dAdd (.str "4") _ n e3 rfl f1) f2
  have s2 : ssPar 7 8 _ _ (lwG s k a1 b1 c1 x3 x4 (some (.f, strL T)) x6 x7 x8) = .nx (lwG s k a3 b3 c3 x3 x4 (some (.f, strL T)) x6 (some (.f, strL U)) (some (.f, strL (fullT (11 + n))))) := par_un (i := 7) (j := 8) (bent5 s k x3 x4 x6 x7 x8 φ_law_bent (srcD a1 b1 c1) (srcD a2 b2 c2) (strL T) (strL U) e2) e4 rfl u7.un rfl u8.un
  obtain ⟨U7, a4, b4, c4, hC, hn, e5⟩ := bent_ok a3 b3 c3 U hB (by omega)
  have hf := full_len (11 + n) (by omega)
  obtain ⟨U8, a5, b5, c5, hD, ho, e6⟩ := bent_ok a4 b4 c4 (fullT (11 + n)) (full_al _) (by omega)
  have s3 := five_gen s k x3 x4 x6 φ_law_bent (srcD a3 b3 c3) (srcD a4 b4 c4) (srcD a5 b5 c5) (strL T) (strL U) (strL (fullT (11 + n))) (strL U7) (strL U8) e5 e6
  obtain ⟨y6, w6, e7⟩ := b0_loop s k x3 x4 (some (.f, strL T)) (some (.f, strL U)) (some (.f, strL (fullT (11 + n)))) a5 b5 c5 [T, U, U7, fullT (11 + n), U8] x6 (fun X hX => by
    simp only [List.mem_cons, List.not_mem_nil, or_false] at hX
    rcases hX with rfl | rfl | rfl | rfl | rfl
    · exact ⟨hA, by omega⟩
    · exact ⟨hB, by omega⟩
    · exact ⟨hC, by omega⟩
    · exact ⟨full_al _, by omega⟩
    · exact ⟨hD, by omega⟩) u6
  refine ⟨a5, b5, c5, some (.f, strL T), y6, some (.f, strL U), some (.f, strL (fullT (11 + n))), .f _, w6, .f _, .f _, ?_⟩
  refine (seq_nx s1).trans ((seq_nx s2).trans ?_)
  unfold ssFor
  show ofO (siOf _ [s, k, some (.o, srcD a3 b3 c3), x3, x4, some (.f, strL T), x6, some (.f, strL U), some (.f, strL (fullT (11 + n))), none]) _ = _
  rw [s3]
  exact e7
end M7.Z
namespace M7.Z
open PySem PySem.Spec PyProof.Rows L2 R7 SX
theorem lw_laps (s k x4 : Option (Fl × D)) : ∀ (n : Nat) (lo a b c : Int) (x3 x5 x6 x7 x8 : Option (Fl × D)), lap1 x3 → lap1 x5 → lap1 x6 → lap1 x7 → lap1 x8 → ∃ (a' b' c' : Int) (y3 y5 y6 y7 y8 : Option (Fl × D)), lap1 y3 ∧ lap1 y5 ∧ lap1 y6 ∧ lap1 y7 ∧ lap1 y8 ∧
    loopL (sgName 3) ss_law_b1 ((rgI lo n).map .int) (lwG s k a b c x3 x4 x5 x6 x7 x8) = .nx (lwG s k a' b' c' y3 x4 y5 y6 y7 y8)
  | 0, lo, a, b, c, x3, x5, x6, x7, x8, u3, u5, u6, u7, u8 => ⟨a, b, c, x3, x5, x6, x7, x8, u3, u5, u6, u7, u8, rfl⟩
  | n + 1, lo, a, b, c, x3, x5, x6, x7, x8, u3, u5, u6, u7, u8 => by
    have eg : sgName 3 (false, .int lo) (lwG s k a b c x3 x4 x5 x6 x7 x8) = some (lwG s k a b c (some (.f, .int lo)) x4 x5 x6 x7 x8) := (sgN rfl u3 _).trans rfl
    obtain ⟨a1, b1, c1, y5, y6, y7, y8, v5, v6, v7, v8, st⟩ := lw_lap s k (some (.f, .int lo)) x4 x5 x6 x7 x8 u5 u6 u7 u8 a b c
    obtain ⟨a2, b2, c2, z3, z5, z6, z7, z8, w3, w5, w6, w7, w8, ih⟩ := lw_laps s k x4 n (lo + 1) a1 b1 c1 (some (.f, .int lo)) y5 y6 y7 y8 (.f _) v5 v6 v7 v8
    refine ⟨a2, b2, c2, z3, z5, z6, z7, z8, w3, w5, w6, w7, w8, ?_⟩
    show loopL _ _ (M7.D.int lo :: _) _ = _
    rw [loopL_step eg st]
    exact ih
theorem cell_gen (φs φc : Fn) (sc n v p : D) (x2 : Option (Fl × D)) (r : List (Option (Fl × D))) (u : Un x2) (e1 : φc [(false, sc), (false, n)] = .ret false v [(false, sc), (false, n)]) (e2 : φs [(false, v)] = .ret true p [(false, v)]) :
    ssAsg (seCall φs (saCons (sbOf (seCall φc (saCons (sbVar 0) (saCons (sbVar 1) saNil)))) saNil)) (sgName 2) (some (.f, sc) :: some (.f, n) :: x2 :: r) = .nx (some (.f, sc) :: some (.f, n) :: some (.o, p) :: r) := by
  refine (asg_un (o := true) (d := p) (g1 := some (.f, sc) :: some (.f, n) :: x2 :: r) ?_ rfl u).trans rfl
  simp [ssIf, ssDrop, ssRet, ssNext, ssAsg, ssPar, ofO, O.bind, stB, stNot, stAnd, stOr, seOp, seAnd, seOr, seNot, seIf, seCB, seVar, seMove, seC, sbVar, sbOf, saCons, saNil, Fl.own, Fl.pin, Fl.fz, Ref.get, ofOpt, refsGet, datas, setS, sgName, sgTup, sgCons, sgNil, ownAt, isLst, seMutV, seMut, seLst, seTup, sized_ok, seNeg, seCall, distinct, lentOf, argsOf, argOf, giveBack, e1, e2]
def outG (s : Option (Fl × D)) (g : G) : Prop := ∃ (x1 x2 x3 x4 x5 x6 x7 x8 : Option (Fl × D)), lap1 x1 ∧ Un x2 ∧ lap1 x3 ∧ lap1 x4 ∧ lap1 x5 ∧ lap1 x6 ∧ lap1 x7 ∧ lap1 x8 ∧ g = [s, x1, x2, x3, x4, x5, x6, x7, x8, none]
theorem val_ok (d : D) (hd : d ∈ [M7.D.non, .int 5, .bl true, .lst [], .lst [.str "2"], .tup [.str "2-1"], .dct [], .tup [.str "2", .str "1"]]) : φ_Rule_plain [(false, .cls .rule), (false, d)] = .ex .text (plE 0) [(false, .cls .rule), (false, d)] := by
  simp only [List.mem_cons, List.not_mem_nil, or_false] at hd
  rcases hd with rfl | rfl | rfl | rfl | rfl | rfl | rfl | rfl <;> exact plain_val _ _ rfl rfl
theorem outer_ok (ns : List Int) (hl : ns.length ≤ 63) (i : Nat) (hi : i < 1000) (g : G) (h : outG (some (.f, .scr (ns.map .int))) g) :
    ∃ g1 g2, sgName 1 (false, .int (0 + (i : Int))) g = some g1 ∧ ss_law_b2 g1 = .nx g2 ∧ outG (some (.f, .scr (ns.map .int))) g2 := by
  obtain ⟨x1, x2, x3, x4, x5, x6, x7, x8, u1, u2, u3, u4, u5, u6, u7, u8, rfl⟩ := h
  obtain ⟨v, ec⟩ := cell_ok ns (0 + (i : Int)) (by omega) (by omega) hl
  obtain ⟨x, y, es⟩ := source_ok v
  obtain ⟨a, b, c, y3, y5, y6, y7, y8, v3, v5, v6, v7, v8, e⟩ := lw_laps (some (.f, .scr (ns.map .int))) (some (.f, .int (0 + (i : Int)))) x4 12 0 x y 0 x3 x5 x6 x7 x8 u3 u5 u6 u7 u8
  obtain ⟨d, a', b', c', hd, ev⟩ := choose_ok a b c [.non, .int 5, .bl true, .lst [], .lst [.str "2"], .tup [.str "2-1"], .dct [], .tup [.str "2", .str "1"]] (by decide) (by decide)
  have s3 : ssAsg _ (sgName 4) (lwG (some (.f, .scr (ns.map .int))) (some (.f, .int (0 + (i : Int)))) a b c y3 x4 y5 y6 y7 y8) = .nx (lwG (some (.f, .scr (ns.map .int))) (some (.f, .int (0 + (i : Int)))) a' b' c' y3 (some (.f, d)) y5 y6 y7 y8) :=
    asgF (i := 4) (val_gen (some (.f, .scr (ns.map .int))) (some (.f, .int (0 + (i : Int)))) y3 x4 y5 y6 y7 y8 φ_law_choose (srcD a b c) (srcD a' b' c') d .non (.int 5) (.bl true) (.str "2") (.str "2-1") (.str "1") ev) rfl u4.un
  have s4 := out_gen (some (.f, .scr (ns.map .int))) (some (.f, .int (0 + (i : Int)))) y3 y5 y6 y7 y8 φ_Rule_plain φ_law_is_equal d (val_ok d hd) (equal_ok (sm_told (p := 0) (by omega)) (by omega) (by omega) false false) a' b' c' v3 v5 v6 v7 v8
  refine ⟨_, lwG (some (.f, .scr (ns.map .int))) (some (.f, .int (0 + (i : Int)))) a' b' c' y3 (some (.f, d)) y5 y6 y7 y8, (sgN rfl u1 _).trans rfl, ?_, _, _, _, _, _, _, _, _, .f _, un_o _, v3, .f _, v5, v6, v7, v8, rfl⟩
  refine (seq_nx (cell_gen φ_law_source φ_law_cell _ _ _ _ _ _ u2 ec es)).trans ?_
  have lp : ssFor (siA rg1 (saCons (sbOf (seC (.int 12))) saNil)) (sgName 3) ss_law_b1 (lwG (some (.f, .scr (ns.map .int))) (some (.f, .int (0 + (i : Int)))) x y 0 x3 x4 x5 x6 x7 x8) = .nx (lwG (some (.f, .scr (ns.map .int))) (some (.f, .int (0 + (i : Int)))) a b c y3 x4 y5 y6 y7 y8) :=
    for_rg1 (n := 12) (by simp [ssIf, ssDrop, ssRet, ssNext, ssAsg, ssPar, ofO, O.bind, stB, stNot, stAnd, stOr, seOp, seAnd, seOr, seNot, seIf, seCB, seVar, seMove, seC, sbVar, sbOf, saCons, saNil, Fl.own, Fl.pin, Fl.fz, Ref.get, ofOpt, refsGet, datas, setS, sgName, sgTup, sgCons, sgNil, ownAt, isLst, seMutV, seMut, seLst, seTup, sized_ok, seNeg]) (by decide) (by decide) e
  exact (seq_nx lp).trans ((seq_nx s3).trans (if_no s4))
theorem law_gen (B : SS) (sc : List D) (hl : sc.length ≤ 63) (x1 : List (Option (Fl × D))) (n : Int) (hn : n = if (if 4 < (sc.length : Int) then (4 : Int) else sc.length) > 1 then (if 4 < (sc.length : Int) then (4 : Int) else sc.length) else 1) (e : loopL (sgName 1) B (rangeD 0 n.toNat) [some (.f, .scr sc), none, none, none, none, none, none, none, none, none] = .nx (some (.f, .scr sc) :: x1)) :
    bodyFn 1 10 (ssTryN mt_FoldError (ssSeq (ssFor (siA rg1 (saCons (sbOf (seCB dMax2 (saCons (sbOf (seC (.int 1))) (saCons (sbOf (seCB dMin2 (saCons (sbOf (seCB dLen (saCons (sbVar 0) saNil))) (saCons (sbOf (seC (.int 4))) saNil)))) saNil)))) saNil)) (sgName 1) B)
    (ssRet (seC (.bl true)))) (ssRet (seC (.bl false)))) [(false, .scr sc)] = .ret false (.bl true) [(false, .scr sc)] := by
  have hb : -4611686018427387904 ≤ n ∧ n < 4611686018427387904 := by
    rw [hn]
    split <;> (try split) <;> omega
  unfold bodyFn
  simp [argG, ssTryN, ssSeq, ssFor, siA, saCons, sbOf, seCB, seC, sbVar, saNil, O.bind, refsGet, Ref.get, dLen, dMin2, dMax2, ofOpt, rg1, ← hn, hb, ofO, e, ssRet, endsOf, endOf]
theorem law_ok (ns : List Int) (hl : ns.length ≤ 63) : φ_law [(false, .scr (ns.map .int))] = .ret false (.bl true) [(false, .scr (ns.map .int))] := by
  obtain ⟨n, hn⟩ : ∃ n : Int, n = if (if 4 < ((ns.map M7.D.int).length : Int) then (4 : Int) else (ns.map M7.D.int).length) > 1 then (if 4 < ((ns.map M7.D.int).length : Int) then (4 : Int) else (ns.map M7.D.int).length) else 1 := ⟨_, rfl⟩
  have hb : n ≤ 4 := by
    rw [hn]
    split <;> (try split) <;> omega
  obtain ⟨g', e, x1, x2, x3, x4, x5, x6, x7, x8, u1, u2, u3, u4, u5, u6, u7, u8, rfl⟩ := loopL_nx (sg := sgName 1) (body := ss_law_b2) (ds := rangeD 0 n.toNat) (i := 0) (g := [some (.f, .scr (ns.map .int)), none, none, none, none, none, none, none, none, none]) (fun _ g => outG (some (.f, .scr (ns.map .int))) g)
    ⟨none, none, none, none, none, none, none, none, .inl rfl, un_none, .inl rfl, .inl rfl, .inl rfl, .inl rfl, .inl rfl, .inl rfl, rfl⟩ (fun j d g hd hi => by
      have hj := rangeD_get hd
      have hlt : j < n.toNat := by
        have := (List.getElem?_eq_some_iff.mp hd).1
        simpa [rangeD] using this
      rw [hj]
      exact outer_ok ns hl j (by omega) g hi)
  exact law_gen ss_law_b2 (ns.map .int) (by rw [List.length_map]; exact hl) _ n hn e
end M7.Z
theorem M7.pure_06 : ∀ ns : List Int, ns.length ≤ 63 → ∃ bk, M7.φ_law [(false, M7.D.scr (ns.map M7.D.int))] = M7.FO.ret false (M7.D.bl true) bk := fun ns hl => ⟨_, M7.Z.law_ok ns hl⟩
/-! The end of a law whose def is promised by FnG, with tables of code objects. -/
namespace R7
open PySem PySem.Spec PyProof.Rows L2
/-- what is tracked when the law is called: the tables, and the script unless it is written -/
def lawH (TS : List Addr) (a : Addr) (free : Bool) (u : HO) : Hp := fun b => if b ∈ TS then some (.tbl #[]) else if (b == a && free) = true then some u else none
theorem lawH_t {TS : List Addr} {a b : Addr} {free : Bool} {u : HO} (h : b ∈ TS) : lawH TS a free u b = some (.tbl #[]) := if_pos h
theorem lawH_a {TS : List Addr} {a : Addr} {u : HO} (h : a ∉ TS) : lawH TS a true u a = some u := by
  unfold lawH
  rw [if_neg h, if_pos (by simp)]
theorem lawH_cases {TS : List Addr} {a b : Addr} {free : Bool} {u o : HO} (e : lawH TS a free u b = some o) : (b ∈ TS ∧ o = .tbl #[]) ∨ (b = a ∧ free = true ∧ o = u) := by
  unfold lawH at e
  by_cases hb : b ∈ TS
  · rw [if_pos hb] at e
    exact .inl ⟨hb, (Option.some.inj e).symm⟩
  · rw [if_neg hb] at e
    by_cases hc : (b == a && free) = true
    · rw [if_pos hc] at e
      simp only [Bool.and_eq_true, beq_iff_eq] at hc
      exact .inr ⟨hc.1, hc.2, (Option.some.inj e).symm⟩
    · rw [if_neg hc] at e
      cases e
theorem lawH_none {TS : List Addr} {a b : Addr} {free : Bool} {u : HO} (h1 : b ∉ TS) (h2 : b = a → free = false) : lawH TS a free u b = none := by
  unfold lawH
  rw [if_neg h1, if_neg]
  intro hc
  simp only [Bool.and_eq_true, beq_iff_eq] at hc
  rw [h2 hc.1] at hc
  cases hc.2
theorem end_call {P : Program} {w : World} {K : PySem.W.Frag} {mg mb : Str → Option Value} {k : Nat} {fa a : Addr} {cs : List (Addr × Addr)} {fd : FuncData} {x : Str} {sp : Sp} {s : Shared} {vs : List Value} {ns : List Int}
    (KX : K.In s.heap) (hns : s.heap.Ns mainGlobals mg) (hbn : s.heap.Ns builtinsNs mb) (hbb : ∀ y : Str, y ≠ "__name__" → mb y = bootBuiltins y) (hlim : s.heap.NoLimit) (hgens : s.gens = #[]) (hsys : ∃ mm, s.heap.Ns sysModules mm)
    (hT : ∀ p ∈ cs, s.heap.get? p.2 = some { cls := .none, data := .fields #[] }) (nT : ∀ p ∈ cs, K.lookup p.2 = none) (hC : ∀ p ∈ cs, PySem.W.CodeHd s.heap p.1 p.2)
    (hbm : ∃ (bm : Addr) (ob : Obj), mg "__builtins__" = some (.ref bm) ∧ bm ≠ builtinsNs ∧ s.heap.get? bm = some ob ∧ ob.cls = .type "module" ∧ ob.dict = some builtinsNs ∧ ob.data = .plain)
    (ha : s.heap.get? a = some { cls := .type "list", data := .seq vs.toArray }) (hi : IntsAre vs ns) (hl : ns.length ≤ sizeLine) (hr : Room k callerA)
    (F : ∀ base : Heap, K.In base → base.Ns mainGlobals mg → SysB base → (∀ p ∈ cs, LamX.TabB base mg p.1 p.2) → FnG P w K mg base CX0 k fa fd [x] sp) (hbind : ∀ (s : Shared) (u : Value), BindsTo s fd ⟨[u], []⟩ [(x, u)])
    (hsp : ∀ H : Hp, (∀ p ∈ cs, H p.2 = some (.tbl #[])) → SqL K H a (ns.map V.int) → sp [.ref a] H (fun v _ => v = .bl true) fun _ _ _ => False) :
    codeAny (model P w) callerA (.call (.ref fa) ⟨[.ref a], []⟩) (fun r s' => r = .ok (.ret (.bool true)) ∧ OldK s.heap s'.heap ∧ s'.os = s.os ∧ AllBare s'.gens) s := by
  have rv := vals_ints hi
  have lenV := hi.length
  generalize eTS : cs.map (·.2) = TS
  have inT : ∀ p ∈ cs, p.2 ∈ TS := fun p hp => eTS ▸ List.mem_map.mpr ⟨p, hp, rfl⟩
  have outT : ∀ b ∈ TS, ∃ p ∈ cs, p.2 = b := fun b hb => by
    rw [← eTS] at hb
    exact List.mem_map.mp hb
  have isT : ∀ b ∈ TS, s.heap.get? b = some { cls := .none, data := .fields #[] } := fun b hb => by
    obtain ⟨p, hp, e⟩ := outT b hb
    exact e ▸ hT p hp
  have aT : a ∉ TS := fun z => by
    have e := isT a z
    rw [ha] at e
    exact absurd (congrArg Obj.data (Option.some.inj e)) (by intro q; cases q)
  generalize ef : (K.lookup a).isNone = free
  generalize eu : HO.frz { cls := .type "list", data := .seq vs.toArray } (.lst (ns.map V.int)) = u
  generalize eH : lawH TS a free u = H
  have Hc : ∀ {b o}, H b = some o → (b ∈ TS ∧ o = .tbl #[]) ∨ (b = a ∧ free = true ∧ o = u) := fun {b o} e => lawH_cases (eH ▸ e)
  have kT : ∀ b ∈ TS, K.lookup b = none := fun b hb => by
    obtain ⟨p, hp, e⟩ := outT b hb
    exact e ▸ nT p hp
  -- what is no list and no empty table is not tracked
  have off : ∀ {b : Addr} {o : Obj}, s.heap.get? b = some o → (∀ us n, o.data ≠ .seq us n) → o.data ≠ .fields #[] → H b = none := fun {b o} e n1 n2 => by
    cases q : H b with
    | none => rfl
    | some v =>
      rcases Hc q with ⟨z, _⟩ | ⟨z, _, _⟩
      · rw [isT b z] at e
        exact absurd rfl ((Option.some.inj e) ▸ n2)
      · rw [z, ha] at e
        exact absurd rfl ((Option.some.inj e) ▸ n1 _ _)
  have up : ∀ {b : Addr} {o : Obj}, s.heap.get? b = some o → H b = none → (hidT s.heap H).get? b = some o := fun e n => hidT_get e n
  have upNs : ∀ {b : Addr} {m : Str → Option Value}, s.heap.Ns b m → (hidT s.heap H).Ns b m := fun {b m} h => by
    obtain ⟨o, es, ep, e, d, r⟩ := h
    exact ⟨o, es, ep, up e (off e (fun us n z => by rw [d] at z; cases z) (fun z => by rw [d] at z; cases z)), d, r⟩
  have hK : K.In (hidT s.heap H) := fun b o e => by
    refine up (KX b o e) ?_
    cases q : H b with
    | none => rfl
    | some v =>
      rcases Hc q with ⟨z, _⟩ | ⟨z, z2, _⟩
      · rw [kT b z] at e
        cases e
      · rw [z] at e
        rw [e] at ef
        rw [← ef] at z2
        cases z2
  have hM : Mod K mg (hidT s.heap H) := by
    obtain ⟨mc, h1, h2⟩ := hlim
    exact ⟨hK, upNs hns, ⟨mb, upNs hbn, hbb⟩, ⟨mc, upNs h1, h2⟩⟩
  have hS : SysB (hidT s.heap H) := by
    obtain ⟨mm, h⟩ := hsys
    obtain ⟨o, es, ep, e, _⟩ := upNs h
    exact ⟨o, e⟩
  have hTB : ∀ p ∈ cs, LamX.TabB (hidT s.heap H) mg p.1 p.2 := fun p hp => by
    refine ⟨?_, ?_, fun z => ?_⟩
    · obtain ⟨o, us, f1, f2, f3, f4, f5, f6, f7, e1, r1, r2, r3, rest⟩ := hC p hp
      refine ⟨o, us, f1, f2, f3, f4, f5, f6, f7, up e1 (off e1 (fun ws n z => by rw [r2] at z; cases z) fun z => ?_), r1, r2, r3, rest⟩
      rw [r2] at z
      injection z with z
      rw [z] at r3
      simp at r3
    · obtain ⟨bm, ob, b1, b2, b3, b4, b5, b6⟩ := hbm
      have g1 : bm ≠ mainGlobals := fun q => by
        obtain ⟨o, es, ep, e, d, _⟩ := hns
        rw [q, e] at b3
        rw [Option.some.inj b3, b6] at d
        cases d
      have g2 : bm ≠ p.2 := fun q => by
        rw [q, hT p hp] at b3
        rw [← Option.some.inj b3] at b6
        cases b6
      exact ⟨bm, ob, b1, b2, g1, g2, up b3 (off b3 (fun ws n z => by rw [b6] at z; cases z) fun z => by rw [b6] at z; cases z), b4, b5, b6⟩
    · obtain ⟨o, es, ep, e, d, _⟩ := hns
      rw [z, hT p hp] at e
      rw [← Option.some.inj e] at d
      cases d
  have hok : HOk P w H s.heap := fun b o q => by
    rcases Hc q with ⟨z, e⟩ | ⟨z, _, e⟩
    · rw [e]
      exact isT b z
    · rw [e, ← eu, z]
      exact ⟨ha, by rw [List.length_map]; exact hl, vs, _, rv, ha⟩
  have hSq : SqL K H a (ns.map V.int) := by
    cases q : K.lookup a with
    | none =>
      rw [q] at ef
      have ef' : true = free := ef
      refine .inl (.inr ⟨{ cls := .type "list", data := .seq vs.toArray }, ?_⟩)
      rw [← eH, ← ef', ← eu]
      exact lawH_a aT
    | some o =>
      have e := KX a o q
      rw [ha] at e
      rw [← Option.some.inj e] at q
      exact .inr ⟨_, vs.toArray, _, q, rfl, rfl, rfl, by rw [List.size_toArray, lenV]; exact hl, by simpa using rv⟩
  have hTt : ∀ p ∈ cs, H p.2 = some (.tbl #[]) := fun p hp => by
    rw [← eH]
    exact lawH_t (inT p hp)
  have e0 : Env0 P w K mg (hidT s.heap H) callerA [] s H := ⟨rfl, hM, fun b o e => of_hidT e, Nat.le_of_eq (hidT_size _ _), trivial, fun b hb => absurd hb (by simp [frs]), hok, .of_eq hgens⟩
  refine codeAny_mono ((F _ hK (upNs hns) hS hTB).go callerA [] s H ⟨[.ref a], []⟩ [.ref a] [.ref a] (fun v _ => v = .bl true) (fun _ _ _ => False) rfl hr e0 (hbind s (.ref a)) (.cons rfl .nil) (hsp H hTt hSq)) fun r s' h => ?_
  cases r with
  | error e => exact h.elim
  | ok fl =>
    cases fl with
    | next => exact h.elim
    | brk => exact h.elim
    | cont => exact h.elim
    | ret v =>
      obtain ⟨y, H', os, bare, un, ok', ry, q⟩ := h
      have q' : y = .bl true := q
      rw [q'] at ry
      obtain rfl : v = Value.bool true := ry
      have stays : ∀ b o, b ∉ TS → s.heap.get? b = some o → s'.heap.get? b = some o := fun b o nb e => by
        cases qb : H b with
        | none => exact un.keep b o e qb (by simp [frs]) (by simp)
        | some v =>
          rcases Hc qb with ⟨z, _⟩ | ⟨z, _, z3⟩
          · exact absurd z nb
          · rw [z3, ← eu] at qb
            have z2 := ok' b _ (un.frzs b _ _ qb)
            have z4 := hok b _ qb
            have e5 := z4.1
            rw [e] at e5
            rw [Option.some.inj e5]
            exact z2.1
      have grows : ∀ b ∈ TS, ∃ more : Array Value, s'.heap.get? b = some { cls := .none, data := .fields more } := fun b hb => by
        obtain ⟨p, hp, e⟩ := outT b hb
        obtain ⟨more, z⟩ := un.tbls p.2 #[] (hTt p hp)
        rw [← e]
        exact ⟨_, ok' p.2 _ z⟩
      refine ⟨rfl, ⟨fun b o e => ?_, fun b o e => ?_⟩, os, bare⟩
      · by_cases hb : b ∈ TS
        · obtain ⟨p, hp, ep⟩ := outT b hb
          obtain ⟨more, hm⟩ := grows b hb
          have e2 := e
          rw [isT b hb] at e2
          rw [← Option.some.inj e2]
          exact .inr (.inl ⟨by rw [← ep]; exact ((hC p hp).tab (hT p hp)).isCodeTable, rfl, #[], more, rfl, by rw [Array.empty_append]; exact hm⟩)
        · exact .inl (stays b o hb e)
      · by_cases hb : b ∈ TS
        · obtain ⟨more, hm⟩ := grows b hb
          exact ⟨_, hm⟩
        · exact ⟨o, stays b o hb e⟩
end R7
namespace R7
open PySem PySem.Spec PyProof.Rows L2
/-- the law's promise as its end wants it -/
def spEnd (K : PySem.W.Frag) : Sp := fun vs H Q _ => ∃ (a : Addr) (ns : List Int), vs = [.ref a] ∧ SqL K H a (ns.map V.int) ∧ ns.length ≤ 63 ∧ ∀ H', Q (.bl true) H'
theorem FnG.imp {P : Program} {w : World} {K : PySem.W.Frag} {mg : Str → Option Value} {base : Heap} {CX : CXT} {k : Nat} {f : Addr} {fd : FuncData} {ps : List Str} {sp sp' : Sp} (F : FnG P w K mg base CX k f fd ps sp) (h : ∀ vs H Q E, sp' vs H Q E → sp vs H Q E) : FnG P w K mg base CX k f fd ps sp' :=
  ⟨fun vs H Q E z => F.len vs H Q E (h _ _ _ _ z), fun A outer s H args us vs Q E hg hr e0 hb r z => F.go A outer s H args us vs Q E hg hr e0 hb r (h _ _ _ _ z)⟩
end R7
/-! The end of a law that makes lambdas: its tables of code objects. -/
namespace R7
open PySem PySem.Spec PyProof.Rows L2
def spEndT (K : PySem.W.Frag) (Ts : List (Addr × Str)) : Sp := fun vs H Q _ => ∃ (a : Addr) (ns : List Int), vs = [.ref a] ∧ SqL K H a (ns.map V.int) ∧ ns.length ≤ 63 ∧ LamX.Tabs Ts H ∧ ∀ H', Q (.bl true) H'
/-- what is tracked and is no table -/
def offT (w : M7.WD) (H : Hp) : Hp := fun b => match H b with
  | some o => if (M7.plain o && (w.tn b).isNone) = true then some o else none
  | none => none
def onT (w : M7.WD) (H : Hp) : Hp := fun b => if (w.tn b).isSome = true then H b else none
theorem offT_some {w : M7.WD} {H : Hp} {b : Addr} {o : HO} (h : offT w H b = some o) : M7.plain o = true ∧ w.tn b = none ∧ H b = some o := by
  unfold offT at h
  cases e : H b with
  | none => rw [e] at h; cases h
  | some u =>
    rw [e] at h
    simp only at h
    split at h
    · rename_i hc
      simp only [Bool.and_eq_true, Option.isNone_iff_eq_none] at hc
      cases h
      exact ⟨hc.1, hc.2, rfl⟩
    · cases h
theorem offT_of {w : M7.WD} {H : Hp} {b : Addr} {o : HO} (h : H b = some o) (p : M7.plain o = true) (t : w.tn b = none) : offT w H b = some o := by
  unfold offT
  rw [h]
  simp [p, t]
theorem end_T {w : M7.WD} {φ : M7.Fn} {T : List (Addr × Str)} {Q : VK} {E : XK} {vs : List V} {H : Hp} (hT : M7.TabsOf w T) (hφ : ∀ ns : List Int, ns.length ≤ 63 → ∃ bk, φ [(false, .scr (ns.map M7.D.int))] = .ret false (.bl true) bk) (h : spEndT w.K T vs H Q E) : M7.spD w φ vs H Q E := by
  obtain ⟨a, ns, rfl, hs, hn, ht, q⟩ := h
  obtain ⟨bk, e⟩ := hφ ns hn
  have tab : ∀ b q, w.tn b = some q → LamX.TabS H b q := fun b q z => ht _ (hT.all b q z)
  have hs' : SqL w.K (offT w H) a (ns.map V.int) := by
    have no : ∀ o, H a = some o → M7.plain o = true → w.tn a = none := fun o h1 h2 => by
      cases z : w.tn a with
      | none => rfl
      | some q =>
        obtain ⟨ps, h3, _⟩ := tab a q z
        rw [h3] at h1
        cases h1
        cases h2
    rcases hs with (h1 | ⟨ob, h1⟩) | h1
    · exact .inl (.inl (offT_of h1 rfl (no _ h1 rfl)))
    · exact .inl (.inr ⟨ob, offT_of h1 rfl (no _ h1 rfl)⟩)
    · exact .inr h1
  refine ⟨offT w H, onT w H, [(false, .scr (ns.map M7.D.int))], ⟨fun b o z => ?_, fun b o z => ?_, fun b o z => ?_, rfl, fun i c d z hc => ?_, fun i c d z hc => ?_, fun i j c c' d e a z z' hc hc' => ?_, fun i c d z hc => ?_, fun b q z => ?_⟩, ?_⟩
  · obtain ⟨h1, _, h3⟩ := offT_some z
    exact ⟨h1, .inl h3⟩
  · unfold onT at z
    cases t : w.tn b with
    | none => rw [t] at z; cases z
    | some q => exact .inr ⟨q, rfl, tab b q t⟩
  · cases t : offT w H b with
    | none => rfl
    | some u =>
      obtain ⟨_, h2, _⟩ := offT_some t
      unfold onT at z
      rw [h2] at z
      cases z
  · match i with
    | 0 =>
      cases z
      exact ⟨_, rfl, .scr hs' (M7.ints_dens ns)⟩
    | i + 1 => cases z
  · match i with
    | 0 => cases z; cases hc
    | i + 1 => cases z
  · match i with
    | 0 => cases z; cases hc
    | i + 1 => cases z
  · match i with
    | 0 => cases z; cases hc
    | i + 1 => cases z
  · obtain ⟨ps, h3, _⟩ := tab b q z
    refine ⟨.tbl ps, ?_⟩
    unfold onT
    rw [z]
    exact h3
  · rw [e]
    intro v B' H' e' t r
    cases (show M7.Den w B' v (.bl true) from r)
    exact q H'
theorem walk_endT {l : PySem.W.OpenLaw} {k : Nat} {q : Program} {loose : List Str} {XP : (Str → Option Value) → Heap → Prop} {YP : World → Heap → Prop} {d : DefRec} {K : Params → PySem.W.Frag} {x : Str}
    (hn : l.most = some 63) (hdf : d.params.defaults = []) (himp : importsNone q = true) (hr : Room k callerA) (hY : ∀ (w : World) (h : Heap), YP w h → (K w.params).In h)
    (F : ∀ (w : World) (mg : Str → Option Value) (fa : Addr) (h : Heap), YP w h → (K w.params).In h → h.Ns mainGlobals mg → mg d.name = some (.ref fa) →
      ∃ (fd : FuncData) (cs : List (Addr × Addr)) (Ts : List (Addr × Str)), (∀ p ∈ cs, h.get? p.2 = some { cls := .none, data := .fields #[] }) ∧ (∀ p ∈ cs, (K w.params).lookup p.2 = none) ∧ (∀ p ∈ cs, PySem.W.CodeHd h p.1 p.2) ∧ (∀ t ∈ Ts, ∃ p ∈ cs, p.2 = t.1) ∧
        (∀ (s : Shared) (u : Value), BindsTo s fd ⟨[u], []⟩ [(x, u)]) ∧
        ∀ base : Heap, (K w.params).In base → base.Ns mainGlobals mg → SysB base → (∀ p ∈ cs, LamX.TabB base mg p.1 p.2) → FnG l.prog w (K w.params) mg base CX0 k fa fd [x] (spEndT (K w.params) Ts)) :
    PySem.W.WalkO q loose XP YP l.row.toRowW d [] (fun f vs => PySem.call f vs) := by
  refine Att.attach_callB hn hdf fun w s₀ s₁ mg mb fa o pm cd doc a vs ns G Y ho hd hcd hmg hobj hints hlen hbits hg => ?_
  have KX := hY w _ Y
  obtain ⟨fd, cs, Ts, h1, h2, h3, h4, h5, h6⟩ := F w mg fa _ Y KX G.T.g hmg
  obtain ⟨mm, hm, _⟩ := (G.T.seer himp).mods
  refine end_call KX G.T.g G.T.b G.T.builtins G.T.nolimit hg ⟨mm, hm⟩ h1 h2 h3 G.T.bmain hobj hints (Nat.le_trans hlen (by decide)) hr h6 h5 fun H hH hS => ?_
  refine ⟨a, ns, rfl, hS, hlen, fun t ht => ?_, fun _ => rfl⟩
  obtain ⟨p, hp, e⟩ := h4 t ht
  exact LamX.TabS.nil (e ▸ hH p hp)
theorem fin_T {P : Program} {w : World} {K : PySem.W.Frag} {h : Heap} {mg : Str → Option Value} {fa : Addr} {n qn : Str} {k : Nat} {f c1 P1 : Addr} {ts : List Addr} (X : K.In h) (G : h.Ns mainGlobals mg) (hmg : mg n = some (.ref fa)) (hn : n = "law")
    (a : PySem.W.nsIn K mainGlobals "law" = some (some (.ref f))) (ht : ∀ b ∈ ts, h.get? b = some (PySem.W.tabObj #[])) {o1 : Option Addr} {v1 : Array Value} {s1 : Array (Option Value)} {fi1 : Str} {t1 u1 x1 : Tok} {fl1 te1 : Int} {b1 : Bool} (h1 : K.lookup c1 = some ⟨.type "code", o1, .fields v1, s1⟩) (w11 : v1[11]? = some (.ref P1)) (w12 : v1.getD 11 .none = .ref P1) (w13 : v1.getD 18 .none = .str fi1 t1) (w14 : v1.getD 7 .none = .int fl1 u1) (w15 : v1.getD 9 .none = .bool b1) (w16 : v1.getD 10 .none = .int te1 x1) (w17 : c1 ≠ P1) (n1 : K.lookup P1 = none) (m1 : P1 ∈ ts)
    (hk : ∃ fd : FuncData, (∀ (s : Shared) (v : Value), BindsTo s fd ⟨[v], []⟩ [("_law_script", v)]) ∧ ∀ base : Heap, K.In base → base.Ns mainGlobals mg → SysB base → (∀ p ∈ [(c1, P1)], LamX.TabB base mg p.1 p.2) → FnG P w K mg base CX0 k f fd ["_law_script"] (spEndT K [(P1, qn)])) :
    ∃ (fd : FuncData) (cs : List (Addr × Addr)) (Ts : List (Addr × Str)), (∀ p ∈ cs, h.get? p.2 = some { cls := .none, data := .fields #[] }) ∧ (∀ p ∈ cs, K.lookup p.2 = none) ∧ (∀ p ∈ cs, PySem.W.CodeHd h p.1 p.2) ∧ (∀ t ∈ Ts, ∃ p ∈ cs, p.2 = t.1) ∧
        (∀ (s : Shared) (u : Value), BindsTo s fd ⟨[u], []⟩ [("_law_script", u)]) ∧ ∀ base : Heap, K.In base → base.Ns mainGlobals mg → SysB base → (∀ p ∈ cs, LamX.TabB base mg p.1 p.2) → FnG P w K mg base CX0 k fa fd ["_law_script"] (spEndT K Ts) := by
  subst hn
  have e := hmg.symm.trans (PySem.W.mg_of X G a)
  cases e
  obtain ⟨fd, hb, hF⟩ := hk
  refine ⟨fd, [(c1, P1)], [(P1, qn)], fun p hp => ?_, fun p hp => ?_, fun p hp => ?_, fun t htm => ?_, hb, hF⟩
  · rw [List.mem_singleton.mp hp]
    exact ht _ m1
  · rw [List.mem_singleton.mp hp]
    exact n1
  · rw [List.mem_singleton.mp hp]
    exact ⟨_, v1, fi1, t1, fl1, u1, b1, te1, x1, X _ _ h1, rfl, rfl, w11, w12, w13, w14, w15, w16, w17⟩
  · exact ⟨(c1, P1), List.mem_cons_self, by rw [List.mem_singleton.mp htm]⟩
end R7
namespace M7
open PySem PySem.Spec PyProof.Rows L2
theorem tabs_one {w : WD} {Pt : Addr} {qn : Str} (h : w.tn = fun a => if a = Pt then some qn else none) : TabsOf w [(Pt, qn)] := by
  refine ⟨fun a q e => ?_, fun p hp => ?_⟩
  · rw [h] at e
    simp only at e
    split at e
    · rename_i z
      cases e
      rw [z]
      exact .head _
    · cases e
  · rw [List.mem_singleton.mp hp, h]
    exact if_pos rfl
end M7
/-! Two makers of lambdas. -/
namespace R7
open PySem PySem.Spec PyProof.Rows L2
theorem fin_T2 {P : Program} {w : World} {K : PySem.W.Frag} {h : Heap} {mg : Str → Option Value} {fa : Addr} {n q1 q2 : Str} {k : Nat} {f c1 P1 c2 P2 : Addr} {ts : List Addr} (X : K.In h) (G : h.Ns mainGlobals mg) (hmg : mg n = some (.ref fa)) (hn : n = "law")
    (a : PySem.W.nsIn K mainGlobals "law" = some (some (.ref f))) (ht : ∀ b ∈ ts, h.get? b = some (PySem.W.tabObj #[]))
    {o1 : Option Addr} {v1 : Array Value} {s1 : Array (Option Value)} {fi1 : Str} {t1 u1 x1 : Tok} {fl1 te1 : Int} {b1 : Bool} (h1 : K.lookup c1 = some ⟨.type "code", o1, .fields v1, s1⟩) (w11 : v1[11]? = some (.ref P1)) (w12 : v1.getD 11 .none = .ref P1) (w13 : v1.getD 18 .none = .str fi1 t1) (w14 : v1.getD 7 .none = .int fl1 u1) (w15 : v1.getD 9 .none = .bool b1) (w16 : v1.getD 10 .none = .int te1 x1) (w17 : c1 ≠ P1) (n1 : K.lookup P1 = none) (m1 : P1 ∈ ts)
    {o2 : Option Addr} {v2 : Array Value} {s2 : Array (Option Value)} {fi2 : Str} {t2 u2 x2 : Tok} {fl2 te2 : Int} {b2 : Bool} (h2 : K.lookup c2 = some ⟨.type "code", o2, .fields v2, s2⟩) (w21 : v2[11]? = some (.ref P2)) (w22 : v2.getD 11 .none = .ref P2) (w23 : v2.getD 18 .none = .str fi2 t2) (w24 : v2.getD 7 .none = .int fl2 u2) (w25 : v2.getD 9 .none = .bool b2) (w26 : v2.getD 10 .none = .int te2 x2) (w27 : c2 ≠ P2) (n2 : K.lookup P2 = none) (m2 : P2 ∈ ts)
    (hk : ∃ fd : FuncData, (∀ (s : Shared) (v : Value), BindsTo s fd ⟨[v], []⟩ [("_law_script", v)]) ∧ ∀ base : Heap, K.In base → base.Ns mainGlobals mg → SysB base → (∀ p ∈ [(c1, P1), (c2, P2)], LamX.TabB base mg p.1 p.2) → FnG P w K mg base CX0 k f fd ["_law_script"] (spEndT K [(P1, q1), (P2, q2)])) :
    ∃ (fd : FuncData) (cs : List (Addr × Addr)) (Ts : List (Addr × Str)), (∀ p ∈ cs, h.get? p.2 = some { cls := .none, data := .fields #[] }) ∧ (∀ p ∈ cs, K.lookup p.2 = none) ∧ (∀ p ∈ cs, PySem.W.CodeHd h p.1 p.2) ∧ (∀ t ∈ Ts, ∃ p ∈ cs, p.2 = t.1) ∧
        (∀ (s : Shared) (u : Value), BindsTo s fd ⟨[u], []⟩ [("_law_script", u)]) ∧ ∀ base : Heap, K.In base → base.Ns mainGlobals mg → SysB base → (∀ p ∈ cs, LamX.TabB base mg p.1 p.2) → FnG P w K mg base CX0 k fa fd ["_law_script"] (spEndT K Ts) := by
  subst hn
  have e := hmg.symm.trans (PySem.W.mg_of X G a)
  cases e
  obtain ⟨fd, hb, hF⟩ := hk
  refine ⟨fd, [(c1, P1), (c2, P2)], [(P1, q1), (P2, q2)], fun p hp => ?_, fun p hp => ?_, fun p hp => ?_, fun t htm => ?_, hb, hF⟩
  · simp only [List.mem_cons, List.not_mem_nil, or_false] at hp
    rcases hp with rfl | rfl
    · exact ht _ m1
    · exact ht _ m2
  · simp only [List.mem_cons, List.not_mem_nil, or_false] at hp
    rcases hp with rfl | rfl
    · exact n1
    · exact n2
  · simp only [List.mem_cons, List.not_mem_nil, or_false] at hp
    rcases hp with rfl | rfl
    · exact ⟨_, v1, fi1, t1, fl1, u1, b1, te1, x1, X _ _ h1, rfl, rfl, w11, w12, w13, w14, w15, w16, w17⟩
    · exact ⟨_, v2, fi2, t2, fl2, u2, b2, te2, x2, X _ _ h2, rfl, rfl, w21, w22, w23, w24, w25, w26, w27⟩
  · simp only [List.mem_cons, List.not_mem_nil, or_false] at htm
    rcases htm with rfl | rfl
    · exact ⟨(c1, P1), List.mem_cons_self, rfl⟩
    · exact ⟨(c2, P2), List.mem_cons_of_mem _ List.mem_cons_self, rfl⟩
end R7
namespace M7
open PySem PySem.Spec PyProof.Rows L2
theorem tabs_two {w : WD} {P1 P2 : Addr} {q1 q2 : Str} (h : w.tn = fun a => if a = P1 then some q1 else if a = P2 then some q2 else none) (ne : P2 ≠ P1) : TabsOf w [(P1, q1), (P2, q2)] := by
  refine ⟨fun a q e => ?_, fun p hp => ?_⟩
  · rw [h] at e
    simp only at e
    split at e
    · rename_i z
      cases e
      rw [z]
      exact .head _
    · split at e
      · rename_i z
        cases e
        rw [z]
        exact .tail _ (.head _)
      · cases e
  · simp only [List.mem_cons, List.not_mem_nil, or_false] at hp
    rcases hp with rfl | rfl
    · rw [h]
      exact if_pos rfl
    · rw [h]
      show (if P2 = P1 then some q1 else if P2 = P2 then some q2 else none) = some q2
      rw [if_neg ne, if_pos rfl]
end M7
set_option maxHeartbeats 1000000
namespace M7
open PySem PySem.Spec PyProof.Rows L2
abbrev st_TextError___init : Stmt := inClass (top 6) 0
theorem sc_TextError___init : ScopeS ["self", "place"] ["self", "place"] (defScope st_TextError___init) := ⟨rfl, rfl, rfl, by decide +kernel, rfl, by decide +kernel, by decide +kernel, by decide +kernel, rfl, rfl⟩
theorem len_app (a b : Str) : (a ++ b).length = a.length + b.length := by
  show (a.cps ++ b.cps).size = a.cps.size + b.cps.size
  exact Array.size_append
theorem xi_bd {w : WD} {C f : Addr} {fd : FuncData} (Fd : FunS w.K "/claim/cut.py" "__init__" "TextError.__init__" st_TextError___init C f fd) : Binds w.K fd ["self", "place"] [] := by
  obtain ⟨oc, od, kV, doc, pm, an, cda, ct, osl, cc, ccl, cdd, vs, ccs, tf, cl, cld, csl, rfl, _⟩ := Fd.ex
  exact .all fun us hl => match us, hl with | [_, _], _ => rfl
theorem xi_te {w : WD} {P : Program} {wl : World} {mg : Str → Option Value} {base : Heap} {C f : Addr} {fd : FuncData} (Fd : FunS w.K "/claim/cut.py" "__init__" "TextError.__init__" st_TextError___init C f fd) (U : SupX P mg "/claim/cut.py") (hS : SupI w.K C) (hno : PySem.W.findIn w.K (.ref C) "place" = some none) :
    FnX false P wl w.K mg base (CXb false P wl) 1 f fd ["self", "place"] (spI C "place" okVI) := by
  refine init_X (N := ["self", "place"]) Fd sc_TextError___init U rfl ?hbd rfl rfl (by decide) (by decide) hS hno (fun env => rfl) (fun env => rfl) (fun _ _ _ => rfl) (fun _ => rfl) (fun _ => rfl) ?hb
  case hbd =>
    obtain ⟨oc, od, kV, doc, pm, an, cda, ct, osl, cc, ccl, cdd, vs, ccs, tf, cl, cld, csl, rfl, _⟩ := Fd.ex
    exact .all fun us hl => match us, hl with | [_, _], _ => rfl
  case hb =>
    intro cda cc A outer sh H E
    refine ⟨_, pe_joined (.cons pe_str (.cons (pe_fmt (pe_var (i := 1) (x := "place") rfl (.inl (sc_TextError___init.par _ (by simp))))) (.cons pe_str .nil))), ?_⟩
    intro a v H Q hv hq
    obtain ⟨i, rfl, hi⟩ := hv
    have h1 := int_text_len_1921 hi
    have z1 : (1000 : Nat) ≤ sizeLine := by decide
    have z2 : (4000 : Nat) ≤ sizeLine := by decide
    have e0 : Str.empty.length = 0 := rfl
    have e1 : ("not the text of a rule behind the first " : Str).length = 40 := by decide +kernel
    have e2 : (" characters" : Str).length = 11 := by decide +kernel
    refine ⟨_, rfl, ?_, .int i, rfl, .inr ⟨i, rfl, hi, _, rfl, ?_, _, rfl, ?_, hq _⟩⟩
    · rw [len_app]; omega
    · rw [len_app, len_app]; exact Nat.le_trans (by omega : _ ≤ 4000) z2
    · rw [len_app, len_app, len_app]; exact Nat.le_trans (by omega : _ ≤ 4000) z2
abbrev st_law_outcome : Stmt := top 41
theorem sc_law_outcome : FnScope ["_law_action", "error"] ["_law_action"] (defScope st_law_outcome) := ⟨rfl, rfl, rfl, by decide +kernel, rfl, by decide +kernel, by decide +kernel⟩
/-- a name in a slot that stands there if there are so many slots -/
def tVarL (i n : Nat) (v : V) : TE := fun σ H Q => (σ.length = n → σ[i]? = some (some v)) ∧ Q v H
theorem pe_varL {X : Cx} {i n : Nat} {x : Str} {pos : Pos} {v : V} (hn : X.N.length = n) (hN : X.N[i]? = some x) (hv : Vis X.env.scope x) (hd : (x == ("__debug__" : Str)) = false := by decide) (hcd : (x == ("__classdict__" : Str)) = false := by decide) : PE X (.Name x pos) (tVarL i n v) :=
  ⟨fun pins s σ H Q I h => (pe_var hN hv hd hcd).run pins s σ H Q I ⟨v, h.1 (I.len.trans hn), h.2⟩⟩
theorem out_gives {X : Cx} {q : Str} {g CE : Addr} {cdg : Value} (hme : X.mg "TextError" = some (.ref CE)) (T : XfC X.K CE) (hno : PySem.W.findIn X.K (.ref CE) "place" = some none) : LamX.GivesTo X ["_law_action", "error"] "_law_outcome" (defScope st_law_outcome) g cdg (defBody st_law_outcome) "_law_action" q (TOutF X.K CE "value" "TextError" "place") := by
  intro f c' s H Q tl act hc h
  refine ⟨_, pss_one (ps_try_as (X := (cxOf C8.CX0 X.prog X.w X.K X.mg X.base ["_law_action", "error"] "_law_outcome" (defScope st_law_outcome) g cdg X.A X.stack s H C8.E0).nox) (c := .ref CE) (i := 1) (n := "error")
      (tb := fun W D σ H => ∃ Ech : XK, (∀ cls d σ' H', Ech cls d H' → W cls d σ' H') ∧ σ[0]? = some (some (.ref f)) ∧ H c' = some (LamX.CodeO c' q) ∧ tl Ech H (fun v H1 => 2 ≤ sizeLine ∧ ∀ t, H1 t = none → D.rt (.ref t) (upd H1 t (.tup [.str "value", v]))))
      rfl rfl sc_law_outcome.nd rfl (by rfl) ⟨by rfl, by decide, .inl hme⟩ LamX.takes0 (fun W pn xe tk _ => ?_) (fun a oe cls d pn hz hf => pss_one (ps_ret (pe_tup (pa_cons pe_str (pa_cons (pe_xf T hno hz hf (pe_varL (i := 1) (n := 2) (v := .ref a) (x := "error") rfl rfl (.inl (by rfl)))) pa_nil)))))), ?_⟩
  · constructor
    intro pins s' σ H' D I h'
    obtain ⟨Ech, hW, h1, h2, h3⟩ := h'
    refine PSs.run (pss_one (ps_ret (pe_tup (pa_cons pe_str (pa_cons (act W pn xe Ech _ _ tk hW) pa_nil))))) pins s' σ H' D I ?_
    exact ⟨h1, h2, h3⟩
  · refine ⟨_, fun cls d σ' H' z => ?_, rfl, hc, h⟩
    obtain ⟨e1, e2, dd, v, e3, e4, e5⟩ := z
    subst e2 e3
    refine ⟨true, e1, fun _ a ha => ?_, fun z => nomatch z⟩
    exact ⟨(fun hl => by rw [List.getElem?_set_self (by rw [List.length_set] at hl; omega)]), rfl, rfl, dd, _, v, rfl, e4, rfl, (by show 2 ≤ sizeLine; decide), fun t nt => e5 t nt⟩
theorem outK_law_outcome {P : Program} {wl : World} {mg : Str → Option Value} {base : Heap} {w : WD} {g : Addr} {oc kV doc pm cdv ct : Value} {an od : Option Addr} {osl : Array (Option Value)} (h : Cth w mg "TextError" .text mt_TextError) (T : XfC w.K (w.exc .text)) (hno : PySem.W.findIn w.K (.ref (w.exc .text)) "place" = some none) (hm : mg "_law_outcome" = some (.ref g)) (hk : PySem.W.keepIn w.K (.ref g) = true)
    (lk : w.K.lookup g = some ⟨oc, od, .func (PySem.W.fnOf "_law_outcome" "_law_outcome" (defArgs st_law_outcome) (defBody st_law_outcome) (defScope st_law_outcome) .none kV doc pm an cdv ct), osl⟩) (hc : PySem.W.codeIn w.K cdv "_law_outcome" = true) : OutKF P wl mg base w "_law_outcome" "value" "TextError" "place" .text := by
  refine ⟨⟨g, mt_TextError, "_law_action", ["_law_action", "error"], defArgs st_law_outcome, defBody st_law_outcome, defScope st_law_outcome, .none, kV, doc, pm, cdv, ct, oc, an, od, osl, hm, hk, lk, hc, .all fun us hl => match us, hl with | [_], _ => rfl, sc_law_outcome, rfl, ?_, h.ctc, rfl, fun X h1 h2 h3 h4 h5 q => ?_, by decide, by decide⟩⟩
  · first | exact Or.inl rfl | exact Or.inr (Or.inl rfl) | exact Or.inr (Or.inr rfl)
  · rw [← h3]
    exact out_gives (by rw [h4]; exact h.at_) (by rw [h3]; exact T) (by rw [h3]; exact hno)
theorem exn_TextError {w : WD} {P : Program} {wl : World} {mg : Str → Option Value} {base : Heap} {f : Addr} {fd : FuncData} (Fd : FunS w.K "/claim/cut.py" "__init__" "TextError.__init__" st_TextError___init (w.exc .text) f fd) (U : SupX P mg "/claim/cut.py") (hS : SupI w.K (w.exc .text)) (hno : PySem.W.findIn w.K (.ref (w.exc .text)) "place" = some none)
    (hfi : PySem.W.findIn w.K (.ref (w.exc .text)) "__init__" = some (some (.ref f))) (hty : PySem.W.typeIn w.K (.ref f) = some (.type "function")) (at_ : mg "TextError" = some (.ref (w.exc .text))) (has : w.has .text) : ExnI P wl mg base w 1 "TextError" .text "place" okVI :=
  ⟨⟨f, fd, ["self", "place"], hfi, hty, xi_te Fd U hS hno, xi_bd Fd⟩, at_, hS.oex, has⟩
def oexB (K : PySem.W.Frag) (C : Addr) : Bool := match K.lookup C with
  | some ⟨.type "type", _, .cls cd, sl⟩ => (match cd.mro, sl.toList with
    | .ref C' :: bm, [_, _, _, _, some (.builtin n), _] => C' == C && n == "ValueError.__new__" && !cd.hasDel && cd.hasDict && PySem.HandSPX.refsVE bm
    | _, _ => false)
  | _ => false
theorem oexB_ok {K : PySem.W.Frag} {C : Addr} (q : oexB K C = true) : ∃ nm q N bs bm sn sub ab col dd k0 k1 k2 k3 k5, K.lookup C = some (excClassObj nm q C N bs bm true sn sub ab col dd k0 k1 k2 k3 k5 "ValueError.__new__") ∧ PySem.HandSPX.refsVE bm = true := by
  unfold oexB at q
  split at q
  · rename_i dd cd sl ho
    split at q
    · rename_i C' bm k0 k1 k2 k3 n k5 hm hs
      simp only [Bool.and_eq_true, beq_iff_eq, Bool.not_eq_true'] at q
      obtain ⟨⟨⟨⟨rfl, rfl⟩, hdel⟩, hd1⟩, ht⟩ := q
      obtain ⟨nm, bs, mro, ns, qn, hd, sn, sub, ab, col, del⟩ := cd
      dsimp only at hm hdel hd1
      subst hm hdel hd1
      have hsl : sl = #[k0, k1, k2, k3, some (.builtin "ValueError.__new__"), k5] := by
        obtain ⟨l⟩ := sl
        simp only at hs
        rw [hs]
      subst hsl
      exact ⟨nm, qn, ns, bs, bm, sn, sub, ab, col, dd, k0, k1, k2, k3, k5, ho, ht⟩
    · cases q
  · cases q
theorem oexC_mk {K : PySem.W.Frag} {C : Addr} (q : oexB K C = true) (sa : PySem.W.findIn K (.ref C) "__setattr__" = some (some (.builtin "object.__setattr__"))) (ex : PySem.W.subIn K (.ref C) (.type "BaseException") = some true) (ty : PySem.W.typeIn K (.ref C) = some (.type "type")) (k : PySem.W.keepIn K (.ref C) = true) : OexC K C := ⟨oexB_ok q, sa, ex, ty, k⟩
end M7
set_option maxHeartbeats 4000000
namespace M7
open PySem PySem.Spec PyProof.Rows L2
def qn_right : Str := (envOfC "_law_is_right" (defScope st_law_is_right) 0 0 .none).qual ++ ("<lambda>" : Str)
def qn_law : Str := (envOfC "law" (defScope st_law) 0 0 .none).qual ++ ("<lambda>" : Str)
theorem kit_ref {K : PySem.W.Frag} {t : Value} {C : Addr} {r : Bool} (i : PySem.W.isClsIn K C = true) (ty : PySem.W.typeIn K (.ref C) = some (.type "type")) (s : PySem.W.subIn K t (.ref C) = some r) : PySem.W.kitCls K t (.ref C) = some r := by
  have i' : (PySem.W.clsIn K C).isSome = true := i
  show (if ((PySem.W.clsIn K C).isSome && PySem.W.typeIn K (.ref C) == some (.type "type")) = true then PySem.W.subIn K t (.ref C) else none) = some r
  rw [i', ty, if_pos (by decide)]
  exact s
theorem kit_ne {K : PySem.W.Frag} {A B : Addr} {r : Bool} (h : A ≠ B) (k : PySem.W.kitCls K (.ref A) (.ref B) = some r) : PySem.W.kitOne K (.ref A) (.ref B) = some r := by
  unfold PySem.W.kitOne
  rw [if_neg (fun z => h (by have := eq_of_beq z; injection this))]
  exact k
theorem kit_tref {K : PySem.W.Frag} {T : String} {B : Addr} {r : Bool} (k : PySem.W.kitCls K (.type T) (.ref B) = some r) : PySem.W.kitOne K (.type T) (.ref B) = some r := by
  unfold PySem.W.kitOne
  rw [if_neg (fun z => by have := eq_of_beq z; cases this)]
  exact k
theorem kit_same {K : PySem.W.Frag} {A : Addr} : PySem.W.kitOne K (.ref A) (.ref A) = some true := by
  unfold PySem.W.kitOne
  rw [if_pos (beq_self_eq_true _)]
theorem exm_ref {K : PySem.W.Frag} {c : Value} {C : Addr} {r : Bool} (b : PySem.W.subIn K (.ref C) (.type "BaseException") = some true) (k : PySem.W.kitCls K c (.ref C) = some r) : PySem.W.exmOne K c (.ref C) = some r := by
  unfold PySem.W.exmOne
  rw [b, if_pos (beq_self_eq_true _)]
  exact k
@[reducible] def wdOf (K : PySem.W.Frag) (CRule CHeld CAimed CRule XTextError XFoldError Pt0 Pt1 : Addr) : WD := ⟨K, fun c => match c with | .rule => CRule | .held => CHeld | .aimed => CAimed | .bound => CRule | _ => 0, fun x => match x with | .text => XTextError | .fold => XFoldError | _ => 0, fun x => x = .text, fun a => if a = Pt0 then some qn_right else if a = Pt1 then some qn_law else none⟩
theorem all_06 {P : Program} {wl : World} {K : PySem.W.Frag} {h : Heap} {mg : Str → Option Value} (X : K.In h) (G : h.Ns mainGlobals mg)
    {CRule CHeld CAimed XTextError XFoldError Pt0 Pt1 f_is_integer f_letter_at f_length_size f_cut f_TextError___init cda_TextError___init cc_TextError___init f_Rule_is_rod f_Rule___init ps_is_rod f_Rule_rods f_Rule_options f_Rule_plain f_check_rule f_all_options TOPTIONS f_hinge_mark f_aim_mark f_written q_Rule_rods f_law_cell f_law_source f_law_draw f_law_choose f_law_is_equal f_law_rods f_law_is_length f_law_is_text f_law_place f_law_bent f_law_is_right cd_law_is_right ps_plain f_law_outcome f_law cd_law : Addr}
    {od_is_integer an_is_integer : Option Addr} {sl_is_integer : Array (Option Value)} {oc_is_integer kV_is_integer dc_is_integer pm_is_integer cd_is_integer ct_is_integer : Value}
    {od_letter_at an_letter_at : Option Addr} {sl_letter_at : Array (Option Value)} {oc_letter_at kV_letter_at dc_letter_at pm_letter_at cd_letter_at ct_letter_at : Value}
    {od_length_size an_length_size : Option Addr} {sl_length_size : Array (Option Value)} {oc_length_size kV_length_size dc_length_size pm_length_size cd_length_size ct_length_size : Value}
    {tk_FIRST_DIGITS : Tok}
    {tk_DIGITS : Tok}
    {od_cut an_cut : Option Addr} {sl_cut : Array (Option Value)} {oc_cut kV_cut dc_cut pm_cut cd_cut ct_cut : Value}
    {od_TextError___init an_TextError___init : Option Addr} {sl_TextError___init : Array (Option Value)} {oc_TextError___init kV_TextError___init dc_TextError___init pm_TextError___init  ct_TextError___init : Value}
    {ccl_TextError___init : Value} {cdd_TextError___init : Option Addr} {vs_TextError___init : Array Value} {ccs_TextError___init : Array (Option Value)} {tf_TextError___init : Tok} {cel_TextError___init : Value} {cld_TextError___init : Option Addr} {csl_TextError___init : Array (Option Value)}
    {od_Rule_is_rod an_Rule_is_rod : Option Addr} {sl_Rule_is_rod : Array (Option Value)} {oc_Rule_is_rod kV_Rule_is_rod dc_Rule_is_rod pm_Rule_is_rod cd_Rule_is_rod ct_Rule_is_rod : Value}
    {tk_v_Rule_MOST_LENGTH : Tok}
    {od_Rule___init an_Rule___init : Option Addr} {sl_Rule___init : Array (Option Value)} {oc_Rule___init kV_Rule___init dc_Rule___init pm_Rule___init cd_Rule___init ct_Rule___init : Value}
    {tk_v_Rule_MOST_RODS : Tok}
    {rs_is_rod : List Value}
    {od_Rule_rods an_Rule_rods : Option Addr} {sl_Rule_rods : Array (Option Value)} {oc_Rule_rods kV_Rule_rods dc_Rule_rods pm_Rule_rods cd_Rule_rods ct_Rule_rods : Value}
    {od_Rule_options an_Rule_options : Option Addr} {sl_Rule_options : Array (Option Value)} {oc_Rule_options kV_Rule_options dc_Rule_options pm_Rule_options cd_Rule_options ct_Rule_options : Value}
    {od_Rule_plain an_Rule_plain : Option Addr} {sl_Rule_plain : Array (Option Value)} {oc_Rule_plain kV_Rule_plain dc_Rule_plain pm_Rule_plain cd_Rule_plain ct_Rule_plain : Value}
    {tk_NO_AIMS : Tok}
    {tk_FREE : Tok}
    {od_check_rule an_check_rule : Option Addr} {sl_check_rule : Array (Option Value)} {oc_check_rule kV_check_rule dc_check_rule pm_check_rule cd_check_rule ct_check_rule : Value}
    {od_all_options an_all_options : Option Addr} {sl_all_options : Array (Option Value)} {oc_all_options kV_all_options dc_all_options pm_all_options cd_all_options ct_all_options : Value}
    {tk_OPTIONS0 tk_OPTIONS1 tk_OPTIONS2 tk_OPTIONS3 : Tok} {od_OPTIONS : Option Addr} {n_OPTIONS : Nat} {sl_OPTIONS : Array (Option Value)}
    {od_hinge_mark an_hinge_mark : Option Addr} {sl_hinge_mark : Array (Option Value)} {oc_hinge_mark kV_hinge_mark dc_hinge_mark pm_hinge_mark cd_hinge_mark ct_hinge_mark : Value}
    {tk_STRAIGHT : Tok}
    {tk_FOLDED : Tok}
    {od_aim_mark an_aim_mark : Option Addr} {sl_aim_mark : Array (Option Value)} {oc_aim_mark kV_aim_mark dc_aim_mark pm_aim_mark cd_aim_mark ct_aim_mark : Value}
    {tk_RIGHT : Tok}
    {tk_LEFT : Tok}
    {od_written an_written : Option Addr} {sl_written : Array (Option Value)} {oc_written kV_written dc_written pm_written cd_written ct_written : Value}
    {r_Rule_rods : List Value}
    {od_law_cell an_law_cell : Option Addr} {sl_law_cell : Array (Option Value)} {oc_law_cell kV_law_cell dc_law_cell pm_law_cell cd_law_cell ct_law_cell : Value}
    {od_law_source an_law_source : Option Addr} {sl_law_source : Array (Option Value)} {oc_law_source kV_law_source dc_law_source pm_law_source cd_law_source ct_law_source : Value}
    {od_law_draw an_law_draw : Option Addr} {sl_law_draw : Array (Option Value)} {oc_law_draw kV_law_draw dc_law_draw pm_law_draw cd_law_draw ct_law_draw : Value}
    {od_law_choose an_law_choose : Option Addr} {sl_law_choose : Array (Option Value)} {oc_law_choose kV_law_choose dc_law_choose pm_law_choose cd_law_choose ct_law_choose : Value}
    {od_law_is_equal an_law_is_equal : Option Addr} {sl_law_is_equal : Array (Option Value)} {oc_law_is_equal kV_law_is_equal dc_law_is_equal pm_law_is_equal cd_law_is_equal ct_law_is_equal : Value}
    {od_law_rods an_law_rods : Option Addr} {sl_law_rods : Array (Option Value)} {oc_law_rods kV_law_rods dc_law_rods pm_law_rods cd_law_rods ct_law_rods : Value}
    {od_law_is_length an_law_is_length : Option Addr} {sl_law_is_length : Array (Option Value)} {oc_law_is_length kV_law_is_length dc_law_is_length pm_law_is_length cd_law_is_length ct_law_is_length : Value}
    {od_law_is_text an_law_is_text : Option Addr} {sl_law_is_text : Array (Option Value)} {oc_law_is_text kV_law_is_text dc_law_is_text pm_law_is_text cd_law_is_text ct_law_is_text : Value}
    {od_law_place an_law_place : Option Addr} {sl_law_place : Array (Option Value)} {oc_law_place kV_law_place dc_law_place pm_law_place cd_law_place ct_law_place : Value}
    {od_law_bent an_law_bent : Option Addr} {sl_law_bent : Array (Option Value)} {oc_law_bent kV_law_bent dc_law_bent pm_law_bent cd_law_bent ct_law_bent : Value}
    {od_law_is_right an_law_is_right : Option Addr} {sl_law_is_right : Array (Option Value)} {oc_law_is_right kV_law_is_right dc_law_is_right pm_law_is_right  ct_law_is_right : Value}
    {rs_plain : List Value}
    {od_law_outcome an_law_outcome : Option Addr} {sl_law_outcome : Array (Option Value)} {oc_law_outcome kV_law_outcome dc_law_outcome pm_law_outcome cd_law_outcome ct_law_outcome : Value}
    {od_law an_law : Option Addr} {sl_law : Array (Option Value)} {oc_law kV_law dc_law pm_law  ct_law : Value}
    (z_isinstance : PySem.W.nsIn K mainGlobals "isinstance" = some none)
    (z_int : PySem.W.nsIn K mainGlobals "int" = some none)
    (z_bool : PySem.W.nsIn K mainGlobals "bool" = some none)
    (z_len : PySem.W.nsIn K mainGlobals "len" = some none)
    (a_FIRST_DIGITS : PySem.W.nsIn K mainGlobals "FIRST_DIGITS" = some (some (.str "123456789" tk_FIRST_DIGITS)))
    (a_letter_at : PySem.W.nsIn K mainGlobals "letter_at" = some (some (.ref f_letter_at)))
    (a_DIGITS : PySem.W.nsIn K mainGlobals "DIGITS" = some (some (.str "0123456789" tk_DIGITS)))
    (z_str : PySem.W.nsIn K mainGlobals "str" = some none)
    (z_super : PySem.W.nsIn K mainGlobals "super" = some none)
    (a_TextError : PySem.W.nsIn K mainGlobals "TextError" = some (some (.ref XTextError)))
    (a_length_size : PySem.W.nsIn K mainGlobals "length_size" = some (some (.ref f_length_size)))
    (a_is_integer : PySem.W.nsIn K mainGlobals "is_integer" = some (some (.ref f_is_integer)))
    (a_Rule : PySem.W.nsIn K mainGlobals "Rule" = some (some (.ref CRule)))
    (z_all : PySem.W.nsIn K mainGlobals "all" = some none)
    (z_list : PySem.W.nsIn K mainGlobals "list" = some none)
    (a_NO_AIMS : PySem.W.nsIn K mainGlobals "NO_AIMS" = some (some (.str "" tk_NO_AIMS)))
    (a_FREE : PySem.W.nsIn K mainGlobals "FREE" = some (some (.str "-" tk_FREE)))
    (a_cut : PySem.W.nsIn K mainGlobals "cut" = some (some (.ref f_cut)))
    (a_OPTIONS : PySem.W.nsIn K mainGlobals "OPTIONS" = some (some (.ref TOPTIONS)))
    (a_STRAIGHT : PySem.W.nsIn K mainGlobals "STRAIGHT" = some (some (.str "=" tk_STRAIGHT)))
    (a_FOLDED : PySem.W.nsIn K mainGlobals "FOLDED" = some (some (.str "~" tk_FOLDED)))
    (a_RIGHT : PySem.W.nsIn K mainGlobals "RIGHT" = some (some (.str ">" tk_RIGHT)))
    (a_LEFT : PySem.W.nsIn K mainGlobals "LEFT" = some (some (.str "<" tk_LEFT)))
    (a_check_rule : PySem.W.nsIn K mainGlobals "check_rule" = some (some (.ref f_check_rule)))
    (a_all_options : PySem.W.nsIn K mainGlobals "all_options" = some (some (.ref f_all_options)))
    (z_enumerate : PySem.W.nsIn K mainGlobals "enumerate" = some none)
    (a_aim_mark : PySem.W.nsIn K mainGlobals "aim_mark" = some (some (.ref f_aim_mark)))
    (a_hinge_mark : PySem.W.nsIn K mainGlobals "hinge_mark" = some (some (.ref f_hinge_mark)))
    (z_max : PySem.W.nsIn K mainGlobals "max" = some none)
    (a_law_draw : PySem.W.nsIn K mainGlobals "_law_draw" = some (some (.ref f_law_draw)))
    (z_repr : PySem.W.nsIn K mainGlobals "repr" = some none)
    (z_range : PySem.W.nsIn K mainGlobals "range" = some none)
    (a_law_is_length : PySem.W.nsIn K mainGlobals "_law_is_length" = some (some (.ref f_law_is_length)))
    (a_law_is_text : PySem.W.nsIn K mainGlobals "_law_is_text" = some (some (.ref f_law_is_text)))
    (a_law_choose : PySem.W.nsIn K mainGlobals "_law_choose" = some (some (.ref f_law_choose)))
    (a_law_outcome : PySem.W.nsIn K mainGlobals "_law_outcome" = some (some (.ref f_law_outcome)))
    (a_law_place : PySem.W.nsIn K mainGlobals "_law_place" = some (some (.ref f_law_place)))
    (a_law_is_equal : PySem.W.nsIn K mainGlobals "_law_is_equal" = some (some (.ref f_law_is_equal)))
    (a_Held : PySem.W.nsIn K mainGlobals "Held" = some (some (.ref CHeld)))
    (a_Aimed : PySem.W.nsIn K mainGlobals "Aimed" = some (some (.ref CAimed)))
    (a_written : PySem.W.nsIn K mainGlobals "written" = some (some (.ref f_written)))
    (z_min : PySem.W.nsIn K mainGlobals "min" = some none)
    (a_law_cell : PySem.W.nsIn K mainGlobals "_law_cell" = some (some (.ref f_law_cell)))
    (a_law_source : PySem.W.nsIn K mainGlobals "_law_source" = some (some (.ref f_law_source)))
    (a_law_rods : PySem.W.nsIn K mainGlobals "_law_rods" = some (some (.ref f_law_rods)))
    (a_law_bent : PySem.W.nsIn K mainGlobals "_law_bent" = some (some (.ref f_law_bent)))
    (a_law_is_right : PySem.W.nsIn K mainGlobals "_law_is_right" = some (some (.ref f_law_is_right)))
    (a_FoldError : PySem.W.nsIn K mainGlobals "FoldError" = some (some (.ref XFoldError)))
    (a_law : PySem.W.nsIn K mainGlobals "law" = some (some (.ref f_law)))
    (xs_TextError : PySem.W.findIn K (.ref XTextError) "__setattr__" = some (some (.builtin "object.__setattr__")))
    (xp_TextError : PySem.W.findIn K (.ref XTextError) "place" = some none)
    (xi_f_TextError : PySem.W.findIn K (.ref XTextError) "__init__" = some (some (.ref f_TextError___init)))
    (fv_Rule_MOST_LENGTH : PySem.W.findCls K (.ref CRule) (.type "type") "MOST_LENGTH" = some (.val (.int 40 tk_v_Rule_MOST_LENGTH)))
    (fv_Rule_MOST_RODS : PySem.W.findCls K (.ref CRule) (.type "type") "MOST_RODS" = some (.val (.int 12 tk_v_Rule_MOST_RODS)))
    (sm_is_rod : PySem.W.findCls K (.ref CRule) (.type "type") "is_rod" = some (.get (.builtin "staticmethod.__get__") (.ref ps_is_rod) .none (.ref CRule)))
    (sa_Rule : PySem.W.findIn K (.ref CRule) "__setattr__" = some (some (.builtin "object.__setattr__")))
    (n_rods_Rule : PySem.W.findIn K (.ref CRule) "_rods" = some none)
    (sa_Held : PySem.W.findIn K (.ref CHeld) "__setattr__" = some (some (.builtin "object.__setattr__")))
    (n_rods_Held : PySem.W.findIn K (.ref CHeld) "_rods" = some none)
    (sa_Aimed : PySem.W.findIn K (.ref CAimed) "__setattr__" = some (some (.builtin "object.__setattr__")))
    (n_rods_Aimed : PySem.W.findIn K (.ref CAimed) "_rods" = some none)
    (sa_Bound : PySem.W.findIn K (.ref CRule) "__setattr__" = some (some (.builtin "object.__setattr__")))
    (n_rods_Bound : PySem.W.findIn K (.ref CRule) "_rods" = some none)
    (if_Rule : PySem.W.findIn K (.ref CRule) "__init__" = some (some (.ref f_Rule___init)))
    (hc_Rule : PySem.W.findIn K (.ref CRule) "__class__" = some (some (.builtin "object.__class__")))
    (hc_Held : PySem.W.findIn K (.ref CHeld) "__class__" = some (some (.builtin "object.__class__")))
    (hc_Aimed : PySem.W.findIn K (.ref CAimed) "__class__" = some (some (.builtin "object.__class__")))
    (mf_Rule_options : PySem.W.findIn K (.ref CRule) "options" = some (some (.ref f_Rule_options)))
    (pf_Rule_rods : PySem.W.findIn K (.ref CRule) "rods" = some (some (.ref q_Rule_rods)))
    (pf_Held_rods : PySem.W.findIn K (.ref CHeld) "rods" = some (some (.ref q_Rule_rods)))
    (pf_Aimed_rods : PySem.W.findIn K (.ref CAimed) "rods" = some (some (.ref q_Rule_rods)))
    (pf_Bound_rods : PySem.W.findIn K (.ref CRule) "rods" = some (some (.ref q_Rule_rods)))
    (sm_plain : PySem.W.findCls K (.ref CRule) (.type "type") "plain" = some (.get (.builtin "classmethod.__get__") (.ref ps_plain) .none (.ref CRule)))
    (xg_TextError : PySem.W.findIn K (.ref XTextError) "__getattribute__" = some (some (.builtin "BaseException.__getattribute__")))
    (xn_TextError : PySem.W.findIn K (.ref XTextError) "__getattr__" = some none)
    (sr_is_rod : PySem.W.recIn K ps_is_rod "staticmethod" = some (.ref f_Rule_is_rod :: rs_is_rod))
    (pr_Rule_rods : PySem.W.recIn K q_Rule_rods "property" = some (.ref f_Rule_rods :: r_Rule_rods))
    (sr_plain : PySem.W.recIn K ps_plain "classmethod" = some (.ref f_Rule_plain :: rs_plain))
    (l_is_integer : K.lookup f_is_integer = some ⟨oc_is_integer, od_is_integer, .func (PySem.W.fnOf "is_integer" "is_integer" (defArgs st_is_integer) (defBody st_is_integer) (defScope st_is_integer) .none kV_is_integer dc_is_integer pm_is_integer an_is_integer cd_is_integer ct_is_integer), sl_is_integer⟩)
    (l_letter_at : K.lookup f_letter_at = some ⟨oc_letter_at, od_letter_at, .func (PySem.W.fnOf "letter_at" "letter_at" (defArgs st_letter_at) (defBody st_letter_at) (defScope st_letter_at) .none kV_letter_at dc_letter_at pm_letter_at an_letter_at cd_letter_at ct_letter_at), sl_letter_at⟩)
    (l_length_size : K.lookup f_length_size = some ⟨oc_length_size, od_length_size, .func (PySem.W.fnOf "length_size" "length_size" (defArgs st_length_size) (defBody st_length_size) (defScope st_length_size) .none kV_length_size dc_length_size pm_length_size an_length_size cd_length_size ct_length_size), sl_length_size⟩)
    (l_cut : K.lookup f_cut = some ⟨oc_cut, od_cut, .func (PySem.W.fnOf "cut" "cut" (defArgs st_cut) (defBody st_cut) (defScope st_cut) .none kV_cut dc_cut pm_cut an_cut cd_cut ct_cut), sl_cut⟩)
    (l_TextError___init : K.lookup f_TextError___init = some ⟨oc_TextError___init, od_TextError___init, .func (PySem.W.ksFn "__init__" "TextError.__init__" (defArgs st_TextError___init) (defBody st_TextError___init) (defScope st_TextError___init) .none kV_TextError___init dc_TextError___init pm_TextError___init an_TextError___init (.ref cda_TextError___init) ct_TextError___init cc_TextError___init), sl_TextError___init⟩)
    (lc_TextError___init : K.lookup cda_TextError___init = some ⟨ccl_TextError___init, cdd_TextError___init, .fields vs_TextError___init, ccs_TextError___init⟩)
    (le_TextError___init : K.lookup cc_TextError___init = some ⟨cel_TextError___init, cld_TextError___init, .cell (some (.ref XTextError)), csl_TextError___init⟩)
    (l_Rule_is_rod : K.lookup f_Rule_is_rod = some ⟨oc_Rule_is_rod, od_Rule_is_rod, .func (PySem.W.fnOf "is_rod" "Rule.is_rod" (defArgs st_Rule_is_rod) (defBody st_Rule_is_rod) (defScope st_Rule_is_rod) .none kV_Rule_is_rod dc_Rule_is_rod pm_Rule_is_rod an_Rule_is_rod cd_Rule_is_rod ct_Rule_is_rod), sl_Rule_is_rod⟩)
    (l_Rule___init : K.lookup f_Rule___init = some ⟨oc_Rule___init, od_Rule___init, .func (PySem.W.fnOf "__init__" "Rule.__init__" (defArgs st_Rule___init) (defBody st_Rule___init) (defScope st_Rule___init) .none kV_Rule___init dc_Rule___init pm_Rule___init an_Rule___init cd_Rule___init ct_Rule___init), sl_Rule___init⟩)
    (l_Rule_rods : K.lookup f_Rule_rods = some ⟨oc_Rule_rods, od_Rule_rods, .func (PySem.W.fnOf "rods" "Rule.rods" (defArgs st_Rule_rods) (defBody st_Rule_rods) (defScope st_Rule_rods) .none kV_Rule_rods dc_Rule_rods pm_Rule_rods an_Rule_rods cd_Rule_rods ct_Rule_rods), sl_Rule_rods⟩)
    (l_Rule_options : K.lookup f_Rule_options = some ⟨oc_Rule_options, od_Rule_options, .func (PySem.W.fnOf "options" "Rule.options" (defArgs st_Rule_options) (defBody st_Rule_options) (defScope st_Rule_options) .none kV_Rule_options dc_Rule_options pm_Rule_options an_Rule_options cd_Rule_options ct_Rule_options), sl_Rule_options⟩)
    (l_Rule_plain : K.lookup f_Rule_plain = some ⟨oc_Rule_plain, od_Rule_plain, .func (PySem.W.fnOf "plain" "Rule.plain" (defArgs st_Rule_plain) (defBody st_Rule_plain) (defScope st_Rule_plain) .none kV_Rule_plain dc_Rule_plain pm_Rule_plain an_Rule_plain cd_Rule_plain ct_Rule_plain), sl_Rule_plain⟩)
    (l_check_rule : K.lookup f_check_rule = some ⟨oc_check_rule, od_check_rule, .func (PySem.W.fnOf "check_rule" "check_rule" (defArgs st_check_rule) (defBody st_check_rule) (defScope st_check_rule) .none kV_check_rule dc_check_rule pm_check_rule an_check_rule cd_check_rule ct_check_rule), sl_check_rule⟩)
    (l_all_options : K.lookup f_all_options = some ⟨oc_all_options, od_all_options, .func (PySem.W.fnOf "all_options" "all_options" (defArgs st_all_options) (defBody st_all_options) (defScope st_all_options) .none kV_all_options dc_all_options pm_all_options an_all_options cd_all_options ct_all_options), sl_all_options⟩)
    (l_OPTIONS : K.lookup TOPTIONS = some ⟨.type "tuple", od_OPTIONS, .seq #[.str "straight" tk_OPTIONS0, .str "folded" tk_OPTIONS1, .str "right" tk_OPTIONS2, .str "left" tk_OPTIONS3] n_OPTIONS, sl_OPTIONS⟩)
    (l_hinge_mark : K.lookup f_hinge_mark = some ⟨oc_hinge_mark, od_hinge_mark, .func (PySem.W.fnOf "hinge_mark" "hinge_mark" (defArgs st_hinge_mark) (defBody st_hinge_mark) (defScope st_hinge_mark) .none kV_hinge_mark dc_hinge_mark pm_hinge_mark an_hinge_mark cd_hinge_mark ct_hinge_mark), sl_hinge_mark⟩)
    (l_aim_mark : K.lookup f_aim_mark = some ⟨oc_aim_mark, od_aim_mark, .func (PySem.W.fnOf "aim_mark" "aim_mark" (defArgs st_aim_mark) (defBody st_aim_mark) (defScope st_aim_mark) .none kV_aim_mark dc_aim_mark pm_aim_mark an_aim_mark cd_aim_mark ct_aim_mark), sl_aim_mark⟩)
    (l_written : K.lookup f_written = some ⟨oc_written, od_written, .func (PySem.W.fnOf "written" "written" (defArgs st_written) (defBody st_written) (defScope st_written) .none kV_written dc_written pm_written an_written cd_written ct_written), sl_written⟩)
    (l_law_cell : K.lookup f_law_cell = some ⟨oc_law_cell, od_law_cell, .func (PySem.W.fnOf "_law_cell" "_law_cell" (defArgs st_law_cell) (defBody st_law_cell) (defScope st_law_cell) .none kV_law_cell dc_law_cell pm_law_cell an_law_cell cd_law_cell ct_law_cell), sl_law_cell⟩)
    (l_law_source : K.lookup f_law_source = some ⟨oc_law_source, od_law_source, .func (PySem.W.fnOf "_law_source" "_law_source" (defArgs st_law_source) (defBody st_law_source) (defScope st_law_source) .none kV_law_source dc_law_source pm_law_source an_law_source cd_law_source ct_law_source), sl_law_source⟩)
    (l_law_draw : K.lookup f_law_draw = some ⟨oc_law_draw, od_law_draw, .func (PySem.W.fnOf "_law_draw" "_law_draw" (defArgs st_law_draw) (defBody st_law_draw) (defScope st_law_draw) .none kV_law_draw dc_law_draw pm_law_draw an_law_draw cd_law_draw ct_law_draw), sl_law_draw⟩)
    (l_law_choose : K.lookup f_law_choose = some ⟨oc_law_choose, od_law_choose, .func (PySem.W.fnOf "_law_choose" "_law_choose" (defArgs st_law_choose) (defBody st_law_choose) (defScope st_law_choose) .none kV_law_choose dc_law_choose pm_law_choose an_law_choose cd_law_choose ct_law_choose), sl_law_choose⟩)
    (l_law_is_equal : K.lookup f_law_is_equal = some ⟨oc_law_is_equal, od_law_is_equal, .func (PySem.W.fnOf "_law_is_equal" "_law_is_equal" (defArgs st_law_is_equal) (defBody st_law_is_equal) (defScope st_law_is_equal) .none kV_law_is_equal dc_law_is_equal pm_law_is_equal an_law_is_equal cd_law_is_equal ct_law_is_equal), sl_law_is_equal⟩)
    (l_law_rods : K.lookup f_law_rods = some ⟨oc_law_rods, od_law_rods, .func (PySem.W.fnOf "_law_rods" "_law_rods" (defArgs st_law_rods) (defBody st_law_rods) (defScope st_law_rods) .none kV_law_rods dc_law_rods pm_law_rods an_law_rods cd_law_rods ct_law_rods), sl_law_rods⟩)
    (l_law_is_length : K.lookup f_law_is_length = some ⟨oc_law_is_length, od_law_is_length, .func (PySem.W.fnOf "_law_is_length" "_law_is_length" (defArgs st_law_is_length) (defBody st_law_is_length) (defScope st_law_is_length) .none kV_law_is_length dc_law_is_length pm_law_is_length an_law_is_length cd_law_is_length ct_law_is_length), sl_law_is_length⟩)
    (l_law_is_text : K.lookup f_law_is_text = some ⟨oc_law_is_text, od_law_is_text, .func (PySem.W.fnOf "_law_is_text" "_law_is_text" (defArgs st_law_is_text) (defBody st_law_is_text) (defScope st_law_is_text) .none kV_law_is_text dc_law_is_text pm_law_is_text an_law_is_text cd_law_is_text ct_law_is_text), sl_law_is_text⟩)
    (l_law_place : K.lookup f_law_place = some ⟨oc_law_place, od_law_place, .func (PySem.W.fnOf "_law_place" "_law_place" (defArgs st_law_place) (defBody st_law_place) (defScope st_law_place) .none kV_law_place dc_law_place pm_law_place an_law_place cd_law_place ct_law_place), sl_law_place⟩)
    (l_law_bent : K.lookup f_law_bent = some ⟨oc_law_bent, od_law_bent, .func (PySem.W.fnOf "_law_bent" "_law_bent" (defArgs st_law_bent) (defBody st_law_bent) (defScope st_law_bent) .none kV_law_bent dc_law_bent pm_law_bent an_law_bent cd_law_bent ct_law_bent), sl_law_bent⟩)
    (l_law_is_right : K.lookup f_law_is_right = some ⟨oc_law_is_right, od_law_is_right, .func (PySem.W.fnOf "_law_is_right" "_law_is_right" (defArgs st_law_is_right) (defBody st_law_is_right) (defScope st_law_is_right) .none kV_law_is_right dc_law_is_right pm_law_is_right an_law_is_right (.ref cd_law_is_right) ct_law_is_right), sl_law_is_right⟩)
    (l_law_outcome : K.lookup f_law_outcome = some ⟨oc_law_outcome, od_law_outcome, .func (PySem.W.fnOf "_law_outcome" "_law_outcome" (defArgs st_law_outcome) (defBody st_law_outcome) (defScope st_law_outcome) .none kV_law_outcome dc_law_outcome pm_law_outcome an_law_outcome cd_law_outcome ct_law_outcome), sl_law_outcome⟩)
    (l_law : K.lookup f_law = some ⟨oc_law, od_law, .func (PySem.W.fnOf "law" "law" (defArgs st_law) (defBody st_law) (defScope st_law) .none kV_law dc_law pm_law an_law (.ref cd_law) ct_law), sl_law⟩)
    (c_is_integer : PySem.W.codeIn K cd_is_integer "is_integer" = true)
    (k_is_integer : PySem.W.keepIn K (.ref f_is_integer) = true)
    (c_letter_at : PySem.W.codeIn K cd_letter_at "letter_at" = true)
    (k_letter_at : PySem.W.keepIn K (.ref f_letter_at) = true)
    (c_length_size : PySem.W.codeIn K cd_length_size "length_size" = true)
    (k_length_size : PySem.W.keepIn K (.ref f_length_size) = true)
    (c_cut : PySem.W.codeIn K cd_cut "cut" = true)
    (k_cut : PySem.W.keepIn K (.ref f_cut) = true)
    (uf : ((P.main.file : Str) == ("/claim/cut.py" : Str)) = true)
    (ut : (P.main.scope.names.lookup ("super" : Str)).isSome = false)
    (c_TextError___init : PySem.W.codeIn K (.ref cda_TextError___init) "TextError.__init__" = true)
    (k_TextError___init : PySem.W.keepIn K (.ref f_TextError___init) = true)
    (lv_TextError___init : vs_TextError___init[2]? = some (.str "/claim/cut.py" tf_TextError___init))
    (xo_TextError : oexB K XTextError = true)
    (bE_TextError : PySem.W.subIn K (.ref XTextError) (.type "BaseException") = some true)
    (tC_TextError : PySem.W.typeIn K (.ref XTextError) = some (.type "type"))
    (kE_TextError : PySem.W.keepIn K (.ref XTextError) = true)
    (xu_TextError : PySem.W.ks_superIn K XTextError XTextError "__init__" = some (some (.builtin "ValueError.__init__")))
    (xm_TextError : PySem.W.mroIn K XTextError (.ref XTextError) = some true)
    (xc_TextError : (PySem.W.clsIn K XTextError).isSome = true)
    (xt_any : PySem.W.nsIn K cStatics "thirdparty.any" = some none)
    (xv_TextError : PySem.W.subIn K (.ref XTextError) (.type "ValueError") = some true)
    (xi_t_TextError : PySem.W.typeIn K (.ref f_TextError___init) = some (.type "function"))
    (c_Rule_is_rod : PySem.W.codeIn K cd_Rule_is_rod "Rule.is_rod" = true)
    (k_Rule_is_rod : PySem.W.keepIn K (.ref f_Rule_is_rod) = true)
    (rd_Rule : PySem.W.readsIn K CRule (.type "type") = true)
    (sp_Rule : PySem.W.specialIn K (.ref CRule) "__getattribute__" = some (some (.builtin "type.__getattribute__")))
    (c_Rule___init : PySem.W.codeIn K cd_Rule___init "Rule.__init__" = true)
    (k_Rule___init : PySem.W.keepIn K (.ref f_Rule___init) = true)
    (pg_Rule : PySem.W.plainGet K CRule Str.empty = true)
    (hd_Rule : PySem.W.hasDictIn K CRule = true)
    (po_Rule : PySem.W.plainOver K CRule = true)
    (pg_Held : PySem.W.plainGet K CHeld Str.empty = true)
    (hd_Held : PySem.W.hasDictIn K CHeld = true)
    (po_Held : PySem.W.plainOver K CHeld = true)
    (pg_Aimed : PySem.W.plainGet K CAimed Str.empty = true)
    (hd_Aimed : PySem.W.hasDictIn K CAimed = true)
    (po_Aimed : PySem.W.plainOver K CAimed = true)
    (pg_Bound : PySem.W.plainGet K CRule Str.empty = true)
    (hd_Bound : PySem.W.hasDictIn K CRule = true)
    (po_Bound : PySem.W.plainOver K CRule = true)
    (c_Rule_rods : PySem.W.codeIn K cd_Rule_rods "Rule.rods" = true)
    (k_Rule_rods : PySem.W.keepIn K (.ref f_Rule_rods) = true)
    (c_Rule_options : PySem.W.codeIn K cd_Rule_options "Rule.options" = true)
    (k_Rule_options : PySem.W.keepIn K (.ref f_Rule_options) = true)
    (c_Rule_plain : PySem.W.codeIn K cd_Rule_plain "Rule.plain" = true)
    (k_Rule_plain : PySem.W.keepIn K (.ref f_Rule_plain) = true)
    (mk_Rule : PySem.W.makesIn K CRule = true)
    (j_Rule___init : PySem.W.isFn K (.ref f_Rule___init) = true)
    (kC_Rule : PySem.W.keepIn K (.ref CRule) = true)
    (c_check_rule : PySem.W.codeIn K cd_check_rule "check_rule" = true)
    (k_check_rule : PySem.W.keepIn K (.ref f_check_rule) = true)
    (iC_Rule : PySem.W.isClsIn K CRule = true)
    (tC_Rule : PySem.W.typeIn K (.ref CRule) = some (.type "type"))
    (s_non_Rule : PySem.W.subIn K (.type "NoneType") (.ref CRule) = some false)
    (s_bl_Rule : PySem.W.subIn K (.type "bool") (.ref CRule) = some false)
    (s_int_Rule : PySem.W.subIn K (.type "int") (.ref CRule) = some false)
    (s_str_Rule : PySem.W.subIn K (.type "str") (.ref CRule) = some false)
    (s_lst_Rule : PySem.W.subIn K (.type "list") (.ref CRule) = some false)
    (s_tup_Rule : PySem.W.subIn K (.type "tuple") (.ref CRule) = some false)
    (s_dct_Rule : PySem.W.subIn K (.type "dict") (.ref CRule) = some false)
    (hcn : PySem.W.specialIn K (.builtin "object.__class__") "__get__" = some (some (.builtin "getset_descriptor.__get__")))
    (hct : PySem.W.takesIn K (.builtin "object.__class__") = some true)
    (hm_Rule : PySem.W.mroIn K CRule (.type "object") = some true)
    (s_Held_Rule : PySem.W.subIn K (.ref CHeld) (.ref CRule) = some true)
    (hm_Held : PySem.W.mroIn K CHeld (.type "object") = some true)
    (s_Aimed_Rule : PySem.W.subIn K (.ref CAimed) (.ref CRule) = some true)
    (hm_Aimed : PySem.W.mroIn K CAimed (.type "object") = some true)
    (c_all_options : PySem.W.codeIn K cd_all_options "all_options" = true)
    (k_all_options : PySem.W.keepIn K (.ref f_all_options) = true)
    (j_Rule_options : PySem.W.isFn K (.ref f_Rule_options) = true)
    (c_hinge_mark : PySem.W.codeIn K cd_hinge_mark "hinge_mark" = true)
    (k_hinge_mark : PySem.W.keepIn K (.ref f_hinge_mark) = true)
    (c_aim_mark : PySem.W.codeIn K cd_aim_mark "aim_mark" = true)
    (k_aim_mark : PySem.W.keepIn K (.ref f_aim_mark) = true)
    (c_written : PySem.W.codeIn K cd_written "written" = true)
    (k_written : PySem.W.keepIn K (.ref f_written) = true)
    (pg_Rule_rods_ : PySem.W.specialIn K (.ref q_Rule_rods) "__get__" = some (some (.builtin "property.__get__")))
    (pt_Rule_rods : PySem.W.takesIn K (.ref q_Rule_rods) = some true)
    (c_law_cell : PySem.W.codeIn K cd_law_cell "_law_cell" = true)
    (k_law_cell : PySem.W.keepIn K (.ref f_law_cell) = true)
    (c_law_source : PySem.W.codeIn K cd_law_source "_law_source" = true)
    (k_law_source : PySem.W.keepIn K (.ref f_law_source) = true)
    (c_law_draw : PySem.W.codeIn K cd_law_draw "_law_draw" = true)
    (k_law_draw : PySem.W.keepIn K (.ref f_law_draw) = true)
    (c_law_choose : PySem.W.codeIn K cd_law_choose "_law_choose" = true)
    (k_law_choose : PySem.W.keepIn K (.ref f_law_choose) = true)
    (c_law_is_equal : PySem.W.codeIn K cd_law_is_equal "_law_is_equal" = true)
    (k_law_is_equal : PySem.W.keepIn K (.ref f_law_is_equal) = true)
    (c_law_rods : PySem.W.codeIn K cd_law_rods "_law_rods" = true)
    (k_law_rods : PySem.W.keepIn K (.ref f_law_rods) = true)
    (c_law_is_length : PySem.W.codeIn K cd_law_is_length "_law_is_length" = true)
    (k_law_is_length : PySem.W.keepIn K (.ref f_law_is_length) = true)
    (c_law_is_text : PySem.W.codeIn K cd_law_is_text "_law_is_text" = true)
    (k_law_is_text : PySem.W.keepIn K (.ref f_law_is_text) = true)
    (c_law_place : PySem.W.codeIn K cd_law_place "_law_place" = true)
    (k_law_place : PySem.W.keepIn K (.ref f_law_place) = true)
    (c_law_bent : PySem.W.codeIn K cd_law_bent "_law_bent" = true)
    (k_law_bent : PySem.W.keepIn K (.ref f_law_bent) = true)
    (c_law_is_right : PySem.W.codeIn K (.ref cd_law_is_right) "_law_is_right" = true)
    (k_law_is_right : PySem.W.keepIn K (.ref f_law_is_right) = true)
    (fi_Rule_plain : PySem.W.fnIn K f_Rule_plain = true)
    (sx_TextError_TextError : PySem.W.subIn K (.ref XTextError) (.ref XTextError) = some true)
    (iC_TextError : PySem.W.isClsIn K XTextError = true)
    (c_law_outcome : PySem.W.codeIn K cd_law_outcome "_law_outcome" = true)
    (k_law_outcome : PySem.W.keepIn K (.ref f_law_outcome) = true)
    (hd_TextError : PySem.W.hasDictIn K XTextError = true)
    (iC_Held : PySem.W.isClsIn K CHeld = true)
    (tC_Held : PySem.W.typeIn K (.ref CHeld) = some (.type "type"))
    (s_non_Held : PySem.W.subIn K (.type "NoneType") (.ref CHeld) = some false)
    (s_bl_Held : PySem.W.subIn K (.type "bool") (.ref CHeld) = some false)
    (s_int_Held : PySem.W.subIn K (.type "int") (.ref CHeld) = some false)
    (s_str_Held : PySem.W.subIn K (.type "str") (.ref CHeld) = some false)
    (s_lst_Held : PySem.W.subIn K (.type "list") (.ref CHeld) = some false)
    (s_tup_Held : PySem.W.subIn K (.type "tuple") (.ref CHeld) = some false)
    (s_dct_Held : PySem.W.subIn K (.type "dict") (.ref CHeld) = some false)
    (s_Rule_Held : PySem.W.subIn K (.ref CRule) (.ref CHeld) = some false)
    (s_Aimed_Held : PySem.W.subIn K (.ref CAimed) (.ref CHeld) = some false)
    (iC_Aimed : PySem.W.isClsIn K CAimed = true)
    (tC_Aimed : PySem.W.typeIn K (.ref CAimed) = some (.type "type"))
    (s_non_Aimed : PySem.W.subIn K (.type "NoneType") (.ref CAimed) = some false)
    (s_bl_Aimed : PySem.W.subIn K (.type "bool") (.ref CAimed) = some false)
    (s_int_Aimed : PySem.W.subIn K (.type "int") (.ref CAimed) = some false)
    (s_str_Aimed : PySem.W.subIn K (.type "str") (.ref CAimed) = some false)
    (s_lst_Aimed : PySem.W.subIn K (.type "list") (.ref CAimed) = some false)
    (s_tup_Aimed : PySem.W.subIn K (.type "tuple") (.ref CAimed) = some false)
    (s_dct_Aimed : PySem.W.subIn K (.type "dict") (.ref CAimed) = some false)
    (s_Rule_Aimed : PySem.W.subIn K (.ref CRule) (.ref CAimed) = some false)
    (s_Held_Aimed : PySem.W.subIn K (.ref CHeld) (.ref CAimed) = some false)
    (c_law : PySem.W.codeIn K (.ref cd_law) "law" = true)
    (k_law : PySem.W.keepIn K (.ref f_law) = true)
    (bE_FoldError : PySem.W.subIn K (.ref XFoldError) (.type "BaseException") = some true)
    (sx_TextError_FoldError : PySem.W.subIn K (.ref XTextError) (.ref XFoldError) = some true)
    (iC_FoldError : PySem.W.isClsIn K XFoldError = true)
    (tC_FoldError : PySem.W.typeIn K (.ref XFoldError) = some (.type "type"))
    (hPne : Pt1 ≠ Pt0)
    (d_Held_Rule : CHeld ≠ CRule)
    (d_Aimed_Rule : CAimed ≠ CRule)
    (d_Rule_Held : CRule ≠ CHeld)
    (d_Aimed_Held : CAimed ≠ CHeld)
    (d_Rule_Aimed : CRule ≠ CAimed)
    (d_Held_Aimed : CHeld ≠ CAimed)
    (hφ : ∀ ns : List Int, ns.length ≤ 63 → ∃ bk, φ_law [(false, .scr (ns.map M7.D.int))] = .ret false (.bl true) bk) :
    ∃ fd : FuncData, (∀ (s : Shared) (u : Value), BindsTo s fd ⟨[u], []⟩ [("_law_script", u)]) ∧ ∀ base : Heap, K.In base → base.Ns mainGlobals mg → R7.SysB base → (∀ p ∈ [(cd_law_is_right, Pt0), (cd_law, Pt1)], LamX.TabB base mg p.1 p.2) → R7.FnG P wl K mg base CX0 9 f_law fd ["_law_script"] (R7.spEndT K [(Pt0, qn_right), (Pt1, qn_law)]) := by
  refine ⟨PySem.W.fnOf "law" "law" (defArgs st_law) (defBody st_law) (defScope st_law) .none kV_law dc_law pm_law an_law (.ref cd_law) ct_law, fun s v => .of_eq rfl, fun base hK hG hS hTB => ?_⟩
  have m_isinstance : mg "isinstance" = none := PySem.W.mg_none_of X G z_isinstance
  have m_int : mg "int" = none := PySem.W.mg_none_of X G z_int
  have m_bool : mg "bool" = none := PySem.W.mg_none_of X G z_bool
  have D_is_integer := def_is_integer (w := (wdOf K CRule CHeld CAimed CRule XTextError XFoldError Pt0 Pt1)) (P := P) (wl := wl) (mg := mg) (base := base) (fun_mk (st := st_is_integer) l_is_integer c_is_integer k_is_integer) m_isinstance m_int m_bool
  have m_len : mg "len" = none := PySem.W.mg_none_of X G z_len
  have D_letter_at := def_letter_at (w := (wdOf K CRule CHeld CAimed CRule XTextError XFoldError Pt0 Pt1)) (P := P) (wl := wl) (mg := mg) (base := base) (fun_mk (st := st_letter_at) l_letter_at c_letter_at k_letter_at) m_len
  have g_FIRST_DIGITS : Gcn (wdOf K CRule CHeld CAimed CRule XTextError XFoldError Pt0 Pt1) mg "FIRST_DIGITS" (.str "123456789") := ⟨.str "123456789", _, PySem.W.mg_of X G a_FIRST_DIGITS, ⟨tk_FIRST_DIGITS, rfl⟩, fun _ => .str _⟩
  have c_letter_at : Cal P wl mg base (wdOf K CRule CHeld CAimed CRule XTextError XFoldError Pt0 Pt1) false false 1 "letter_at" φ_letter_at := ⟨f_letter_at, D_letter_at, PySem.W.mg_of X G a_letter_at⟩
  have g_DIGITS : Gcn (wdOf K CRule CHeld CAimed CRule XTextError XFoldError Pt0 Pt1) mg "DIGITS" (.str "0123456789") := ⟨.str "0123456789", _, PySem.W.mg_of X G a_DIGITS, ⟨tk_DIGITS, rfl⟩, fun _ => .str _⟩
  have D_length_size := def_length_size (w := (wdOf K CRule CHeld CAimed CRule XTextError XFoldError Pt0 Pt1)) (P := P) (wl := wl) (mg := mg) (base := base) (fun_mk (st := st_length_size) l_length_size c_length_size k_length_size) g_FIRST_DIGITS c_letter_at g_DIGITS m_int
  have m_str : mg "str" = none := PySem.W.mg_none_of X G z_str
  have u_super : SupX P mg "/claim/cut.py" := ⟨uf, ut, PySem.W.mg_none_of X G z_super⟩
  have xi_TextError : ExnI P wl mg base (wdOf K CRule CHeld CAimed CRule XTextError XFoldError Pt0 Pt1) 1 "TextError" .text "place" okVI := exn_TextError (w := (wdOf K CRule CHeld CAimed CRule XTextError XFoldError Pt0 Pt1)) ⟨⟨_, _, _, _, _, _, _, _, _, _, _, _, _, _, _, _, _, _, rfl, l_TextError___init, c_TextError___init, lc_TextError___init, lv_TextError___init, le_TextError___init⟩, k_TextError___init⟩ u_super ⟨xu_TextError, xm_TextError, xc_TextError, xt_any, xv_TextError, (oexC_mk xo_TextError xs_TextError bE_TextError tC_TextError kE_TextError)⟩ xp_TextError xi_f_TextError xi_t_TextError (PySem.W.mg_of X G a_TextError) (by simp [wdOf])
  have c_length_size : Cal P wl mg base (wdOf K CRule CHeld CAimed CRule XTextError XFoldError Pt0 Pt1) false false 2 "length_size" φ_length_size := ⟨f_length_size, D_length_size, PySem.W.mg_of X G a_length_size⟩
  have D_cut := def_cut (w := (wdOf K CRule CHeld CAimed CRule XTextError XFoldError Pt0 Pt1)) (P := P) (wl := wl) (mg := mg) (base := base) (fun_mk (st := st_cut) l_cut c_cut k_cut) m_isinstance m_str xi_TextError c_length_size m_int c_letter_at m_len
  have c_is_integer : Cal P wl mg base (wdOf K CRule CHeld CAimed CRule XTextError XFoldError Pt0 Pt1) false false 1 "is_integer" φ_is_integer := ⟨f_is_integer, D_is_integer, PySem.W.mg_of X G a_is_integer⟩
  have v_Rule_MOST_LENGTH : CVl (wdOf K CRule CHeld CAimed CRule XTextError XFoldError Pt0 Pt1) mg "Rule" .rule "MOST_LENGTH" (.int 40) := ⟨.type "type", .int 40, .int 40 tk_v_Rule_MOST_LENGTH, PySem.W.mg_of X G a_Rule, ⟨rd_Rule, sp_Rule⟩, ⟨fv_Rule_MOST_LENGTH, tk_v_Rule_MOST_LENGTH, rfl⟩, fun _ => .int _⟩
  have D_Rule_is_rod := def_Rule_is_rod (w := (wdOf K CRule CHeld CAimed CRule XTextError XFoldError Pt0 Pt1)) (P := P) (wl := wl) (mg := mg) (base := base) (fun_mk (st := st_Rule_is_rod) l_Rule_is_rod c_Rule_is_rod k_Rule_is_rod) c_is_integer v_Rule_MOST_LENGTH
  have v_Rule_MOST_RODS : CVl (wdOf K CRule CHeld CAimed CRule XTextError XFoldError Pt0 Pt1) mg "Rule" .rule "MOST_RODS" (.int 12) := ⟨.type "type", .int 12, .int 12 tk_v_Rule_MOST_RODS, PySem.W.mg_of X G a_Rule, ⟨rd_Rule, sp_Rule⟩, ⟨fv_Rule_MOST_RODS, tk_v_Rule_MOST_RODS, rfl⟩, fun _ => .int _⟩
  have s_Rule_is_rod : Stc P wl mg base (wdOf K CRule CHeld CAimed CRule XTextError XFoldError Pt0 Pt1) false 2 "Rule" "is_rod" .rule φ_Rule_is_rod := ⟨.type "type", ps_is_rod, f_Rule_is_rod, PySem.W.mg_of X G a_Rule, ⟨rd_Rule, sp_Rule⟩, ⟨sm_is_rod, ⟨_, sr_is_rod⟩, k_Rule_is_rod⟩, D_Rule_is_rod⟩
  have m_all : mg "all" = none := PySem.W.mg_none_of X G z_all
  have cl_Rule : Cls K CRule := ⟨pg_Rule, hd_Rule, po_Rule, sa_Rule⟩
  have cl_Held : Cls K CHeld := ⟨pg_Held, hd_Held, po_Held, sa_Held⟩
  have cl_Aimed : Cls K CAimed := ⟨pg_Aimed, hd_Aimed, po_Aimed, sa_Aimed⟩
  have cl_Bound : Cls K CRule := ⟨pg_Bound, hd_Bound, po_Bound, sa_Bound⟩
  have a_rods : NoA (wdOf K CRule CHeld CAimed CRule XTextError XFoldError Pt0 Pt1) isRule "_rods" := fun c hc => match c, hc with | .rule, _ => ⟨cl_Rule, n_rods_Rule⟩ | .held, _ => ⟨cl_Held, n_rods_Held⟩ | .aimed, _ => ⟨cl_Aimed, n_rods_Aimed⟩ | .bound, _ => ⟨cl_Bound, n_rods_Bound⟩ | .folding, z => by cases z | .hand, z => by cases z | .cn6, z => by cases z | .cn7, z => by cases z
  have I_Rule___init_ := init_Rule___init_ (w := (wdOf K CRule CHeld CAimed CRule XTextError XFoldError Pt0 Pt1)) (P := P) (wl := wl) (mg := mg) (base := base) (kws := []) ⟨⟨_, _, _, _, _, _, _, _, _, _, rfl, l_Rule___init, c_Rule___init, .inl ⟨rfl, rfl⟩, .inl rfl⟩, k_Rule___init⟩ m_len v_Rule_MOST_RODS s_Rule_is_rod m_all a_rods
  have m_list : mg "list" = none := PySem.W.mg_none_of X G z_list
  have D_Rule_rods := def_Rule_rods (w := (wdOf K CRule CHeld CAimed CRule XTextError XFoldError Pt0 Pt1)) (P := P) (wl := wl) (mg := mg) (base := base) (fun_mk (st := st_Rule_rods) l_Rule_rods c_Rule_rods k_Rule_rods) a_rods m_list
  have D_Rule_options := def_Rule_options (w := (wdOf K CRule CHeld CAimed CRule XTextError XFoldError Pt0 Pt1)) (P := P) (wl := wl) (mg := mg) (base := base) (fun_mk (st := st_Rule_options) l_Rule_options c_Rule_options k_Rule_options) 
  have g_NO_AIMS : Gcn (wdOf K CRule CHeld CAimed CRule XTextError XFoldError Pt0 Pt1) mg "NO_AIMS" (.str "") := ⟨.str "", _, PySem.W.mg_of X G a_NO_AIMS, ⟨tk_NO_AIMS, rfl⟩, fun _ => .str _⟩
  have g_FREE : Gcn (wdOf K CRule CHeld CAimed CRule XTextError XFoldError Pt0 Pt1) mg "FREE" (.str "-") := ⟨.str "-", _, PySem.W.mg_of X G a_FREE, ⟨tk_FREE, rfl⟩, fun _ => .str _⟩
  have c_cut : Cal P wl mg base (wdOf K CRule CHeld CAimed CRule XTextError XFoldError Pt0 Pt1) false true 3 "cut" φ_cut := ⟨f_cut, D_cut, PySem.W.mg_of X G a_cut⟩
  have k_Rule_ : Mak P wl mg base (wdOf K CRule CHeld CAimed CRule XTextError XFoldError Pt0 Pt1) false 3 .rule [] φ_Rule___init id := ⟨f_Rule___init, id, ⟨mk_Rule, if_Rule, j_Rule___init, kC_Rule⟩, I_Rule___init_, gv_id⟩
  have D_Rule_plain := def_Rule_plain (w := (wdOf K CRule CHeld CAimed CRule XTextError XFoldError Pt0 Pt1)) (P := P) (wl := wl) (mg := mg) (base := base) (fun_mk (st := st_Rule_plain) l_Rule_plain c_Rule_plain k_Rule_plain) g_NO_AIMS g_FREE v_Rule_MOST_LENGTH v_Rule_MOST_RODS c_cut k_Rule_
  have gm_Rule : mg "Rule" = some (.ref CRule) := PySem.W.mg_of X G a_Rule
  have ci_Rule : ClsI K CRule := ⟨cl_Rule, hc_Rule, hcn, hct, hm_Rule⟩
  have ci_Held : ClsI K CHeld := ⟨cl_Held, hc_Held, hcn, hct, hm_Held⟩
  have ci_Aimed : ClsI K CAimed := ⟨cl_Aimed, hc_Aimed, hcn, hct, hm_Aimed⟩
  have i_Rule : IsiF (wdOf K CRule CHeld CAimed CRule XTextError XFoldError Pt0 Pt1) (.ref CRule) (tCls (onRules true true true true)) := by
    intro k b h
    cases k with
    | non => cases h; exact ⟨kit_tref (kit_ref iC_Rule tC_Rule s_non_Rule), fun _ z => nomatch z⟩
    | bl => cases h; exact ⟨kit_tref (kit_ref iC_Rule tC_Rule s_bl_Rule), fun _ z => nomatch z⟩
    | int => cases h; exact ⟨kit_tref (kit_ref iC_Rule tC_Rule s_int_Rule), fun _ z => nomatch z⟩
    | str => cases h; exact ⟨kit_tref (kit_ref iC_Rule tC_Rule s_str_Rule), fun _ z => nomatch z⟩
    | lst => cases h; exact ⟨kit_tref (kit_ref iC_Rule tC_Rule s_lst_Rule), fun _ z => nomatch z⟩
    | tup => cases h; exact ⟨kit_tref (kit_ref iC_Rule tC_Rule s_tup_Rule), fun _ z => nomatch z⟩
    | dct => cases h; exact ⟨kit_tref (kit_ref iC_Rule tC_Rule s_dct_Rule), fun _ z => nomatch z⟩
    | obj c => cases c with
      | rule => cases h; exact ⟨kit_same, fun _ z => by cases z; exact ci_Rule⟩
      | held => cases h; exact ⟨kit_ne d_Held_Rule (kit_ref iC_Rule tC_Rule s_Held_Rule), fun _ z => by cases z; exact ci_Held⟩
      | aimed => cases h; exact ⟨kit_ne d_Aimed_Rule (kit_ref iC_Rule tC_Rule s_Aimed_Rule), fun _ z => by cases z; exact ci_Aimed⟩
      | bound => cases h; exact ⟨kit_same, fun _ z => by cases z; exact ci_Rule⟩
      | _ => cases h
  have D_check_rule := def_check_rule (w := (wdOf K CRule CHeld CAimed CRule XTextError XFoldError Pt0 Pt1)) (P := P) (wl := wl) (mg := mg) (base := base) (fun_mk (st := st_check_rule) l_check_rule c_check_rule k_check_rule) m_isinstance gm_Rule i_Rule
  have o_options : Mets P wl mg base (wdOf K CRule CHeld CAimed CRule XTextError XFoldError Pt0 Pt1) false false 1 "options" tb_options := by
    refine ⟨fun c φ h => ?_⟩
    cases c with
    | rule => cases h; exact ⟨cl_Rule, f_Rule_options, ⟨mf_Rule_options, j_Rule_options, k_Rule_options⟩, D_Rule_options.mono⟩
    | _ => cases h
  have g_OPTIONS : Gcn (wdOf K CRule CHeld CAimed CRule XTextError XFoldError Pt0 Pt1) mg "OPTIONS" (.tup [.str "straight", .str "folded", .str "right", .str "left"]) := ⟨.ref TOPTIONS, _, PySem.W.mg_of X G a_OPTIONS, rfl, fun _ => .tup (xs := [V.str "straight", V.str "folded", V.str "right", V.str "left"]) (.inr ⟨_, _, _, l_OPTIONS, rfl, rfl, (by show 4 ≤ sizeLine; decide), .cons ⟨tk_OPTIONS0, rfl⟩ (.cons ⟨tk_OPTIONS1, rfl⟩ (.cons ⟨tk_OPTIONS2, rfl⟩ (.cons ⟨tk_OPTIONS3, rfl⟩ .nil)))⟩) (.cons (.str _) (.cons (.str _) (.cons (.str _) (.cons (.str _) (.nil)))))⟩
  have D_all_options := def_all_options (w := (wdOf K CRule CHeld CAimed CRule XTextError XFoldError Pt0 Pt1)) (P := P) (wl := wl) (mg := mg) (base := base) (fun_mk (st := st_all_options) l_all_options c_all_options k_all_options) o_options g_OPTIONS
  have g_STRAIGHT : Gcn (wdOf K CRule CHeld CAimed CRule XTextError XFoldError Pt0 Pt1) mg "STRAIGHT" (.str "=") := ⟨.str "=", _, PySem.W.mg_of X G a_STRAIGHT, ⟨tk_STRAIGHT, rfl⟩, fun _ => .str _⟩
  have g_FOLDED : Gcn (wdOf K CRule CHeld CAimed CRule XTextError XFoldError Pt0 Pt1) mg "FOLDED" (.str "~") := ⟨.str "~", _, PySem.W.mg_of X G a_FOLDED, ⟨tk_FOLDED, rfl⟩, fun _ => .str _⟩
  have D_hinge_mark := def_hinge_mark (w := (wdOf K CRule CHeld CAimed CRule XTextError XFoldError Pt0 Pt1)) (P := P) (wl := wl) (mg := mg) (base := base) (fun_mk (st := st_hinge_mark) l_hinge_mark c_hinge_mark k_hinge_mark) g_STRAIGHT g_FOLDED g_FREE
  have g_RIGHT : Gcn (wdOf K CRule CHeld CAimed CRule XTextError XFoldError Pt0 Pt1) mg "RIGHT" (.str ">") := ⟨.str ">", _, PySem.W.mg_of X G a_RIGHT, ⟨tk_RIGHT, rfl⟩, fun _ => .str _⟩
  have g_LEFT : Gcn (wdOf K CRule CHeld CAimed CRule XTextError XFoldError Pt0 Pt1) mg "LEFT" (.str "<") := ⟨.str "<", _, PySem.W.mg_of X G a_LEFT, ⟨tk_LEFT, rfl⟩, fun _ => .str _⟩
  have D_aim_mark := def_aim_mark (w := (wdOf K CRule CHeld CAimed CRule XTextError XFoldError Pt0 Pt1)) (P := P) (wl := wl) (mg := mg) (base := base) (fun_mk (st := st_aim_mark) l_aim_mark c_aim_mark k_aim_mark) g_RIGHT g_LEFT
  have c_check_rule : Cal P wl mg base (wdOf K CRule CHeld CAimed CRule XTextError XFoldError Pt0 Pt1) false false 1 "check_rule" φ_check_rule := ⟨f_check_rule, D_check_rule, PySem.W.mg_of X G a_check_rule⟩
  have p_rods : Prps P wl mg base (wdOf K CRule CHeld CAimed CRule XTextError XFoldError Pt0 Pt1) 1 "rods" tb_rods := by
    refine ⟨fun c φ h => ?_⟩
    cases c with
    | rule => cases h; exact ⟨cl_Rule, q_Rule_rods, f_Rule_rods, ⟨pf_Rule_rods, pg_Rule_rods_, pt_Rule_rods, _, pr_Rule_rods⟩, D_Rule_rods.mono⟩
    | held => cases h; exact ⟨cl_Held, q_Rule_rods, f_Rule_rods, ⟨pf_Held_rods, pg_Rule_rods_, pt_Rule_rods, _, pr_Rule_rods⟩, D_Rule_rods.mono⟩
    | aimed => cases h; exact ⟨cl_Aimed, q_Rule_rods, f_Rule_rods, ⟨pf_Aimed_rods, pg_Rule_rods_, pt_Rule_rods, _, pr_Rule_rods⟩, D_Rule_rods.mono⟩
    | bound => cases h; exact ⟨cl_Bound, q_Rule_rods, f_Rule_rods, ⟨pf_Bound_rods, pg_Rule_rods_, pt_Rule_rods, _, pr_Rule_rods⟩, D_Rule_rods.mono⟩
    | _ => cases h
  have c_all_options : Cal P wl mg base (wdOf K CRule CHeld CAimed CRule XTextError XFoldError Pt0 Pt1) false false 2 "all_options" φ_all_options := ⟨f_all_options, D_all_options, PySem.W.mg_of X G a_all_options⟩
  have m_enumerate : mg "enumerate" = none := PySem.W.mg_none_of X G z_enumerate
  have c_aim_mark : Cal P wl mg base (wdOf K CRule CHeld CAimed CRule XTextError XFoldError Pt0 Pt1) false false 1 "aim_mark" φ_aim_mark := ⟨f_aim_mark, D_aim_mark, PySem.W.mg_of X G a_aim_mark⟩
  have c_hinge_mark : Cal P wl mg base (wdOf K CRule CHeld CAimed CRule XTextError XFoldError Pt0 Pt1) false false 1 "hinge_mark" φ_hinge_mark := ⟨f_hinge_mark, D_hinge_mark, PySem.W.mg_of X G a_hinge_mark⟩
  have D_written := def_written (w := (wdOf K CRule CHeld CAimed CRule XTextError XFoldError Pt0 Pt1)) (P := P) (wl := wl) (mg := mg) (base := base) (fun_mk (st := st_written) l_written c_written k_written) c_check_rule p_rods c_all_options m_enumerate c_aim_mark m_len c_hinge_mark
  have D_law_cell := def_law_cell (w := (wdOf K CRule CHeld CAimed CRule XTextError XFoldError Pt0 Pt1)) (P := P) (wl := wl) (mg := mg) (base := base) (fun_mk (st := st_law_cell) l_law_cell c_law_cell k_law_cell) m_len
  have m_max : mg "max" = none := PySem.W.mg_none_of X G z_max
  have D_law_source := def_law_source (w := (wdOf K CRule CHeld CAimed CRule XTextError XFoldError Pt0 Pt1)) (P := P) (wl := wl) (mg := mg) (base := base) (fun_mk (st := st_law_source) l_law_source c_law_source k_law_source) m_max
  have D_law_draw := def_law_draw (w := (wdOf K CRule CHeld CAimed CRule XTextError XFoldError Pt0 Pt1)) (P := P) (wl := wl) (mg := mg) (base := base) (fun_mk (st := st_law_draw) l_law_draw c_law_draw k_law_draw) 
  have c_law_draw : Cal P wl mg base (wdOf K CRule CHeld CAimed CRule XTextError XFoldError Pt0 Pt1) false false 1 "_law_draw" φ_law_draw := ⟨f_law_draw, D_law_draw, PySem.W.mg_of X G a_law_draw⟩
  have D_law_choose := def_law_choose (w := (wdOf K CRule CHeld CAimed CRule XTextError XFoldError Pt0 Pt1)) (P := P) (wl := wl) (mg := mg) (base := base) (fun_mk (st := st_law_choose) l_law_choose c_law_choose k_law_choose) m_len c_law_draw
  have m_repr : mg "repr" = none := PySem.W.mg_none_of X G z_repr
  have D_law_is_equal := def_law_is_equal (w := (wdOf K CRule CHeld CAimed CRule XTextError XFoldError Pt0 Pt1)) (P := P) (wl := wl) (mg := mg) (base := base) (fun_mk (st := st_law_is_equal) l_law_is_equal c_law_is_equal k_law_is_equal) hS m_repr
  have m_range : mg "range" = none := PySem.W.mg_none_of X G z_range
  have D_law_rods := def_law_rods (w := (wdOf K CRule CHeld CAimed CRule XTextError XFoldError Pt0 Pt1)) (P := P) (wl := wl) (mg := mg) (base := base) (fun_mk (st := st_law_rods) l_law_rods c_law_rods k_law_rods) c_law_draw m_range m_max
  have D_law_is_length := def_law_is_length (w := (wdOf K CRule CHeld CAimed CRule XTextError XFoldError Pt0 Pt1)) (P := P) (wl := wl) (mg := mg) (base := base) (fun_mk (st := st_law_is_length) l_law_is_length c_law_is_length k_law_is_length) m_len m_int
  have c_law_is_length : Cal P wl mg base (wdOf K CRule CHeld CAimed CRule XTextError XFoldError Pt0 Pt1) false false 1 "_law_is_length" φ_law_is_length := ⟨f_law_is_length, D_law_is_length, PySem.W.mg_of X G a_law_is_length⟩
  have D_law_is_text := def_law_is_text (w := (wdOf K CRule CHeld CAimed CRule XTextError XFoldError Pt0 Pt1)) (P := P) (wl := wl) (mg := mg) (base := base) (fun_mk (st := st_law_is_text) l_law_is_text c_law_is_text k_law_is_text) m_len c_law_is_length
  have c_law_is_text : Cal P wl mg base (wdOf K CRule CHeld CAimed CRule XTextError XFoldError Pt0 Pt1) false false 2 "_law_is_text" φ_law_is_text := ⟨f_law_is_text, D_law_is_text, PySem.W.mg_of X G a_law_is_text⟩
  have D_law_place := def_law_place (w := (wdOf K CRule CHeld CAimed CRule XTextError XFoldError Pt0 Pt1)) (P := P) (wl := wl) (mg := mg) (base := base) (fun_mk (st := st_law_place) l_law_place c_law_place k_law_place) m_len m_range c_law_is_text m_max
  have c_law_choose : Cal P wl mg base (wdOf K CRule CHeld CAimed CRule XTextError XFoldError Pt0 Pt1) false false 2 "_law_choose" φ_law_choose := ⟨f_law_choose, D_law_choose, PySem.W.mg_of X G a_law_choose⟩
  have D_law_bent := def_law_bent (w := (wdOf K CRule CHeld CAimed CRule XTextError XFoldError Pt0 Pt1)) (P := P) (wl := wl) (mg := mg) (base := base) (fun_mk (st := st_law_bent) l_law_bent c_law_bent k_law_bent) m_len c_law_draw m_list c_law_choose
  have t_Rule_plain : Cmt P wl mg base (wdOf K CRule CHeld CAimed CRule XTextError XFoldError Pt0 Pt1) true 5 .rule "plain" φ_Rule_plain := ⟨.type "type", ps_plain, f_Rule_plain, ⟨rd_Rule, sp_Rule⟩, ⟨sm_plain, ⟨_, sr_plain⟩, fi_Rule_plain⟩, D_Rule_plain⟩
  have h_TextError : Cth (wdOf K CRule CHeld CAimed CRule XTextError XFoldError Pt0 Pt1) mg "TextError" .text mt_TextError := by
    refine ⟨PySem.W.mg_of X G a_TextError, fun y hy => ?_⟩
    rcases hy with rfl
    · exact exm_ref bE_TextError (kit_ref iC_TextError tC_TextError sx_TextError_TextError)
  have ou__law_outcome : OutKF P wl mg base (wdOf K CRule CHeld CAimed CRule XTextError XFoldError Pt0 Pt1) "_law_outcome" "value" "TextError" "place" .text := outK_law_outcome (w := (wdOf K CRule CHeld CAimed CRule XTextError XFoldError Pt0 Pt1)) h_TextError ⟨xg_TextError, xn_TextError, bE_TextError, hd_TextError⟩ xp_TextError (PySem.W.mg_of X G a_law_outcome) k_law_outcome l_law_outcome c_law_outcome
  have hT : TabsOf (wdOf K CRule CHeld CAimed CRule XTextError XFoldError Pt0 Pt1) [(Pt0, qn_right), (Pt1, qn_law)] := tabs_two rfl hPne
  have tb_law_is_right : LamX.TabB base mg cd_law_is_right Pt0 := hTB (cd_law_is_right, Pt0) (by simp)
  have hp_law_is_right : (WD.tn (wdOf K CRule CHeld CAimed CRule XTextError XFoldError Pt0 Pt1) Pt0) = some ((envOfC "_law_is_right" (defScope st_law_is_right) 0 0 .none).qual ++ ("<lambda>" : Str)) := if_pos rfl
  have c_law_place : Cal P wl mg base (wdOf K CRule CHeld CAimed CRule XTextError XFoldError Pt0 Pt1) false false 3 "_law_place" φ_law_place := ⟨f_law_place, D_law_place, PySem.W.mg_of X G a_law_place⟩
  have c_law_is_equal : Cal P wl mg base (wdOf K CRule CHeld CAimed CRule XTextError XFoldError Pt0 Pt1) true false 1 "_law_is_equal" φ_law_is_equal := ⟨f_law_is_equal, D_law_is_equal, PySem.W.mg_of X G a_law_is_equal⟩
  have gm_Held : mg "Held" = some (.ref CHeld) := PySem.W.mg_of X G a_Held
  have i_Held : IsiF (wdOf K CRule CHeld CAimed CRule XTextError XFoldError Pt0 Pt1) (.ref CHeld) (tCls (onRules false true false false)) := by
    intro k b h
    cases k with
    | non => cases h; exact ⟨kit_tref (kit_ref iC_Held tC_Held s_non_Held), fun _ z => nomatch z⟩
    | bl => cases h; exact ⟨kit_tref (kit_ref iC_Held tC_Held s_bl_Held), fun _ z => nomatch z⟩
    | int => cases h; exact ⟨kit_tref (kit_ref iC_Held tC_Held s_int_Held), fun _ z => nomatch z⟩
    | str => cases h; exact ⟨kit_tref (kit_ref iC_Held tC_Held s_str_Held), fun _ z => nomatch z⟩
    | lst => cases h; exact ⟨kit_tref (kit_ref iC_Held tC_Held s_lst_Held), fun _ z => nomatch z⟩
    | tup => cases h; exact ⟨kit_tref (kit_ref iC_Held tC_Held s_tup_Held), fun _ z => nomatch z⟩
    | dct => cases h; exact ⟨kit_tref (kit_ref iC_Held tC_Held s_dct_Held), fun _ z => nomatch z⟩
    | obj c => cases c with
      | rule => cases h; exact ⟨kit_ne d_Rule_Held (kit_ref iC_Held tC_Held s_Rule_Held), fun _ z => by cases z; exact ci_Rule⟩
      | held => cases h; exact ⟨kit_same, fun _ z => by cases z; exact ci_Held⟩
      | aimed => cases h; exact ⟨kit_ne d_Aimed_Held (kit_ref iC_Held tC_Held s_Aimed_Held), fun _ z => by cases z; exact ci_Aimed⟩
      | bound => cases h; exact ⟨kit_ne d_Rule_Held (kit_ref iC_Held tC_Held s_Rule_Held), fun _ z => by cases z; exact ci_Rule⟩
      | _ => cases h
  have gm_Aimed : mg "Aimed" = some (.ref CAimed) := PySem.W.mg_of X G a_Aimed
  have i_Aimed : IsiF (wdOf K CRule CHeld CAimed CRule XTextError XFoldError Pt0 Pt1) (.ref CAimed) (tCls (onRules false false true false)) := by
    intro k b h
    cases k with
    | non => cases h; exact ⟨kit_tref (kit_ref iC_Aimed tC_Aimed s_non_Aimed), fun _ z => nomatch z⟩
    | bl => cases h; exact ⟨kit_tref (kit_ref iC_Aimed tC_Aimed s_bl_Aimed), fun _ z => nomatch z⟩
    | int => cases h; exact ⟨kit_tref (kit_ref iC_Aimed tC_Aimed s_int_Aimed), fun _ z => nomatch z⟩
    | str => cases h; exact ⟨kit_tref (kit_ref iC_Aimed tC_Aimed s_str_Aimed), fun _ z => nomatch z⟩
    | lst => cases h; exact ⟨kit_tref (kit_ref iC_Aimed tC_Aimed s_lst_Aimed), fun _ z => nomatch z⟩
    | tup => cases h; exact ⟨kit_tref (kit_ref iC_Aimed tC_Aimed s_tup_Aimed), fun _ z => nomatch z⟩
    | dct => cases h; exact ⟨kit_tref (kit_ref iC_Aimed tC_Aimed s_dct_Aimed), fun _ z => nomatch z⟩
    | obj c => cases c with
      | rule => cases h; exact ⟨kit_ne d_Rule_Aimed (kit_ref iC_Aimed tC_Aimed s_Rule_Aimed), fun _ z => by cases z; exact ci_Rule⟩
      | held => cases h; exact ⟨kit_ne d_Held_Aimed (kit_ref iC_Aimed tC_Aimed s_Held_Aimed), fun _ z => by cases z; exact ci_Held⟩
      | aimed => cases h; exact ⟨kit_same, fun _ z => by cases z; exact ci_Aimed⟩
      | bound => cases h; exact ⟨kit_ne d_Rule_Aimed (kit_ref iC_Aimed tC_Aimed s_Rule_Aimed), fun _ z => by cases z; exact ci_Rule⟩
      | _ => cases h
  have c_written : Cal P wl mg base (wdOf K CRule CHeld CAimed CRule XTextError XFoldError Pt0 Pt1) false false 3 "written" φ_written := ⟨f_written, D_written, PySem.W.mg_of X G a_written⟩
  have D_law_is_right := def_law_is_right (w := (wdOf K CRule CHeld CAimed CRule XTextError XFoldError Pt0 Pt1)) (P := P) (wl := wl) (mg := mg) (base := base) ⟨⟨_, _, _, _, _, _, _, _, rfl, l_law_is_right, c_law_is_right⟩, k_law_is_right⟩ t_Rule_plain gm_Rule ou__law_outcome hT tb_law_is_right hp_law_is_right c_law_is_text c_law_place c_law_is_equal m_isinstance i_Rule gm_Held i_Held gm_Aimed i_Aimed m_int c_written o_options p_rods
  have m_min : mg "min" = none := PySem.W.mg_none_of X G z_min
  have c_law_cell : Cal P wl mg base (wdOf K CRule CHeld CAimed CRule XTextError XFoldError Pt0 Pt1) false false 1 "_law_cell" φ_law_cell := ⟨f_law_cell, D_law_cell, PySem.W.mg_of X G a_law_cell⟩
  have c_law_source : Cal P wl mg base (wdOf K CRule CHeld CAimed CRule XTextError XFoldError Pt0 Pt1) false false 1 "_law_source" φ_law_source := ⟨f_law_source, D_law_source, PySem.W.mg_of X G a_law_source⟩
  have c_law_rods : Cal P wl mg base (wdOf K CRule CHeld CAimed CRule XTextError XFoldError Pt0 Pt1) false false 2 "_law_rods" φ_law_rods := ⟨f_law_rods, D_law_rods, PySem.W.mg_of X G a_law_rods⟩
  have c_law_bent : Cal P wl mg base (wdOf K CRule CHeld CAimed CRule XTextError XFoldError Pt0 Pt1) false false 3 "_law_bent" φ_law_bent := ⟨f_law_bent, D_law_bent, PySem.W.mg_of X G a_law_bent⟩
  have c_law_is_right : Cal P wl mg base (wdOf K CRule CHeld CAimed CRule XTextError XFoldError Pt0 Pt1) true false 8 "_law_is_right" φ_law_is_right := ⟨f_law_is_right, D_law_is_right, PySem.W.mg_of X G a_law_is_right⟩
  have tb_law : LamX.TabB base mg cd_law Pt1 := hTB (cd_law, Pt1) (by simp)
  have hp_law : (WD.tn (wdOf K CRule CHeld CAimed CRule XTextError XFoldError Pt0 Pt1) Pt1) = some ((envOfC "law" (defScope st_law) 0 0 .none).qual ++ ("<lambda>" : Str)) := (if_neg hPne).trans (if_pos rfl)
  have h_FoldError : Cth (wdOf K CRule CHeld CAimed CRule XTextError XFoldError Pt0 Pt1) mg "FoldError" .fold mt_FoldError := by
    refine ⟨PySem.W.mg_of X G a_FoldError, fun y hy => ?_⟩
    rcases hy with rfl
    · exact exm_ref bE_FoldError (kit_ref iC_FoldError tC_FoldError sx_TextError_FoldError)
  have D_law := fnx_law (w := (wdOf K CRule CHeld CAimed CRule XTextError XFoldError Pt0 Pt1)) (P := P) (wl := wl) (mg := mg) (base := base) ⟨⟨_, _, _, _, _, _, _, _, rfl, l_law, c_law⟩, k_law⟩ m_len m_min m_max m_range c_law_cell c_law_source c_law_choose c_law_rods m_str c_law_bent c_law_draw c_law_is_right t_Rule_plain gm_Rule ou__law_outcome hT tb_law hp_law c_law_is_equal h_FoldError
  exact R7.FnG.imp D_law.g fun vs H Q E z => R7.end_T hT hφ z
end M7
open PySem PySem.W PyProof.Rows
set_option maxRecDepth 100000 in
set_option maxHeartbeats 0 in
theorem PySem.Challenge.cw_rodturns_k06_plain_texts_holds : PySem.Challenge.rw_rodturns_k06_plain_texts.Holds := by
  w_on; o_law; k_head; (case hw => w_witness2)
  k_fill
  refine R7.walk_endT (l := PySem.Challenge.rw_rodturns_k06_plain_texts) (k := 9) (x := "_law_script") rfl rfl (by first | rfl | kernel_rfl | decide +kernel) ⟨rfl, by decide, by decide⟩ (fun w h Y => PySem.W.km_in_of Y) ?F
  case F =>
    intro w mg fa h Y KX G hmg
    refine' R7.fin_T2 KX G hmg rfl ?aLa0 (PySem.W.km_tabs_of Y) ?hRi0 ?w11 ?w12 ?w13 ?w14 ?w15 ?w16 ?w17 ?nRi0 ?mRi ?hLo0 ?w21 ?w22 ?w23 ?w24 ?w25 ?w26 ?w27 ?nLo0 ?mLo (M7.all_06 KX G ?z_isinstance ?z_int ?z_bool ?z_len ?a_FIRST_DIGITS ?a_letter_at ?a_DIGITS ?z_str ?z_super ?a_TextError ?a_length_size ?a_is_integer ?a_Rule ?z_all ?z_list ?a_NO_AIMS ?a_FREE ?a_cut ?a_OPTIONS ?a_STRAIGHT ?a_FOLDED ?a_RIGHT ?a_LEFT ?a_check_rule ?a_all_options ?z_enumerate ?a_aim_mark ?a_hinge_mark ?z_max ?a_law_draw ?z_repr ?z_range ?a_law_is_length ?a_law_is_text ?a_law_choose ?a_law_outcome ?a_law_place ?a_law_is_equal ?a_Held ?a_Aimed ?a_written ?z_min ?a_law_cell ?a_law_source ?a_law_rods ?a_law_bent ?a_law_is_right ?a_FoldError ?a_law ?xs_TextError ?xp_TextError ?xi_f_TextError ?fv_Rule_MOST_LENGTH ?fv_Rule_MOST_RODS ?sm_is_rod ?sa_Rule ?n_rods_Rule ?sa_Held ?n_rods_Held ?sa_Aimed ?n_rods_Aimed ?sa_Bound ?n_rods_Bound ?if_Rule ?hc_Rule ?hc_Held ?hc_Aimed ?mf_Rule_options ?pf_Rule_rods ?pf_Held_rods ?pf_Aimed_rods ?pf_Bound_rods ?sm_plain ?xg_TextError ?xn_TextError ?sr_is_rod ?pr_Rule_rods ?sr_plain ?l_is_integer ?l_letter_at ?l_length_size ?l_cut ?l_TextError___init ?lc_TextError___init ?le_TextError___init ?l_Rule_is_rod ?l_Rule___init ?l_Rule_rods ?l_Rule_options ?l_Rule_plain ?l_check_rule ?l_all_options ?l_OPTIONS ?l_hinge_mark ?l_aim_mark ?l_written ?l_law_cell ?l_law_source ?l_law_draw ?l_law_choose ?l_law_is_equal ?l_law_rods ?l_law_is_length ?l_law_is_text ?l_law_place ?l_law_bent ?l_law_is_right ?l_law_outcome ?l_law ?c_is_integer ?k_is_integer ?c_letter_at ?k_letter_at ?c_length_size ?k_length_size ?c_cut ?k_cut ?uf ?ut ?c_TextError___init ?k_TextError___init ?lv_TextError___init ?xo_TextError ?bE_TextError ?tC_TextError ?kE_TextError ?xu_TextError ?xm_TextError ?xc_TextError ?xt_any ?xv_TextError ?xi_t_TextError ?c_Rule_is_rod ?k_Rule_is_rod ?rd_Rule ?sp_Rule ?c_Rule___init ?k_Rule___init ?pg_Rule ?hd_Rule ?po_Rule ?pg_Held ?hd_Held ?po_Held ?pg_Aimed ?hd_Aimed ?po_Aimed ?pg_Bound ?hd_Bound ?po_Bound ?c_Rule_rods ?k_Rule_rods ?c_Rule_options ?k_Rule_options ?c_Rule_plain ?k_Rule_plain ?mk_Rule ?j_Rule___init ?kC_Rule ?c_check_rule ?k_check_rule ?iC_Rule ?tC_Rule ?s_non_Rule ?s_bl_Rule ?s_int_Rule ?s_str_Rule ?s_lst_Rule ?s_tup_Rule ?s_dct_Rule ?hcn ?hct ?hm_Rule ?s_Held_Rule ?hm_Held ?s_Aimed_Rule ?hm_Aimed ?c_all_options ?k_all_options ?j_Rule_options ?c_hinge_mark ?k_hinge_mark ?c_aim_mark ?k_aim_mark ?c_written ?k_written ?pg_Rule_rods_ ?pt_Rule_rods ?c_law_cell ?k_law_cell ?c_law_source ?k_law_source ?c_law_draw ?k_law_draw ?c_law_choose ?k_law_choose ?c_law_is_equal ?k_law_is_equal ?c_law_rods ?k_law_rods ?c_law_is_length ?k_law_is_length ?c_law_is_text ?k_law_is_text ?c_law_place ?k_law_place ?c_law_bent ?k_law_bent ?c_law_is_right ?k_law_is_right ?fi_Rule_plain ?sx_TextError_TextError ?iC_TextError ?c_law_outcome ?k_law_outcome ?hd_TextError ?iC_Held ?tC_Held ?s_non_Held ?s_bl_Held ?s_int_Held ?s_str_Held ?s_lst_Held ?s_tup_Held ?s_dct_Held ?s_Rule_Held ?s_Aimed_Held ?iC_Aimed ?tC_Aimed ?s_non_Aimed ?s_bl_Aimed ?s_int_Aimed ?s_str_Aimed ?s_lst_Aimed ?s_tup_Aimed ?s_dct_Aimed ?s_Rule_Aimed ?s_Held_Aimed ?c_law ?k_law ?bE_FoldError ?sx_TextError_FoldError ?iC_FoldError ?tC_FoldError ?hPne ?d_Held_Rule ?d_Aimed_Rule ?d_Rule_Held ?d_Aimed_Held ?d_Rule_Aimed ?d_Held_Aimed M7.pure_06)
    (case z_isinstance => first | k_is | rfl | kernel_rfl | decide +kernel)
    (case z_int => first | k_is | rfl | kernel_rfl | decide +kernel)
    (case z_bool => first | k_is | rfl | kernel_rfl | decide +kernel)
    (case z_len => first | k_is | rfl | kernel_rfl | decide +kernel)
    (case a_FIRST_DIGITS => first | k_is | rfl | kernel_rfl | decide +kernel)
    (case a_letter_at => first | k_is | rfl | kernel_rfl | decide +kernel)
    (case a_DIGITS => first | k_is | rfl | kernel_rfl | decide +kernel)
    (case z_str => first | k_is | rfl | kernel_rfl | decide +kernel)
    (case z_super => first | k_is | rfl | kernel_rfl | decide +kernel)
    (case a_TextError => first | k_is | rfl | kernel_rfl | decide +kernel)
    (case a_length_size => first | k_is | rfl | kernel_rfl | decide +kernel)
    (case a_is_integer => first | k_is | rfl | kernel_rfl | decide +kernel)
    (case a_Rule => first | k_is | rfl | kernel_rfl | decide +kernel)
    (case z_all => first | k_is | rfl | kernel_rfl | decide +kernel)
    (case z_list => first | k_is | rfl | kernel_rfl | decide +kernel)
    (case a_NO_AIMS => first | k_is | rfl | kernel_rfl | decide +kernel)
    (case a_FREE => first | k_is | rfl | kernel_rfl | decide +kernel)
    (case a_cut => first | k_is | rfl | kernel_rfl | decide +kernel)
    (case a_OPTIONS => first | k_is | rfl | kernel_rfl | decide +kernel)
    (case a_STRAIGHT => first | k_is | rfl | kernel_rfl | decide +kernel)
    (case a_FOLDED => first | k_is | rfl | kernel_rfl | decide +kernel)
    (case a_RIGHT => first | k_is | rfl | kernel_rfl | decide +kernel)
    (case a_LEFT => first | k_is | rfl | kernel_rfl | decide +kernel)
    (case a_check_rule => first | k_is | rfl | kernel_rfl | decide +kernel)
    (case a_all_options => first | k_is | rfl | kernel_rfl | decide +kernel)
    (case z_enumerate => first | k_is | rfl | kernel_rfl | decide +kernel)
    (case a_aim_mark => first | k_is | rfl | kernel_rfl | decide +kernel)
    (case a_hinge_mark => first | k_is | rfl | kernel_rfl | decide +kernel)
    (case z_max => first | k_is | rfl | kernel_rfl | decide +kernel)
    (case a_law_draw => first | k_is | rfl | kernel_rfl | decide +kernel)
    (case z_repr => first | k_is | rfl | kernel_rfl | decide +kernel)
    (case z_range => first | k_is | rfl | kernel_rfl | decide +kernel)
    (case a_law_is_length => first | k_is | rfl | kernel_rfl | decide +kernel)
    (case a_law_is_text => first | k_is | rfl | kernel_rfl | decide +kernel)
    (case a_law_choose => first | k_is | rfl | kernel_rfl | decide +kernel)
    (case a_law_outcome => first | k_is | rfl | kernel_rfl | decide +kernel)
    (case a_law_place => first | k_is | rfl | kernel_rfl | decide +kernel)
    (case a_law_is_equal => first | k_is | rfl | kernel_rfl | decide +kernel)
    (case a_Held => first | k_is | rfl | kernel_rfl | decide +kernel)
    (case a_Aimed => first | k_is | rfl | kernel_rfl | decide +kernel)
    (case a_written => first | k_is | rfl | kernel_rfl | decide +kernel)
    (case z_min => first | k_is | rfl | kernel_rfl | decide +kernel)
    (case a_law_cell => first | k_is | rfl | kernel_rfl | decide +kernel)
    (case a_law_source => first | k_is | rfl | kernel_rfl | decide +kernel)
    (case a_law_rods => first | k_is | rfl | kernel_rfl | decide +kernel)
    (case a_law_bent => first | k_is | rfl | kernel_rfl | decide +kernel)
    (case a_law_is_right => first | k_is | rfl | kernel_rfl | decide +kernel)
    (case a_FoldError => first | k_is | rfl | kernel_rfl | decide +kernel)
    (case a_law => first | k_is | rfl | kernel_rfl | decide +kernel)
    (case xs_TextError => first | k_is | rfl | kernel_rfl | decide +kernel)
    (case xp_TextError => first | k_is | rfl | kernel_rfl | decide +kernel)
    (case xi_f_TextError => first | k_is | rfl | kernel_rfl | decide +kernel)
    (case fv_Rule_MOST_LENGTH => first | k_is | rfl | kernel_rfl | decide +kernel)
    (case fv_Rule_MOST_RODS => first | k_is | rfl | kernel_rfl | decide +kernel)
    (case sm_is_rod => first | k_is | rfl | kernel_rfl | decide +kernel)
    (case sa_Rule => first | k_is | rfl | kernel_rfl | decide +kernel)
    (case n_rods_Rule => first | k_is | rfl | kernel_rfl | decide +kernel)
    (case sa_Held => first | k_is | rfl | kernel_rfl | decide +kernel)
    (case n_rods_Held => first | k_is | rfl | kernel_rfl | decide +kernel)
    (case sa_Aimed => first | k_is | rfl | kernel_rfl | decide +kernel)
    (case n_rods_Aimed => first | k_is | rfl | kernel_rfl | decide +kernel)
    (case sa_Bound => first | k_is | rfl | kernel_rfl | decide +kernel)
    (case n_rods_Bound => first | k_is | rfl | kernel_rfl | decide +kernel)
    (case if_Rule => first | k_is | rfl | kernel_rfl | decide +kernel)
    (case hc_Rule => first | k_is | rfl | kernel_rfl | decide +kernel)
    (case hc_Held => first | k_is | rfl | kernel_rfl | decide +kernel)
    (case hc_Aimed => first | k_is | rfl | kernel_rfl | decide +kernel)
    (case mf_Rule_options => first | k_is | rfl | kernel_rfl | decide +kernel)
    (case pf_Rule_rods => first | k_is | rfl | kernel_rfl | decide +kernel)
    (case pf_Held_rods => first | k_is | rfl | kernel_rfl | decide +kernel)
    (case pf_Aimed_rods => first | k_is | rfl | kernel_rfl | decide +kernel)
    (case pf_Bound_rods => first | k_is | rfl | kernel_rfl | decide +kernel)
    (case sm_plain => first | k_is | rfl | kernel_rfl | decide +kernel)
    (case xg_TextError => first | k_is | rfl | kernel_rfl | decide +kernel)
    (case xn_TextError => first | k_is | rfl | kernel_rfl | decide +kernel)
    (case sr_is_rod => first | k_is | rfl | kernel_rfl | decide +kernel)
    (case pr_Rule_rods => first | k_is | rfl | kernel_rfl | decide +kernel)
    (case sr_plain => first | k_is | rfl | kernel_rfl | decide +kernel)
    (case l_is_integer => first | k_is | rfl | kernel_rfl | decide +kernel)
    (case l_letter_at => first | k_is | rfl | kernel_rfl | decide +kernel)
    (case l_length_size => first | k_is | rfl | kernel_rfl | decide +kernel)
    (case l_cut => first | k_is | rfl | kernel_rfl | decide +kernel)
    (case l_TextError___init => first | k_is | rfl | kernel_rfl | decide +kernel)
    (case lc_TextError___init => first | k_is | rfl | kernel_rfl | decide +kernel)
    (case le_TextError___init => first | k_is | rfl | kernel_rfl | decide +kernel)
    (case l_Rule_is_rod => first | k_is | rfl | kernel_rfl | decide +kernel)
    (case l_Rule___init => first | k_is | rfl | kernel_rfl | decide +kernel)
    (case l_Rule_rods => first | k_is | rfl | kernel_rfl | decide +kernel)
    (case l_Rule_options => first | k_is | rfl | kernel_rfl | decide +kernel)
    (case l_Rule_plain => first | k_is | rfl | kernel_rfl | decide +kernel)
    (case l_check_rule => first | k_is | rfl | kernel_rfl | decide +kernel)
    (case l_all_options => first | k_is | rfl | kernel_rfl | decide +kernel)
    (case l_OPTIONS => first | k_is | rfl | kernel_rfl | decide +kernel)
    (case l_hinge_mark => first | k_is | rfl | kernel_rfl | decide +kernel)
    (case l_aim_mark => first | k_is | rfl | kernel_rfl | decide +kernel)
    (case l_written => first | k_is | rfl | kernel_rfl | decide +kernel)
    (case l_law_cell => first | k_is | rfl | kernel_rfl | decide +kernel)
    (case l_law_source => first | k_is | rfl | kernel_rfl | decide +kernel)
    (case l_law_draw => first | k_is | rfl | kernel_rfl | decide +kernel)
    (case l_law_choose => first | k_is | rfl | kernel_rfl | decide +kernel)
    (case l_law_is_equal => first | k_is | rfl | kernel_rfl | decide +kernel)
    (case l_law_rods => first | k_is | rfl | kernel_rfl | decide +kernel)
    (case l_law_is_length => first | k_is | rfl | kernel_rfl | decide +kernel)
    (case l_law_is_text => first | k_is | rfl | kernel_rfl | decide +kernel)
    (case l_law_place => first | k_is | rfl | kernel_rfl | decide +kernel)
    (case l_law_bent => first | k_is | rfl | kernel_rfl | decide +kernel)
    (case l_law_is_right => first | k_is | rfl | kernel_rfl | decide +kernel)
    (case l_law_outcome => first | k_is | rfl | kernel_rfl | decide +kernel)
    (case l_law => first | k_is | rfl | kernel_rfl | decide +kernel)
    (case c_is_integer => first | k_is | rfl | kernel_rfl | decide +kernel)
    (case k_is_integer => first | k_is | rfl | kernel_rfl | decide +kernel)
    (case c_letter_at => first | k_is | rfl | kernel_rfl | decide +kernel)
    (case k_letter_at => first | k_is | rfl | kernel_rfl | decide +kernel)
    (case c_length_size => first | k_is | rfl | kernel_rfl | decide +kernel)
    (case k_length_size => first | k_is | rfl | kernel_rfl | decide +kernel)
    (case c_cut => first | k_is | rfl | kernel_rfl | decide +kernel)
    (case k_cut => first | k_is | rfl | kernel_rfl | decide +kernel)
    (case uf => first | k_is | rfl | kernel_rfl | decide +kernel)
    (case ut => first | k_is | rfl | kernel_rfl | decide +kernel)
    (case c_TextError___init => first | k_is | rfl | kernel_rfl | decide +kernel)
    (case k_TextError___init => first | k_is | rfl | kernel_rfl | decide +kernel)
    (case lv_TextError___init => first | k_is | rfl | kernel_rfl | decide +kernel)
    (case xo_TextError => first | k_is | rfl | kernel_rfl | decide +kernel)
    (case bE_TextError => first | k_is | rfl | kernel_rfl | decide +kernel)
    (case tC_TextError => first | k_is | rfl | kernel_rfl | decide +kernel)
    (case kE_TextError => first | k_is | rfl | kernel_rfl | decide +kernel)
    (case xu_TextError => first | k_is | rfl | kernel_rfl | decide +kernel)
    (case xm_TextError => first | k_is | rfl | kernel_rfl | decide +kernel)
    (case xc_TextError => first | k_is | rfl | kernel_rfl | decide +kernel)
    (case xt_any => first | k_is | rfl | kernel_rfl | decide +kernel)
    (case xv_TextError => first | k_is | rfl | kernel_rfl | decide +kernel)
    (case xi_t_TextError => first | k_is | rfl | kernel_rfl | decide +kernel)
    (case c_Rule_is_rod => first | k_is | rfl | kernel_rfl | decide +kernel)
    (case k_Rule_is_rod => first | k_is | rfl | kernel_rfl | decide +kernel)
    (case rd_Rule => first | k_is | rfl | kernel_rfl | decide +kernel)
    (case sp_Rule => first | k_is | rfl | kernel_rfl | decide +kernel)
    (case c_Rule___init => first | k_is | rfl | kernel_rfl | decide +kernel)
    (case k_Rule___init => first | k_is | rfl | kernel_rfl | decide +kernel)
    (case pg_Rule => first | k_is | rfl | kernel_rfl | decide +kernel)
    (case hd_Rule => first | k_is | rfl | kernel_rfl | decide +kernel)
    (case po_Rule => first | k_is | rfl | kernel_rfl | decide +kernel)
    (case pg_Held => first | k_is | rfl | kernel_rfl | decide +kernel)
    (case hd_Held => first | k_is | rfl | kernel_rfl | decide +kernel)
    (case po_Held => first | k_is | rfl | kernel_rfl | decide +kernel)
    (case pg_Aimed => first | k_is | rfl | kernel_rfl | decide +kernel)
    (case hd_Aimed => first | k_is | rfl | kernel_rfl | decide +kernel)
    (case po_Aimed => first | k_is | rfl | kernel_rfl | decide +kernel)
    (case pg_Bound => first | k_is | rfl | kernel_rfl | decide +kernel)
    (case hd_Bound => first | k_is | rfl | kernel_rfl | decide +kernel)
    (case po_Bound => first | k_is | rfl | kernel_rfl | decide +kernel)
    (case c_Rule_rods => first | k_is | rfl | kernel_rfl | decide +kernel)
    (case k_Rule_rods => first | k_is | rfl | kernel_rfl | decide +kernel)
    (case c_Rule_options => first | k_is | rfl | kernel_rfl | decide +kernel)
    (case k_Rule_options => first | k_is | rfl | kernel_rfl | decide +kernel)
    (case c_Rule_plain => first | k_is | rfl | kernel_rfl | decide +kernel)
    (case k_Rule_plain => first | k_is | rfl | kernel_rfl | decide +kernel)
    (case mk_Rule => first | k_is | rfl | kernel_rfl | decide +kernel)
    (case j_Rule___init => first | k_is | rfl | kernel_rfl | decide +kernel)
    (case kC_Rule => first | k_is | rfl | kernel_rfl | decide +kernel)
    (case c_check_rule => first | k_is | rfl | kernel_rfl | decide +kernel)
    (case k_check_rule => first | k_is | rfl | kernel_rfl | decide +kernel)
    (case iC_Rule => first | k_is | rfl | kernel_rfl | decide +kernel)
    (case tC_Rule => first | k_is | rfl | kernel_rfl | decide +kernel)
    (case s_non_Rule => first | k_is | rfl | kernel_rfl | decide +kernel)
    (case s_bl_Rule => first | k_is | rfl | kernel_rfl | decide +kernel)
    (case s_int_Rule => first | k_is | rfl | kernel_rfl | decide +kernel)
    (case s_str_Rule => first | k_is | rfl | kernel_rfl | decide +kernel)
    (case s_lst_Rule => first | k_is | rfl | kernel_rfl | decide +kernel)
    (case s_tup_Rule => first | k_is | rfl | kernel_rfl | decide +kernel)
    (case s_dct_Rule => first | k_is | rfl | kernel_rfl | decide +kernel)
    (case hcn => first | k_is | rfl | kernel_rfl | decide +kernel)
    (case hct => first | k_is | rfl | kernel_rfl | decide +kernel)
    (case hm_Rule => first | k_is | rfl | kernel_rfl | decide +kernel)
    (case s_Held_Rule => first | k_is | rfl | kernel_rfl | decide +kernel)
    (case hm_Held => first | k_is | rfl | kernel_rfl | decide +kernel)
    (case s_Aimed_Rule => first | k_is | rfl | kernel_rfl | decide +kernel)
    (case hm_Aimed => first | k_is | rfl | kernel_rfl | decide +kernel)
    (case c_all_options => first | k_is | rfl | kernel_rfl | decide +kernel)
    (case k_all_options => first | k_is | rfl | kernel_rfl | decide +kernel)
    (case j_Rule_options => first | k_is | rfl | kernel_rfl | decide +kernel)
    (case c_hinge_mark => first | k_is | rfl | kernel_rfl | decide +kernel)
    (case k_hinge_mark => first | k_is | rfl | kernel_rfl | decide +kernel)
    (case c_aim_mark => first | k_is | rfl | kernel_rfl | decide +kernel)
    (case k_aim_mark => first | k_is | rfl | kernel_rfl | decide +kernel)
    (case c_written => first | k_is | rfl | kernel_rfl | decide +kernel)
    (case k_written => first | k_is | rfl | kernel_rfl | decide +kernel)
    (case pg_Rule_rods_ => first | k_is | rfl | kernel_rfl | decide +kernel)
    (case pt_Rule_rods => first | k_is | rfl | kernel_rfl | decide +kernel)
    (case c_law_cell => first | k_is | rfl | kernel_rfl | decide +kernel)
    (case k_law_cell => first | k_is | rfl | kernel_rfl | decide +kernel)
    (case c_law_source => first | k_is | rfl | kernel_rfl | decide +kernel)
    (case k_law_source => first | k_is | rfl | kernel_rfl | decide +kernel)
    (case c_law_draw => first | k_is | rfl | kernel_rfl | decide +kernel)
    (case k_law_draw => first | k_is | rfl | kernel_rfl | decide +kernel)
    (case c_law_choose => first | k_is | rfl | kernel_rfl | decide +kernel)
    (case k_law_choose => first | k_is | rfl | kernel_rfl | decide +kernel)
    (case c_law_is_equal => first | k_is | rfl | kernel_rfl | decide +kernel)
    (case k_law_is_equal => first | k_is | rfl | kernel_rfl | decide +kernel)
    (case c_law_rods => first | k_is | rfl | kernel_rfl | decide +kernel)
    (case k_law_rods => first | k_is | rfl | kernel_rfl | decide +kernel)
    (case c_law_is_length => first | k_is | rfl | kernel_rfl | decide +kernel)
    (case k_law_is_length => first | k_is | rfl | kernel_rfl | decide +kernel)
    (case c_law_is_text => first | k_is | rfl | kernel_rfl | decide +kernel)
    (case k_law_is_text => first | k_is | rfl | kernel_rfl | decide +kernel)
    (case c_law_place => first | k_is | rfl | kernel_rfl | decide +kernel)
    (case k_law_place => first | k_is | rfl | kernel_rfl | decide +kernel)
    (case c_law_bent => first | k_is | rfl | kernel_rfl | decide +kernel)
    (case k_law_bent => first | k_is | rfl | kernel_rfl | decide +kernel)
    (case c_law_is_right => first | k_is | rfl | kernel_rfl | decide +kernel)
    (case k_law_is_right => first | k_is | rfl | kernel_rfl | decide +kernel)
    (case fi_Rule_plain => first | k_is | rfl | kernel_rfl | decide +kernel)
    (case sx_TextError_TextError => first | k_is | rfl | kernel_rfl | decide +kernel)
    (case iC_TextError => first | k_is | rfl | kernel_rfl | decide +kernel)
    (case c_law_outcome => first | k_is | rfl | kernel_rfl | decide +kernel)
    (case k_law_outcome => first | k_is | rfl | kernel_rfl | decide +kernel)
    (case hd_TextError => first | k_is | rfl | kernel_rfl | decide +kernel)
    (case iC_Held => first | k_is | rfl | kernel_rfl | decide +kernel)
    (case tC_Held => first | k_is | rfl | kernel_rfl | decide +kernel)
    (case s_non_Held => first | k_is | rfl | kernel_rfl | decide +kernel)
    (case s_bl_Held => first | k_is | rfl | kernel_rfl | decide +kernel)
    (case s_int_Held => first | k_is | rfl | kernel_rfl | decide +kernel)
    (case s_str_Held => first | k_is | rfl | kernel_rfl | decide +kernel)
    (case s_lst_Held => first | k_is | rfl | kernel_rfl | decide +kernel)
    (case s_tup_Held => first | k_is | rfl | kernel_rfl | decide +kernel)
    (case s_dct_Held => first | k_is | rfl | kernel_rfl | decide +kernel)
    (case s_Rule_Held => first | k_is | rfl | kernel_rfl | decide +kernel)
    (case s_Aimed_Held => first | k_is | rfl | kernel_rfl | decide +kernel)
    (case iC_Aimed => first | k_is | rfl | kernel_rfl | decide +kernel)
    (case tC_Aimed => first | k_is | rfl | kernel_rfl | decide +kernel)
    (case s_non_Aimed => first | k_is | rfl | kernel_rfl | decide +kernel)
    (case s_bl_Aimed => first | k_is | rfl | kernel_rfl | decide +kernel)
    (case s_int_Aimed => first | k_is | rfl | kernel_rfl | decide +kernel)
    (case s_str_Aimed => first | k_is | rfl | kernel_rfl | decide +kernel)
    (case s_lst_Aimed => first | k_is | rfl | kernel_rfl | decide +kernel)
    (case s_tup_Aimed => first | k_is | rfl | kernel_rfl | decide +kernel)
    (case s_dct_Aimed => first | k_is | rfl | kernel_rfl | decide +kernel)
    (case s_Rule_Aimed => first | k_is | rfl | kernel_rfl | decide +kernel)
    (case s_Held_Aimed => first | k_is | rfl | kernel_rfl | decide +kernel)
    (case c_law => first | k_is | rfl | kernel_rfl | decide +kernel)
    (case k_law => first | k_is | rfl | kernel_rfl | decide +kernel)
    (case bE_FoldError => first | k_is | rfl | kernel_rfl | decide +kernel)
    (case sx_TextError_FoldError => first | k_is | rfl | kernel_rfl | decide +kernel)
    (case iC_FoldError => first | k_is | rfl | kernel_rfl | decide +kernel)
    (case tC_FoldError => first | k_is | rfl | kernel_rfl | decide +kernel)
    (case d_Held_Rule => decide)
    (case d_Aimed_Rule => decide)
    (case d_Rule_Held => decide)
    (case d_Aimed_Held => decide)
    (case d_Rule_Aimed => decide)
    (case d_Held_Aimed => decide)
    (case aLa0 => k_is)
    (case hRi0 => k_is)
    (case hLo0 => k_is)
    (case w11 => rfl); (case w12 => rfl); (case w13 => rfl); (case w14 => rfl); (case w15 => rfl); (case w16 => rfl); (case w21 => rfl); (case w22 => rfl); (case w23 => rfl); (case w24 => rfl); (case w25 => rfl); (case w26 => rfl)
    (case w17 => decide); (case w27 => decide); (case nRi0 => first | rfl | kernel_rfl); (case nLo0 => first | rfl | kernel_rfl); (case mRi => simp); (case mLo => simp)
    (case hPne => decide)
