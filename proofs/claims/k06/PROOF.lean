import PyProof.Rows.All
import Wide.All
import OpenK.AllK
import Wide.FinOn
import HandS.ForMost
import HandS.AnyAll
import HandS.FStr
import HandS.Walk
import HandS.EndTab
import HandS.EndOwn
import HandS.Codes
import HandS.Strs
import HandS.IsInst
import HandS.Style
import HandS.Replace
import KE.KExcSuper
import KE.KSuper
import HandS.ExcInit
import KE.GoesEnumKw
import KE.GoesMore
import HandS.ExcIs
import HandS.ExcField
import HandS.ExcOwn
import HandS.TryOnly
import HandS.Star
import HandS.ListItems
import HandS.ForDict
import HandS.Deep
import HandS.DeepEq
import HandS.Text
import HandS.SetKeys
import HandS.SetBool
import PyProof.Rows.SortShellAny
import HandS.SetFor
import HandS.More
import HandS.GenList
import HandS.WrittenGet
import HandS.Conv
import PyProof.ListStr
import HandS.Flow
import HandS.WordsExc
import HandS.Steps
import HandS.Small
import KE.KExcIs
import PyProof.ConsumeWalk
import HandS.Iter
import KE.KDictList
import PyProof.RulesMatch
import PyProof.Rows.MatchSeqLen
import PyProof.ReprRoads
import PyProof.ReprLen
import HandS.DictComp
import KE.KNestM
import HandS.Head0
import HandS.Head1
import HandS.Head2
import HandS.HeadHook1
import HandS.HeadHook2
import HandS.HeadHook3
import HandS.HeadHook4
import Wide.Once
import PySem.Challenge.RW_layerwharf_k06_registry_answers
set_option Elab.async false
set_option linter.all false
set_option maxRecDepth 100000
set_option maxHeartbeats 4000000
namespace LW
open PySem PySem.Spec PyProof.Rows L2 GxR
/-- a test of one sign that may read names of the module -/
def EltG (P : Program) (w : World) (mg : Str → Option Value) (sc : Scope) (x : Str) (e : Expr) (pb : Nat → Bool) : Prop :=
  ∀ (env : Env) (A : Around) (E : Value → Shared → Prop) (c : Nat) (t : Tok) (s : Shared) (m : Str → Option Value),
    env.scope = sc → env.globals = mainGlobals → s.heap.Ns mainGlobals mg → s.heap.Ns env.locals m → m x = some (.str ⟨#[c]⟩ t) →
    wpAny (model P w) A (eval e env) (fun y s' => y = .bool (pb c) ∧ Keeps s s') E s
theorem elt_inG {P : Program} {w : World} {mg : Str → Option Value} {sc : Scope} {x g z : Str} {tz : Tok} {p1 p2 p3 : Pos}
    (hk : sc.kind = .function) (hl : sc.names.lookup x = some .local) (hg : sc.names.lookup g = some .globalImplicit) (hm : mg g = some (.str z tz))
    (d1 : (x == ("__debug__" : Str)) = false := by decide) (d2 : (g == ("__debug__" : Str)) = false := by decide) :
    EltG P w mg sc x (.Compare (.Name x p1) [.In] [.Name g p2] p3) (fun c => decide (c ∈ z.cps.toList)) := by
  intro env A E c t s m e1 e2 n1 n2 hx
  subst e1
  refine wpAny_Compare1 (wpAny_Name (wpAny_loadName_local hk hl n2 hx ?_) d1)
  refine Calls.Name_function_global hk hg (Calls.loadGlobal_global (by rw [e2]; exact n1) hm ?_) d2
  refine PyProof.Rows.in_str ⟨?_, keeps_refl s⟩
  rw [PySem.StrLaws.found_one z c]
theorem ns_at {h h' : Heap} {a : Addr} {m : Str → Option Value} (n : h.Ns a m) (k : ∀ o, h.get? a = some o → h'.get? a = some o) : h'.Ns a m := by
  obtain ⟨o, es, ep, e, r⟩ := n
  exact ⟨o, es, ep, k o e, r⟩
end LW
namespace LW
open PySem PySem.Spec PyProof.Rows L2 GxR
section
variable {X : Cx} {pins : List (Addr × Obj)} {σ : L2.St} {H : Hp} {s : Shared}
/-- (test for x in text), the test reading the module's names: made, and ready to be walked -/
theorem gen_textG {c T : Addr} {e it : Expr} {x : Str} {px gp : Pos} {sc : Scope} {pb : Nat → Bool} {te : TE} {k : Nat} {Q' : Value → Shared → Prop} {R : Str → Hp → Prop}
    (hr : Room k X.A) (B : TabB X.base X.mg c T) (hc : X.env.code = .ref c) (S : GenS X.env sc x) (hi : PE X it te)
    (he : EltG X.prog X.w X.mg sc x e pb) (hs : ∀ v, genFold it X.env v = pure v) (I : Inv X pins σ H s)
    (h : te σ H fun v H1 => ∃ a : Str, v = .str a ∧ TabG H1 T ∧ R a H1)
    (q : ∀ a H1 g s5, R a H1 → Ready X pins σ H1 T a pb g s5 → Q' (.ref g) s5) :
    wpAny (model X.prog X.w) X.A (eval (.GeneratorExp e [⟨.Name x px, it, [], 0⟩] sc gp) X.env) Q' X.xe s := by
  have room : X.A.depth < recursionLimit := hr.depth
  refine wpAny_GeneratorExp_walksQ hr.hd S.co (closure_ok S.free) S.cell S.dot S.loc S.kind room ?_ hs
  refine thn (hi.run pins s σ H _ I h) ?_
  rintro xv s1 ⟨v, H1, I1, r1, a, ev, ⟨ps, hT, tr⟩, ra⟩
  subst ev
  obtain ⟨t, et⟩ := r1
  subst et
  refine wpAny_pyIter_str ?_
  intro o St W st0
  have oT : s1.heap.get? T = some { cls := .none, data := .fields ps } := I1.hok T _ hT
  have ltT := Heap.lt_size oT
  have oT2 : (s1.heap.push o).get? T = some { cls := .none, data := .fields ps } := Heap.get?_push_of_some _ oT
  have lim : (s1.heap.push o).NoLimit := I1.nolimit.push o
  have cd : PySem.W.CodeHd (s1.heap.push o) c T := B.code.keeps fun b u hb => Heap.get?_push_of_some _ (I1.bk b u hb)
  have psz : (s1.heap.push o).objs.size = s1.heap.objs.size + 1 := Heap.size_push ..
  have goG : ∃ og, s1.heap.get? mainGlobals = some og ∧ mainGlobals ≠ T := by
    obtain ⟨og, _, _, eg, _⟩ := I1.mod.glob
    exact ⟨og, I1.bk _ _ eg, B.gP⟩
  obtain ⟨og, gg, gT⟩ := goG
  have nsG : s1.heap.Ns mainGlobals X.mg := I1.mod.glob.keeps I1.bk
  -- what is left once the code of the generator is there
  have rest : ∀ (cv : Value) (h3 : Heap) (tk : Nat) (ps' more : Array Value), Heap.ExtBut T (s1.heap.push o) h3 → (s1.heap.push o).objs.size ≤ h3.objs.size →
      h3.get? T = some { cls := .none, data := .fields ps' } → ps' = ps ++ more → TriplesOk ps'.toList →
      wpAny (model X.prog X.w) X.A (builtinsFor X.env.globals X.env.builtins) (fun bi s4 =>
        ∃ Ia fp wr n0 Pf St0 pz F, Value.ref s1.heap.objs.size = .ref Ia ∧ (∀ A' : Around, A'.handled = none → Walks X.prog X.w A' Ia fp wr n0 Pf St0) ∧ St0 0 s4.heap ∧
          (∀ b ∈ fp, b < s4.heap.objs.size) ∧ s4.heap.NoLimit ∧ cStatics ∉ wr ∧
          (∀ hf : Heap, (∀ b u, s4.heap.get? b = some u → hf.get? b = some u) →
            QuietGen X.prog X.w (genEnv sc (cloFrom X.env.cells sc.names []) s4.heap.objs.size cv bi X.env) x [] e (List.range s4.heap.objs.size) wr Pf pz F hf) ∧
          (∀ g h5 tk' gs, gs.bare = true → s4.heap.objs.size < g → h5.objs.size = g + 1 → (∀ b u, s4.heap.get? b = some u → h5.get? b = some u) →
            WalksS X.prog X.w X.A.in4 g (g :: s4.heap.objs.size :: List.range s4.heap.objs.size) (s4.heap.objs.size :: wr) (GenOnlyQ s4.gens.size) (passing pz n0 0).length
              (fun j y => ∃ i, (passing pz n0 0)[j]? = some i ∧ F i y) (GenAt X.prog X.w X.A.in4 g s4.gens.size s4.heap.objs.size (List.range s4.heap.objs.size) wr pz n0 F) →
            GenAt X.prog X.w X.A.in4 g s4.gens.size s4.heap.objs.size (List.range s4.heap.objs.size) wr pz n0 F 0 { s4 with gens := s4.gens.push gs, toks := tk', heap := h5 } →
            Q' (.ref g) { s4 with gens := s4.gens.push gs, toks := tk', heap := h5 })) X.xe { s1 with heap := h3, toks := tk } := by
    intro cv h3 tk ps' more ext hz hT3 emore tr3
    have old : ∀ b u, b ≠ T → s1.heap.get? b = some u → h3.get? b = some u := fun b u n eu => ext b u n (Heap.get?_push_of_some _ eu)
    obtain ⟨bm, ob, m1, m2, m3, m4, m5, m6, m7, m8⟩ := B.bm
    have csT : cStatics ≠ T := by
      intro ee
      obtain ⟨_, ⟨o', es, ep, ho, hd, _⟩, _⟩ := I1.nolimit
      rw [ee, oT] at ho
      cases ho
      cases hd
    have csl : cStatics < s1.heap.objs.size := by
      obtain ⟨_, hn, _⟩ := I1.nolimit
      exact hn.lt
    have g3 : h3.Ns mainGlobals X.mg := ns_at nsG fun u hu => old _ u gT hu
    refine wpAny_builtinsFor (m := X.mg) (by rw [I1.ok.glob]; exact g3) m1 m2 (old _ _ m4 (I1.bk _ _ m5)) m6 m7 m8 ?_
    refine ⟨s1.heap.objs.size, [s1.heap.objs.size], [s1.heap.objs.size], a.cps.size, SignAt a, St, fun _ => true, fun i y => ∃ cc, a.cps[i]? = some cc ∧ y = .bool (pb cc), rfl, W, ?_, ?_, lim.extBut ext csT, ?_, ?_, ?_⟩
    · refine (W X.A hr.hd).frame _ _ _ st0 fun b hb u eu => ext b u ?_ eu
      have eb : b = s1.heap.objs.size := by simpa using hb
      rw [eb]
      exact Nat.ne_of_gt ltT
    · intro b hb
      have eb : b = s1.heap.objs.size := by simpa using hb
      rw [eb]
      show s1.heap.objs.size < h3.objs.size
      omega
    · intro z
      have z' : cStatics = s1.heap.objs.size := by simpa using z
      exact Nat.ne_of_lt csl z'
    · intro hf kf
      refine ⟨?_, ?_⟩
      · intro A' E' i v s₂ m₂ _ _ _ _ _
        simp only [List.forIn_nil]
        exact wpAny_pure ⟨rfl, keeps_refl _⟩
      · intro A' E' i v s₂ m₂ hA pv _ hn hm hk
        obtain ⟨cc, u, hcc, ev⟩ := pv
        subst ev
        have gl : s₂.heap.Ns mainGlobals X.mg := ns_at g3 fun u hu => by
          refine hk mainGlobals (List.mem_range.mpr (Heap.lt_size hu)) ?_ u (kf _ _ hu)
          intro z
          have z' : mainGlobals = s1.heap.objs.size := by simpa using z
          have l := Heap.lt_size gg
          rw [z'] at l
          exact Nat.lt_irrefl _ l
        have res := he (genEnv sc (cloFrom X.env.cells sc.names []) h3.objs.size cv builtinsNs X.env) A' E' cc u s₂ m₂ rfl I1.ok.glob gl hn hm
        exact wpAny_mono res (fun y s3 r => ⟨⟨cc, hcc, r.1⟩, r.2⟩) fun _ _ z => z
    · intro g h5 tk5 gs hgb hag hsz5 hk5 W5 hat
      simp only [GxR.passing_true, List.length_range] at W5
      refine q a H1 g _ ra ⟨_, _, _, _, _, W5.in4_1, hat, ?_, ?_⟩
      · rintro j y sj Qj Ej ⟨i, hij, cc, hcc, ey⟩ hq
        subst ey
        obtain ⟨hj, ej⟩ := List.getElem?_eq_some_iff.mp hij
        rw [List.getElem_range] at ej
        subst ej
        have at_j : a.cps.toList[j]? = some cc := by rw [Array.getElem?_toList]; exact hcc
        rw [trF_some at_j] at hq
        exact wpAny_truthy_bool hq
      · intro s' hm
        have nw : ∀ b u, s1.heap.get? b = some u → b ∉ h3.objs.size :: [s1.heap.objs.size] := by
          intro b u eu hb
          have l := Heap.lt_size eu
          have l3 : (s1.heap.objs.size : Nat) ≤ h3.objs.size := by omega
          rcases List.mem_cons.mp hb with z | z
          · rw [z] at l
            exact absurd (Nat.lt_of_lt_of_le l l3) (Nat.lt_irrefl _)
          · have z' : b = s1.heap.objs.size := by simpa using z
            rw [z'] at l
            exact Nat.lt_irrefl _ l
        have J := inv_tab (more := more) (h' := s'.heap) (g' := s'.gens) (d' := s'.drawn) (t' := s'.toks) I1 hT
          (fun b u n eu => hm.heap b u (nw b u eu) (hk5 b u (old b u n eu)))
          (by rw [← emore]; exact hm.heap T _ (nw T _ oT) (hk5 T _ hT3)) (AllBare.movedS (I1.bare.push hgb) hm)
        rw [sh_eta s1 s' hm.os] at J
        exact ⟨_, ⟨⟨ps ++ more, upd_same, by rw [← emore]; exact tr3⟩, fun b n => upd_ne n⟩, J⟩
  refine ⟨lim, ?_⟩
  cases hf : codeAmong gp ps.toList with
  | some cv =>
    refine wpAny_genexprCode_hit hc (cd.code oT2 tr) hf ?_
    exact rest cv (s1.heap.push o) s1.toks ps #[] (Heap.ExtBut.refl _ _) (Nat.le_refl _) oT2 (by simp) tr
  | none =>
    refine wpAny_genexprCodeX hc (cd.code oT2 tr) (cd.tab oT2) hf ?_
    intro c' h' tk ext ge lt isC _ htab _
    obtain ⟨o1, vs, f1, tf, fl, tg, inF, tx, tt, op, _, _, _, _, _, _, _, _, _, tr3, _⟩ := isC
    exact rest _ h' tk _ _ ext (Nat.le_trans ge (Nat.le_of_lt lt)) htab.2 rfl tr3
/-- all(test for x in e), e a text -/
theorem pe_allG {c T : Addr} {e it : Expr} {x : Str} {px p pos gp : Pos} {sc : Scope} {pb : Nat → Bool} {te : TE} {k : Nat}
    (hr : Room k X.A) (hg : Gl X "all") (hm : X.mg "all" = none) (B : TabB X.base X.mg c T) (hc : X.env.code = .ref c) (S : GenS X.env sc x)
    (hi : PE X it te) (he : EltG X.prog X.w X.mg sc x e pb) (hs : ∀ v, genFold it X.env v = pure v := by intro _; rfl)
    (ha : starEach [.GeneratorExp e [⟨.Name x px, it, [], 0⟩] sc gp] X.env = (false, eval (.GeneratorExp e [⟨.Name x px, it, [], 0⟩] sc gp) X.env) :: starEach [] X.env := by rfl) :
    PE X (.Call (.Name "all" p) [.GeneratorExp e [⟨.Name x px, it, [], 0⟩] sc gp] [] pos) (tAllS T pb te) := by
  constructor
  intro pins s σ H Q I h
  refine wpAny_Call_Name_kw (ld_blt I hg hm (u := .builtin "all") (by decide +kernel) ?_)
  refine PyProof.Rows.callWith_builtin1 ?_ ha (by rfl)
  rw [ha]
  show wpAny _ _ (spliced ((false, eval (.GeneratorExp e [⟨.Name x px, it, [], 0⟩] sc gp) X.env) :: backTo pos (starEach [] X.env))) _ _ s
  refine Calls.spliced_cons (gen_textG (R := fun a H1 => ∀ H2, Tabbed T H1 H2 → Q (.bl (a.cps.toList.all pb)) H2) hr B hc S hi he hs I h ?_)
  rintro a H1 g s5 hR ⟨fp, wr, G, F, St, W, hst, htr, hI⟩
  refine Calls.spliced_nil (call_all_walkS (W.self 0 _ _ _ hst ⟨g, fp, wr, G, _, F, St, _, rfl, W, hst, htr, ?_⟩))
  intro s' hmv
  obtain ⟨H2, hT, J⟩ := hI s' hmv
  refine ⟨.bl _, H2, J, rfl, ?_⟩
  rw [all_signs a pb]
  exact hR H2 hT
end
end LW
namespace LW
open PySem
/-! ### sixteen hexadecimal digits -/
def dig (d : Nat) : Nat := if d < 10 then 48 + d else 87 + d
/-- k digits of n -/
def hx : Nat → Nat → List Nat
  | 0, _ => []
  | k + 1, n => hx k (n / 16) ++ [dig (n % 16)]
theorem hx_len : ∀ k n, (hx k n).length = k
  | 0, _ => rfl
  | k + 1, n => by simp [hx, hx_len k]
theorem hx_zero : ∀ k, hx k 0 = List.replicate k 48
  | 0 => rfl
  | k + 1 => by
    show hx k (0 / 16) ++ [dig (0 % 16)] = _
    rw [Nat.zero_div, hx_zero k, List.replicate_succ']
    rfl
theorem core_acc : ∀ (f n : Nat) (ds : List Char), Nat.toDigitsCore 16 f n ds = Nat.toDigitsCore 16 f n [] ++ ds
  | 0, n, ds => rfl
  | f + 1, n, ds => by
    unfold Nat.toDigitsCore
    by_cases h : n / 16 = 0
    · simp [h]
    · simp only [h, if_false]
      rw [core_acc f (n / 16) (Nat.digitChar (n % 16) :: ds), core_acc f (n / 16) [Nat.digitChar (n % 16)]]
      simp
theorem dig_char {d : Nat} (h : d < 16) : (Nat.digitChar d).toNat = dig d := by
  have : ∀ d : Fin 16, (Nat.digitChar d.val).toNat = dig d.val := by decide +kernel
  exact this ⟨d, h⟩
theorem core_hx : ∀ (k f n : Nat), 1 ≤ k → n < 16 ^ k → n < f →
    ((Nat.toDigitsCore 16 f n []).map Char.toNat).length ≤ k ∧
    List.replicate (k - ((Nat.toDigitsCore 16 f n []).map Char.toNat).length) 48 ++ (Nat.toDigitsCore 16 f n []).map Char.toNat = hx k n
  | 0, _, _, h, _, _ => by omega
  | k + 1, 0, n, _, _, h => by omega
  | k + 1, f + 1, n, _, h, hf => by
    have hm : n % 16 < 16 := Nat.mod_lt _ (by decide)
    by_cases h0 : n / 16 = 0
    · have e : Nat.toDigitsCore 16 (f + 1) n [] = [Nat.digitChar (n % 16)] := by
        unfold Nat.toDigitsCore
        simp [h0]
      rw [e]
      refine ⟨by simp, ?_⟩
      show List.replicate (k + 1 - 1) 48 ++ [(Nat.digitChar (n % 16)).toNat] = hx k (n / 16) ++ [dig (n % 16)]
      rw [h0, hx_zero, dig_char hm, Nat.add_sub_cancel]
    · have e : Nat.toDigitsCore 16 (f + 1) n [] = Nat.toDigitsCore 16 f (n / 16) [] ++ [Nat.digitChar (n % 16)] := by
        rw [← core_acc]
        conv => lhs; unfold Nat.toDigitsCore
        simp [h0]
      have h16 : n / 16 < 16 ^ k := by
        rw [Nat.div_lt_iff_lt_mul (by decide)]
        rw [Nat.pow_succ] at h
        exact h
      have k1 : 1 ≤ k := by
        cases k with
        | zero => rw [Nat.pow_zero] at h16; omega
        | succ k => omega
      have ih := core_hx k f (n / 16) k1 h16 (by omega)
      rw [e, List.map_append]
      refine ⟨by have i1 := ih.1; simp only [List.length_append, List.length_map, List.length_cons, List.length_nil] at i1 ⊢; omega, ?_⟩
      show List.replicate (k + 1 - _) 48 ++ (_ ++ [(Nat.digitChar (n % 16)).toNat]) = hx k (n / 16) ++ [dig (n % 16)]
      rw [← ih.2, dig_char hm, ← List.append_assoc]
      have el : ((Nat.toDigitsCore 16 f (n / 16) []).map Char.toNat ++ ([Nat.digitChar (n % 16)].map Char.toNat)).length = ((Nat.toDigitsCore 16 f (n / 16) []).map Char.toNat).length + 1 := by simp
      rw [el, show k + 1 - (((Nat.toDigitsCore 16 f (n / 16) []).map Char.toNat).length + 1) = k - ((Nat.toDigitsCore 16 f (n / 16) []).map Char.toNat).length by omega]
theorem toDigits_hx {n : Nat} (h : n < 16 ^ 16) : ((Nat.toDigits 16 n).map Char.toNat).length ≤ 16 ∧
    List.replicate (16 - ((Nat.toDigits 16 n).map Char.toNat).length) 48 ++ (Nat.toDigits 16 n).map Char.toNat = hx 16 n := core_hx 16 (n + 1) n (by decide) h (by omega)
theorem toDigits_ne (n : Nat) : ((Nat.toDigits 16 n).map Char.toNat).isEmpty = false := by
  unfold Nat.toDigits
  by_cases h0 : n / 16 = 0
  · unfold Nat.toDigitsCore
    simp [h0]
  · unfold Nat.toDigitsCore
    simp only [h0, if_false]
    rw [core_acc]
    simp
/-- the digits as they are counted -/
def hexDigits : List Nat := [48, 49, 50, 51, 52, 53, 54, 55, 56, 57, 97, 98, 99, 100, 101, 102]
theorem dig_mem {d : Nat} (h : d < 16) : dig d ∈ hexDigits := by
  have : ∀ d : Fin 16, dig d.val ∈ hexDigits := by decide +kernel
  exact this ⟨d, h⟩
theorem hx_mem : ∀ k n, ∀ c ∈ hx k n, c ∈ hexDigits
  | 0, _, c, h => by simp [hx] at h
  | k + 1, n, c, h => by
    rcases List.mem_append.mp h with h | h
    · exact hx_mem k _ c h
    · rw [List.mem_singleton.mp h]
      exact dig_mem (Nat.mod_lt _ (by decide))
/-- the value of a digit: its first place -/
def val (c : Nat) : Nat := hexDigits.idxOf c
def readHex (l : List Nat) : Nat := l.foldl (fun n c => n * 16 + val c) 0
theorem val_dig {d : Nat} (h : d < 16) : val (dig d) = d := by
  have : ∀ d : Fin 16, val (dig d.val) = d.val := by decide +kernel
  exact this ⟨d, h⟩
theorem read_hx : ∀ k n, n < 16 ^ k → readHex (hx k n) = n
  | 0, n, h => by
    rw [Nat.pow_zero] at h
    have : n = 0 := by omega
    subst this
    rfl
  | k + 1, n, h => by
    have h16 : n / 16 < 16 ^ k := by
      rw [Nat.div_lt_iff_lt_mul (by decide)]
      rw [Nat.pow_succ] at h
      exact h
    have ih := read_hx k _ h16
    unfold readHex at ih ⊢
    show (hx k (n / 16) ++ [dig (n % 16)]).foldl _ 0 = n
    rw [List.foldl_append, ih]
    show n / 16 * 16 + val (dig (n % 16)) = n
    rw [val_dig (Nat.mod_lt _ (by decide))]
    omega
/-- the address's text of a number -/
def hexS (n : Nat) : Str := ⟨(hx 16 n).toArray⟩
end LW
namespace LW
open PySem PySem.Spec PyProof.Rows L2
/-- the field of a number in sixteen hexadecimal digits -/
def fld (neg : Bool) (n : Nat) : Str :=
  let sg : List Nat := if neg then [45] else []
  let ds0 : List Nat := (Nat.toDigits 16 n).map fun c => c.toNat
  let other : Int := (sg.length : Int) + 0 + 0
  let room : Int := 16 - other
  let ds : List Nat := if ds0.isEmpty then [] else List.replicate (room.toNat - ds0.length) 48 ++ ds0
  let pad : Nat := (16 - other - (ds.length : Int)).toNat
  ⟨(List.replicate 0 48 ++ sg ++ [] ++ List.replicate pad 48 ++ ds ++ [] ++ List.replicate 0 48).toArray⟩
theorem iteNo {c : Prop} [Decidable c] {X Y : Prop} (hc : ¬ c) (h : Y) : if c then X else Y := by
  rw [if_neg hc]
  exact h
theorem iteYes {c : Prop} [Decidable c] {X Y : Prop} (hc : c) (h : X) : if c then X else Y := by
  rw [if_pos hc]
  exact h
theorem gives_hex (a : Int) (t u : Tok) : Gives (Builtin.«int.__format__» ⟨[.int a t, .str "016x" u], []⟩) (.str (fld (decide (a < 0)) a.natAbs)) := by
  intro prog w A R s hq
  unfold Builtin.«int.__format__»
  refine wpAny_bind (wpAny_of_eq (a := (_, _)) rfl ?_)
  refine wpAny_bind (wpAny_of_eq (a := a) rfl ?_)
  refine wpAny_bind (wpAny_typeNameOf (T := "str") (typeIs_str _ _ _) (by decide) fun _ => ?_)
  refine wpAny_bind (wpAny_of_eq (a := some _) rfl ?_)
  refine wpAny_ite (iteNo (by decide +kernel) ?_)
  refine wpAny_ite (iteNo (by decide +kernel) ?_)
  refine wpAny_bind (wpAny_typeNameOfCut_int ?_)
  have hp : Builtin.Float.parseFormatSpec (Str.ofString "016x").cps.toList "int" 62 = .ok ⟨48, 61, none, false, false, some 16, none, none, some 120⟩ := by rfl
  rw [hp]
  refine wpAny_ite (iteYes (by decide +kernel) ?_)
  exact Gives.of_eq (m := .str (fld (decide (a < 0)) a.natAbs)) rfl prog w A R s hq
end LW
namespace LW
open PySem PySem.Spec PyProof.Rows L2
theorem fld_hexS {n : Nat} (h : n < 16 ^ 16) : fld false n = hexS n := by
  have e := toDigits_hx h
  have l : (hx 16 n).length = 16 := hx_len 16 n
  unfold fld hexS
  simp only [toDigits_ne, Bool.false_eq_true, if_false, List.length_nil, List.replicate_zero, List.nil_append, List.append_nil]
  rw [show ((16 : Int) - (((0 : Nat) : Int) + 0 + 0)).toNat = 16 from rfl, show (fun c : Char => c.toNat) = Char.toNat from rfl, e.2, l]
  rfl
theorem gives_hexS {n : Nat} (h : n < 16 ^ 16) (t u : Tok) : Gives (Builtin.«int.__format__» ⟨[.int (n : Int) t, .str "016x" u], []⟩) (.str (hexS n)) := by
  have g := gives_hex (n : Int) t u
  rw [show decide ((n : Int) < 0) = false from decide_eq_false (by omega), Int.natAbs_natCast, fld_hexS h] at g
  exact g
theorem hexS_len (n : Nat) : (hexS n).length = 16 := by
  show (hx 16 n).toArray.size = 16
  rw [List.size_toArray, hx_len]
section
variable {X : Cx}
/-- {n:016x} -/
def tHex (te : TE) : TE := fun σ H Q => te σ H fun x H1 => ∃ n : Nat, x = .int (n : Int) ∧ n < 16 ^ 16 ∧ Q (.str (hexS n)) H1
theorem pe_hex {e : Expr} {te : TE} {j : Nat} {p1 p2 pos : Pos} (he : PE X e te) : PE X (.FormattedValue e (-1) (some (.JoinedStr [.Constant (.str "016x") j p1] p2)) pos) (tHex te) := by
  constructor
  intro pins s σ H Q I h
  refine wpAny_FormattedValue_spec (thn (he.run pins s σ H _ I h) ?_)
  rintro v s1 ⟨x, H1, I1, r1, n, ex, hn, q⟩
  subst ex
  obtain ⟨t, et⟩ := r1
  subst et
  refine wpAny_JoinedStr_one (Calls.Constant_str ⟨_, _, rfl, ?_⟩)
  refine wpAny_formatField_spec (by decide +kernel) (fun s' => typeIs_int s' (n : Int) t) F.slot_int_format F.entry_int_format F.args_int_format_2 (fun u => gives_hexS hn t u) ?_ (by decide +kernel)
    (by rw [hexS_len]; decide +kernel)
  exact ⟨.str (hexS n), H1, (I1.tok _).tok _, ⟨_, rfl⟩, q⟩
end
end LW
namespace LW
open PySem PySem.Spec PyProof.Rows L2
/-- as it was but at D -/
def But (D : Addr) (H H' : Hp) : Prop := ∀ b, b ≠ D → H' b = H b
theorem But.refl (D : Addr) (H : Hp) : But D H H := fun _ _ => rfl
theorem But.upd {D : Addr} {H : Hp} {o : HO} : But D H (upd H D o) := fun _ hb => upd_ne hb
theorem But.same {D : Addr} {H H' : Hp} (h : But D H H') (n : H D = none) : Same H H' := fun b o e => by
  rw [h b (ne_of_none e n)]
  exact e
theorem But.list {K : PySem.W.Frag} {D a : Addr} {H H' : Hp} {xs : List V} (h : But D H H') (n : H D = none) (s : SqL K H a xs) : SqL K H' a xs := (h.same n).seq s
theorem upd_eq {H H' : Hp} {D : Addr} {o : HO} (h : But D H H') (e : H' D = some o) : H' = upd H D o := by
  funext b
  by_cases hb : b = D
  · subst hb; rw [e, upd_same]
  · rw [h b hb, upd_ne hb]
section
variable {J : It} {n : Nat} {G : Hp → Prop} {Y : Nat → Hp → V → Hp → Prop}
/-- a comprehension whose parts make nothing -/
theorem lc_flt (w : Walk J n G Y) {j : Nat} {tt : TT} {te : TE} {vs : List Nat} {σ : L2.St} {H1 : Hp} {D : Addr} {Qd : Hp → Prop} (t : Nat → Bool) (f : Nat → V)
    (hn : n < 16000000) (hG : ∀ H, But D H1 H → G H) (hw : ∀ x, wipe ((wipe σ vs).set j (some x)) vs = wipe σ vs)
    (hs : ∀ i x H H', i < n → But D H1 H → Y i H x H' → H' = H ∧ (∀ Q : Bool → Hp → Prop, Q (t i) H → tt ((wipe σ vs).set j (some x)) H Q) ∧ (t i = true → ∀ Q : VK, Q (f i) H → te ((wipe σ vs).set j (some x)) H Q))
    (hd : Qd (upd H1 D (.lst (((List.range n).filter t).map f)))) :
    ∃ W : Nat → Nat → Hp → Prop, (∃ m, W 0 m (upd H1 D (.lst []))) ∧ ∀ i m H, W i m H →
      (J.stop i H ∧ Qd H) ∨ (J.go i H ∧ ∃ Nx : Hp → Prop, (∀ H', Nx H' → ∃ m', m' < m ∧ W (i + 1) m' H') ∧ ∀ x H', J.yld i H x H' → gName j x (wipe σ vs) H' fun σ2 H2 => wipe σ2 vs = wipe σ vs ∧ tt σ2 H2 fun b H3 =>
        if b = true then te σ2 H3 fun y H4 => ∃ acc, H4 D = some (.lst acc) ∧ acc.length < sizeLine ∧ Nx (upd H4 D (.lst (acc ++ [y]))) else Nx H3) := by
  refine lc_it w (fun i H => H = upd H1 D (.lst (((List.range i).filter t).map f))) rfl (fun i H _ e => hG H (by rw [e]; exact But.upd)) ?_ (fun H e => by rw [e]; exact hd)
  rintro i x H H' hi e hy
  have b1 : But D H1 H := by rw [e]; exact But.upd
  obtain ⟨e2, ht, he⟩ := hs i x H H' hi b1 hy
  subst e2
  have hD : H' D = some (.lst (((List.range i).filter t).map f)) := by rw [e, upd_same]
  refine ⟨hw x, ht _ ?_⟩
  rw [List.range_succ, List.filter_append, List.map_append]
  cases hti : t i with
  | true =>
    rw [if_pos rfl]
    refine he hti _ ⟨_, hD, ?_, ?_⟩
    · have l1 : (((List.range i).filter t).map f).length ≤ i := by
        rw [List.length_map]
        exact Nat.le_trans (List.length_filter_le _ _) (by rw [List.length_range]; exact Nat.le_refl _)
      exact Nat.lt_of_le_of_lt l1 (Nat.lt_trans hi (Nat.lt_trans hn (by decide)))
    · rw [e, upd_upd]
      simp [hti]
  | false =>
    rw [if_neg Bool.false_ne_true]
    simp [hti]
    exact e
theorem lc_map (w : Walk J n G Y) {j : Nat} {te : TE} {vs : List Nat} {σ : L2.St} {H1 : Hp} {D : Addr} {Qd : Hp → Prop} (f : Nat → V)
    (hn : n < 16000000) (hG : ∀ H, But D H1 H → G H) (hw : ∀ x, wipe ((wipe σ vs).set j (some x)) vs = wipe σ vs)
    (hs : ∀ i x H H', i < n → But D H1 H → Y i H x H' → H' = H ∧ ∀ Q : VK, Q (f i) H → te ((wipe σ vs).set j (some x)) H Q)
    (hd : Qd (upd H1 D (.lst ((List.range n).map f)))) :
    ∃ W : Nat → Nat → Hp → Prop, (∃ m, W 0 m (upd H1 D (.lst []))) ∧ ∀ i m H, W i m H →
      (J.stop i H ∧ Qd H) ∨ (J.go i H ∧ ∃ Nx : Hp → Prop, (∀ H', Nx H' → ∃ m', m' < m ∧ W (i + 1) m' H') ∧ ∀ x H', J.yld i H x H' → gName j x (wipe σ vs) H' fun σ2 H2 => wipe σ2 vs = wipe σ vs ∧ tYes σ2 H2 fun b H3 =>
        if b = true then te σ2 H3 fun y H4 => ∃ acc, H4 D = some (.lst acc) ∧ acc.length < sizeLine ∧ Nx (upd H4 D (.lst (acc ++ [y]))) else Nx H3) := by
  refine lc_flt w (tt := tYes) (fun _ => true) f hn hG hw (fun i x H H' hi hb hy => ?_) ?_
  · obtain ⟨e, k⟩ := hs i x H H' hi hb hy
    exact ⟨e, fun Q q => q, fun _ => k⟩
  · rw [List.filter_eq_self.mpr (fun _ _ => rfl)]
    exact hd
end
theorem range_map_get {α β : Type} (g : α → β) (d : α) (l : List α) : (List.range l.length).map (fun i => g (l.getD i d)) = l.map g := by
  apply List.ext_getElem
  · simp
  · intro i h1 h2
    simp at h1 h2 ⊢
    rw [List.getElem?_eq_getElem (by simpa using h1)]
    rfl
theorem cutV_map {α : Type} (g : α → V) (xs : List α) (lo hi : Option Int) : ∃ ys : List α, cutV (xs.map g) lo hi = ys.map g ∧ ys.length ≤ xs.length ∧ ∀ y ∈ ys, y ∈ xs := by
  refine ⟨(xs.drop (HT.sIx xs.length 0 lo)).take (HT.sIx xs.length xs.length hi - HT.sIx xs.length 0 lo), ?_, ?_, ?_⟩
  · unfold cutV
    rw [List.length_map, ← List.map_drop, ← List.map_take]
  · rw [List.length_take, List.length_drop]
    omega
  · intro y hy
    exact List.mem_of_mem_drop (List.mem_of_mem_take hy)
section
variable {X : Cx}
/-- repr(b) -/
theorem call_repr_bl : CallR X (.builtin "repr") (fun xs H Q => ∃ b : Bool, xs = [.bl b] ∧ Q (.str (if b then "True" else "False")) H) := by
  intro pins s σ H xs us Q I r h
  obtain ⟨b, rfl, q⟩ := h
  obtain ⟨u, rfl, r1⟩ := vals1 r
  cases (show u = Value.bool b from r1)
  exact PySem.P.repr_of_bool ⟨.str _, H, I.tok _, ⟨_, rfl⟩, q⟩
end
end LW
namespace LW
open PySem PySem.Spec PyProof.Rows L2
/-! ### super().__init__(..) in the __init__ of an own exception over ValueError -/
/-- what the written part says of the class and the code that stands there -/
structure SupAt (P : Program) (K : PySem.W.Frag) (C cc cda : Addr) : Prop where
  T : OexC K C
  cell : ∃ cl cld csl, K.lookup cc = some ⟨cl, cld, .cell (some (.ref C)), csl⟩
  code : ∃ ccl cdd ccs vs file tf, K.lookup cda = some ⟨ccl, cdd, .fields vs, ccs⟩ ∧ vs[2]? = some (.str file tf) ∧ ((P.main.file : Str) == file) = true
  top : (P.main.scope.names.lookup ("super" : Str)).isSome = false
  opq : PySem.W.nsIn K cStatics "thirdparty.any" = some none
  own : PySem.W.mroIn K C (.ref C) = some true
  sup : PySem.W.ks_superIn K C C "__init__" = some (some (.builtin "ValueError.__init__"))
  sub : PySem.W.subIn K (.ref C) (.type "ValueError") = some true
theorem boot_super : bootBuiltins "super" = some (.type "super") := by decide +kernel
section
variable {X : Cx} {pins : List (Addr × Obj)} {σ : L2.St} {H : Hp} {s : Shared}
theorem sup_init {a C cc cda f : Addr} {body rest : List Stmt} {e : Expr} {ta : TA} {p0 p1 p2 p3 pos : Pos} {ar : Arg} {of : Obj} {fd : FuncData} {Qf : Flow → Shared → Prop} {R : Hp → Prop} {i : Nat}
    (S : SupAt X.prog X.K C cc cda) (I : Inv X pins σ H s) (mS : X.mg "super" = none)
    (kf : X.K.lookup f = some of) (of1 : of.data = .func fd) (hp : (fd.params.posonlyargs ++ fd.params.args).head? = some ar)
    (ef : X.env.func = some f) (ec : X.env.code = .ref cda) (hks : X.env.kindOf "super" = some .globalImplicit) (hkc : X.env.kindOf "__class__" = some .free) (hcl : X.env.cells.lookup ("__class__" : Str) = some cc)
    (hka : X.env.kindOf ar.arg = some .local) (hN : X.N[i]? = some ar.arg) (hs : σ[i]? = some (some (.ref a)))
    (ha : H a = some (exo a C none)) (he : PA X [e] ta)
    (h : ta σ H fun vs H1 => vs.length ≤ 1000 ∧ H1 a = some (exo a C none) ∧ R H1)
    (q : ∀ H1 s1, Inv X pins σ H1 s1 → R H1 → H1 a = some (exo a C none) → wpAny (model X.prog X.w) X.A (execs rest X.env) Qf X.xe s1)
    (hi : interactive X.env = false) {pl : Sem Bool}
    (hc : eval (.Call (.Attribute (.Call (.Name "super" p0) [] [] p1) "__init__" p2) [e] [] p3) X.env = (do
      let ov ← attributeBase (.Call (.Name "super" p0) [] [] p1) "__init__" X.env (eval (.Call (.Name "super" p0) [] [] p1) X.env)
      standAt p2.atName
      let (f, first) ← holding [ov] (getMethod ov "__init__" pl)
      callWith p3 f first (backTo p3 (starEach [e] X.env)) []) := by rfl)
    (hst : starEach [e] X.env = (false, eval e X.env) :: starEach [] X.env := by rfl)
    (hsw : swapsWith (.Call (.Attribute (.Call (.Name "super" p0) [] [] p1) "__init__" p2) [e] [] p3) none pos.line X.env = pure false := by rfl) :
    PySem.wpAt (model X.prog X.w) X.A (.func body X.env) (execs (.Expr (.Call (.Attribute (.Call (.Name "super" p0) [] [] p1) "__init__" p2) [e] [] p3) pos :: rest) X.env) Qf X.xe s := by
  obtain ⟨nm, qn, N, bs, bm, sn, sub, ab, col, dd, k0, k1, k2, k3, k5, hC, hbm⟩ := S.T.cls
  obtain ⟨cl, cld, csl, hcell⟩ := S.cell
  obtain ⟨ccl, cdd, ccs, vs, file, tf, hcode, hvs, hfile⟩ := S.code
  obtain ⟨t1, hx⟩ := exo_at I.hok ha
  obtain ⟨mb, hb1, hb2⟩ := I.mod.blt
  have hcd : PySem.W.clsIn X.K C = some { name := nm, bases := bs, mro := .ref C :: bm, ns := N, qualname := qn, hasDict := true, slotNames := sn, subclasses := sub, abstract := ab, collection := col, hasDel := false } := by unfold PySem.W.clsIn; rw [hC] <;> rfl
  have sup := S.sup
  unfold PySem.W.ks_superIn at sup
  rw [hcd] at sup
  refine ks_wpAt_execs_cons (ks_wpAt_Expr_any (ks_wpAt_MethodCall (pl := pl) ?_ hc) hi hsw)
  refine ks_wpAt_super_base hks hkc (by decide) ef (I.kIn _ _ kf) of1 hp ec (I.kIn _ _ hcode) rfl hvs hfile S.top ?_
  refine PySem.W.ks_loadName_global I.ok.kind hks (Calls.loadGlobal_builtin (by rw [I.ok.glob]; exact I.mod.glob.keeps I.bk) mS (by rw [I.ok.blt]; exact hb1.keeps I.bk) ((hb2 "super" (by decide)).trans boot_super) ⟨rfl, ?_⟩)
  refine wpAny_loadName_free I.ok.kind hkc hcl ⟨_, I.kIn _ _ hcell, rfl⟩ ?_
  have hself : ∃ m, s.heap.Ns X.env.locals m ∧ m ar.arg = some (.ref a) := by
    obtain ⟨m, hn, hlk⟩ := I.loc
    obtain ⟨u, ru, L⟩ := hlk i ar.arg (.ref a) hN hs (.inl hka)
    cases (show u = Value.ref a from ru)
    rcases L with ⟨_, z⟩ | ⟨z, _⟩
    · exact ⟨m, hn, z⟩
    · rw [hka] at z
      rcases z with z | z <;> cases z
  obtain ⟨m, hns, hm⟩ := hself
  refine wpAny_loadName_local I.ok.kind hka hns hm ?_
  refine ks_wpAny_isType_cls (I.kIn _ _ hC) rfl ⟨rfl, ?_⟩
  obtain ⟨hp, g, d, t, os⟩ := s
  refine ks_wpAny_call_super (I.kIn _ _ hC) rfl hx rfl (fun c z => nomatch z) (PySem.W.looks_mroIn I.kIn S.own) (fun h' es k => ?_)
  have I1 : Inv X pins σ H ⟨h', g, d, t, os⟩ := I.kept (t' := t) k
  have hx1 := k _ _ hx
  have IA : PySem.W.InstAt h' a ({ cls := .ref C, dict := none, data := .fields #[.ref t1, .none, .none, .none, .bool false, .none] } : Obj) C none := ⟨hx1, rfl, rfl, trivial⟩
  refine PySem.W.kxs_getMethod PySem.W.kxs_ValueError es (PySem.W.looks_opaque I1.kIn S.opq) (l₀ := .ref C :: bm) ?_ rfl I1.kIn sup (IA.type.andThen (PySem.W.looks_subIn I1.kIn S.sub)) (PySem.W.ks_ne I1.kIn IA hcd) (by decide) ?_
  · exact fun A Q E s k q => wpAny_bind ((PySem.W.looks_clsIn I1.kIn hcd) A _ E s k (wpAny_pure q))
  · have szu : hp.objs.size < h'.objs.size := Heap.lt_size es
    have lex := Heap.lt_size hx1
    have k2 : ∀ b o, h'.get? b = some o → (h'.push (PySem.W.kxs_mw "ValueError.__init__" a)).get? b = some o := fun b o z => Heap.get?_push_of_some _ z
    have hu : (h'.push (PySem.W.kxs_mw "ValueError.__init__" a)).get? h'.objs.size = some (PySem.W.kxs_mw "ValueError.__init__" a) := Heap.get?_push_at rfl rfl
    have I2 : Inv X pins σ H ⟨h'.push (PySem.W.kxs_mw "ValueError.__init__" a), g, d, t + 1, os⟩ := I1.kept (t' := t + 1) k2
    have fpo := I1.fpOk (Nat.le_refl h'.objs.size) (I1.hok.fresh (Nat.le_refl _))
    have I3 : Inv X (pins ++ [(h'.objs.size, PySem.W.kxs_mw "ValueError.__init__" a)]) σ H ⟨h'.push (PySem.W.kxs_mw "ValueError.__init__" a), g, d, t + 1, os⟩ := I2.pins_of fun p hp => by
      rcases List.mem_append.mp hp with z | z
      · exact I2.pin p (List.mem_append_right _ z)
      · rw [List.mem_singleton.mp z]
        exact ⟨hu, fpo.1, fpo.2.1, fpo.2.2.1, fun v z => nomatch z⟩
    rw [hst]
    refine PySem.W.kxs_callWith (i := "ValueError.__init__") (x := a) rfl (Calls.evalArgs_plain ?_)
    have run := he.run p3 _ _ σ H _ I3 h
    rw [hst] at run
    refine thn run ?_
    rintro us s1 ⟨ws, H1, J, rv, hlen, ha1, hR⟩
    have hu1 : s1.heap.get? h'.objs.size = some (PySem.W.kxs_mw "ValueError.__init__" a) := (J.pin (h'.objs.size, PySem.W.kxs_mw "ValueError.__init__" a) (by simp)).1
    refine ⟨hu1, ?_⟩
    obtain ⟨t2, hx2⟩ := exo_at J.hok ha1
    have hz : us.length ≤ sizeLine := by
      rw [← Paired.length rv, sizeLine_eq]
      omega
    obtain ⟨h2, g2, d2, tk2, os2⟩ := s1
    refine wpAny_call (codeAny_of_tree ?_)
    show wpAny _ X.A.in1 (callAny (.ref h'.objs.size) ⟨us, []⟩) _ _ _
    simp only [callAny]
    refine wpAny_bind (wpAny_load hu1 ?_)
    simp only [PySem.W.kxs_mw, show (Value.type "method-wrapper" == Value.type "method" || Value.type "method-wrapper" == Value.type "builtin_function_or_method" || Value.type "method-wrapper" == Value.type "method-wrapper") = true by decide, if_true]
    refine PySem.W.KFB.if_so (by decide) ?_
    refine wpAny_bind (PySem.W.check_bound_init F.excBase_ValueError.toExcCallFacts (J.kIn _ _ hC) hx2 rfl ?_)
    refine wpAny_bind (wpAny_pure (wpAny_pure ?_))
    refine ⟨plainId_quiet F.excBase_ValueError.init.plain _, codeAny_builtin F.excBase_ValueError.initEntry ?_⟩
    refine PySem.W.exc_init_tree (cls := .ref C) (t0 := t2) (dv := none) (c2 := .none) (c3 := .none) (b4 := .bool false) hx2 hz fun h3 k3 e3 t3 => ?_
    have J2 := J.write (t' := tk2) (x := a) (e := a) (o := exo a C none) (by rw [ha1]; exact True.intro) (.inl rfl) k3 ⟨_, e3⟩ (exo_ok e3)
    have eu : upd H1 a (exo a C none) = H1 := by
      funext b
      by_cases hb : b = a
      · rw [hb, upd_same, ha1]
      · rw [upd_ne hb]
    rw [eu] at J2
    exact PySem.wpAt_of_wpAny (q H1 _ J2.unpinned hR ha1)
end
end LW
namespace LW
open PySem PySem.Spec PyProof.Rows L2
structure SupScope (N P : List Str) (sc : Scope) : Prop where
  kind : sc.kind = .function
  co : sc.isCoroutine = false
  gen : sc.isGenerator = false
  nd : N.Nodup
  pre : N.take P.length = P
  par : ∀ x ∈ P, sc.names.lookup x = some .local
  nocell : ∀ y ∈ sc.names, y.2 ≠ .cell
  free : ∀ y ∈ sc.names, y.2 = .free → y.1 = ("__class__" : Str)
def cxS (CX : CXT) (P : Program) (w : World) (K : PySem.W.Frag) (mg : Str → Option Value) (base : Heap) (N : List Str) (qual : Str) (scope : Scope) (f : Addr) (cd : Value) (cc : Addr) (A : Around) (outer : List Env) (s : Shared) (H : Hp) (E : XK) : Cx where
  prog := P
  w := w
  K := K
  mg := mg
  base := base
  A := A.deeper (PySem.W.ksEnv qual scope s.heap.objs.size f cd cc)
  N := N
  s_0 := s
  H_0 := H
  env := PySem.W.ksEnv qual scope s.heap.objs.size f cd cc
  outer := outer
  stack := PySem.W.ksEnv qual scope s.heap.objs.size f cd cc :: outer
  ex := []
  calm := true
  fn := fun _ => false
  pn := []
  xe := fun e s' => wpAny (model P w) (A.deeper (PySem.W.ksEnv qual scope s.heap.objs.size f cd cc)) (leaving (PySem.W.ksEnv qual scope s.heap.objs.size f cd cc) e) (fun _ s'' => CX outer H s E e s'') (fun e' s'' => CX outer H s E e' s'') s'
theorem zip_lookup {P : List Str} {us : List Value} {i : Nat} {x : Str} {v : Value} (nd : P.Nodup) (h1 : P[i]? = some x) (h2 : us[i]? = some v) : (P.zip us).reverse.lookup x = some v := by
  induction P generalizing us i with
  | nil => simp at h1
  | cons p r ih =>
    cases us with
    | nil => simp at h2
    | cons u us =>
      show ((p, u) :: r.zip us).reverse.lookup x = some v
      rw [List.reverse_cons, List.lookup_append]
      cases i with
      | zero =>
        simp at h1 h2
        subst h1
        subst h2
        have : (r.zip us).reverse.lookup p = none := by
          cases e : (r.zip us).reverse.lookup p with
          | none => rfl
          | some w =>
            have m := PySem.mem_of_lookup e
            rw [List.mem_reverse] at m
            exact absurd (List.of_mem_zip m).1 (List.nodup_cons.mp nd).1
        rw [this]
        simp
      | succ i =>
        rw [ih (List.nodup_cons.mp nd).2 (by simpa using h1) (by simpa using h2)]
        rfl
theorem inv_sup {CX : CXT} {P : Program} {w : World} {K : PySem.W.Frag} {mg : Str → Option Value} {base : Heap} {N ps : List Str} {qual : Str} {scope : Scope} {f cc : Addr} {cd : Value} {A : Around} {outer : List Env} {s : Shared} {H : Hp} {E : XK} {us : List Value} {vs : List V} {h₀ : Heap} {tk : Nat} {oc : Obj} {vc : Option Value}
    (S : SupScope N ps scope) (hd : A.handled = none) (e0 : Env0 P w K mg base A outer s H) (hl : vs.length = ps.length) (r : Vals vs us) (hcc : K.lookup cc = some oc) (hvc : oc.data = .cell vc)
    (hns : h₀.Ns s.heap.objs.size (fun x => (ps.zip us).reverse.lookup x)) (hk : ∀ b o, s.heap.get? b = some o → h₀.get? b = some o) :
    Inv (cxS CX P w K mg base N qual scope f cd cc A outer s H E) [] (start N vs) H { s with heap := h₀, toks := tk } := by
  have hpl : ps.length ≤ N.length := by have := congrArg List.length S.pre; rw [List.length_take] at this; omega
  have noA : ∀ b : Addr, b ∉ (cxS CX P w K mg base N qual scope f cd cc A outer s H E).ex := fun b z => absurd (show b ∈ ([] : List Addr) from z) (by simp)
  have only : ∀ y c, (cxS CX P w K mg base N qual scope f cd cc A outer s H E).env.cells.lookup y = some c → y = ("__class__" : Str) ∧ c = cc := fun y c z => by
    have m : (y, c) ∈ [(("__class__" : Str), cc)] := PySem.mem_of_lookup z
    have e := List.mem_singleton.mp m
    cases e
    exact ⟨rfl, rfl⟩
  have kin : K.In s.heap := e0.mod.kin.keeps fun b o e => (e0.bs b o e).1
  have ccH : H cc = none := (e0.bs cc oc (e0.mod.kin _ _ hcc)).2
  refine ⟨⟨e0.mod, S.kind, rfl, rfl, Nat.le_refl _, fun y z c h1 h2 => (only y c h1).1.trans (only z c h2).1.symm, fun y hy => ?_, fun y c z _ => absurd (show false = true from z) Bool.false_ne_true, fun _ => hd, Around.frames_deeper e0.frames, .inr ⟨rfl, rfl⟩, fun b z => absurd z (noA b), e0.bs, e0.bsz, fun b _ _ => noA b, fun b z => absurd z (noA b), e0.funs, e0.frf⟩,
    rfl, e0.bare, Un.kept hk, ⟨_, hns, fun i y v h1 h2 h3 => ?_⟩, fun y c h => ?_, e0.hok.fresh (Nat.le_refl _), fun y c h => ?_, fun p hp => absurd (show p ∈ ([] : List (Addr × Obj)) from hp) (by simp), e0.hok.kept hk, ?_⟩
  · have hy : scope.names.lookup y = some .cell ∨ scope.names.lookup y = some .free := hy
    rcases hy with hy | hy
    · exact absurd rfl (S.nocell _ (PySem.mem_of_lookup hy))
    · have e := S.free _ (PySem.mem_of_lookup hy) rfl
      cases e
      exact ⟨cc, rfl⟩
  · have hi : i < vs.length := by
      unfold L2.start at h2
      by_cases hi : i < vs.length
      · exact hi
      · rw [List.getElem?_append_right (by simpa using hi)] at h2
        rw [List.getElem?_replicate] at h2
        split at h2 <;> cases h2
    have ha : vs[i]? = some v := by
      unfold L2.start at h2
      rw [List.getElem?_append_left (by simpa using hi), List.getElem?_map] at h2
      cases e : vs[i]? with
      | none => rw [e] at h2; cases h2
      | some a => rw [e] at h2; cases h2; rfl
    obtain ⟨u, hu, rv⟩ := r.get ha
    have hp : ps[i]? = some y := by
      rw [← S.pre, List.getElem?_take_of_lt (by omega)]; exact h1
    have ndP : ps.Nodup := by rw [← S.pre]; exact S.nd.sublist (List.take_sublist _ _)
    exact ⟨u, rv, .inl ⟨S.par y (List.mem_of_getElem? hp), zip_lookup ndP hp hu⟩⟩
  · rw [(only y c h).2]
    exact ⟨vc, oc, hk _ _ (kin _ _ hcc), hvc⟩
  · rw [(only y c h).2]
    exact ccH
  · unfold L2.start
    show _ = N.length
    rw [List.length_append, List.length_map, List.length_replicate]
    omega
/-- THE RULE: a def whose scope has the free name __class__, by its body -/
theorem fn_sup {CX : CXT} {P : Program} {w : World} {K : PySem.W.Frag} {mg : Str → Option Value} {base : Heap} {k : Nat} {f cc : Addr} {name qual : Str} {params : Arguments} {body : List Stmt} {scope : Scope} {dV kV doc pm cdv ct oc : Value} {an od : Option Addr}
    {osl : Array (Option Value)} {N ps : List Str} {sp : Sp} {occ : Obj} {vc : Option Value} (lk : K.lookup f = some ⟨oc, od, .func (PySem.W.ksFn name qual params body scope dV kV doc pm an cdv ct cc), osl⟩) (hcd : PySem.W.codeIn K cdv qual = true) (hcc : K.lookup cc = some occ) (hvc : occ.data = .cell vc)
    (S : SupScope N ps scope) (len : ∀ vs H Q E, sp vs H Q E → vs.length = ps.length)
    (hbody : ∀ (A : Around) (outer : List Env) (s : Shared) (H : Hp) (vs : List V) (Q : VK) (E : XK) (s1 : Shared), Room k (A.deeper (PySem.W.ksEnv qual scope s.heap.objs.size f cdv cc)) → sp vs H Q E →
      Inv (cxS CX P w K mg base N qual scope f cdv cc A outer s H E) [] (L2.start N vs) H s1 →
      PySem.wpAt (model P w) (A.deeper (PySem.W.ksEnv qual scope s.heap.objs.size f cdv cc)) (.func body (PySem.W.ksEnv qual scope s.heap.objs.size f cdv cc)) (execs body (PySem.W.ksEnv qual scope s.heap.objs.size f cdv cc))
        (SP (cxS CX P w K mg base N qual scope f cdv cc A outer s H E) [] { nx := fun _ H' => Q .non H', rt := Q }) (cxS CX P w K mg base N qual scope f cdv cc A outer s H E).xe s1) :
    FnOk P w K mg base CX (k + 1) f (PySem.W.ksFn name qual params body scope dV kV doc pm an cdv ct cc) ps sp := by
  refine ⟨len, fun A outer s H args us vs Q E hr e0 hb r hsp => ?_⟩
  have hl := len _ _ _ _ hsp
  have KX : K.In s.heap := e0.mod.kin.keeps fun b o e => (e0.bs b o e).1
  have lim : s.heap.NoLimit := e0.mod.nolimit.keeps fun b o e => (e0.bs b o e).1
  refine ks_codeAny_call_defAt (fd := PySem.W.ksFn name qual params body scope dV kV doc pm an cdv ct cc) (body := body) (binds := ps.zip us) hr.depth (KX _ _ lk) rfl lim (PySem.W.codeRec_of KX hcd) rfl hb S.nocell
    (fun y hy => S.par _ (List.of_mem_zip (show (y.1, y.2) ∈ ps.zip us from hy)).1) (fun h₁ hns hk₁ => ?_) S.co S.gen S.kind
  have I : Inv (cxS CX P w K mg base N qual scope f cdv cc A outer s H E) [] (L2.start N vs) H { s with heap := h₁, toks := s.toks + (ps.zip us).length } := inv_sup S hr.hd e0 hl r hcc hvc hns hk₁
  refine ks_wpAt_mono (hbody A outer s H vs Q E _ (hr.deeper _) hsp I) (fun fl s' hs => ?_) fun e s' hs => hs
  have fin : ∀ {σ' : L2.St} {H' : Hp} {v : V} {u : Value}, Inv (cxS CX P w K mg base N qual scope f cdv cc A outer s H E) [] σ' H' s' → RelV v u → Q v H' → CE outer P w H s Q u s' :=
    fun {σ' H' v u} J rv q => ⟨v, H', J.os, J.bare, J.base, J.hok, rv, q⟩
  cases fl with
  | ret u =>
    obtain ⟨v, σ', H', J, rv, q⟩ := hs
    exact fin J rv q
  | next =>
    obtain ⟨σ', H', J, q⟩ := hs
    exact fin (v := V.non) (u := Value.none) J rfl q
  | brk =>
    obtain ⟨_, _, _, q⟩ := hs
    exact False.elim q
  | cont =>
    obtain ⟨_, _, _, q⟩ := hs
    exact False.elim q
end LW
namespace LW
open PySem PySem.Spec PyProof.Rows L2
/-! ### enumerate(list, start=c) -/
/-- the list at a as it stands at each turn, each item in a new pair behind c + i -/
def IteC (K : PySem.W.Frag) (c : Int) (a : Addr) : It where
  go := fun i H => ∃ (xs : List V) (x : V), SqL K H a xs ∧ xs[i]? = some x
  yld := fun i H v H' => ∃ T x, v = .ref T ∧ H T = none ∧ H' = upd H T (.tup [.int (c + (i : Nat)), x]) ∧ ∀ xs, SqL K H a xs → xs[i]? = some x
  stop := fun i H => ∃ xs : List V, SqL K H a xs ∧ xs.length ≤ i
theorem apart_cls {h : Heap} {a b : Addr} {o o' : Obj} (e : h.get? a = some o) (e' : h.get? b = some o') (n : o.cls ≠ o'.cls) : a ≠ b := by
  intro z
  subst z
  rw [e] at e'
  cases e'
  exact n rfl
theorem turn_enumC {P : Program} {w : World} {K : PySem.W.Frag} {elts : List Expr} {kk : Nat} {tp : Pos} (c : Int) (a e it : Addr) :
    Turn P w K (.Tuple elts kk tp) (IteC K c a) [e, it] e (fun i h => (∃ old, IsEnum h e it (c + (i : Nat)) old) ∧ h.IsListIter it a i ∧ e ≠ it) where
  mem := by simp
  obj := by
    rintro i h ⟨⟨old, he⟩, ⟨o, ho, hc, hd⟩, _⟩ b hb
    have e' : b = e ∨ b = it := by simpa using hb
    rcases e' with z | z
    · subst z
      exact ⟨_, he, fun v q => nomatch q⟩
    · subst z
      exact ⟨o, ho, fun v q => by rw [hd] at q; cases q⟩
  keep := by
    rintro i h h' ⟨⟨old, he⟩, hi, hne⟩ k
    exact ⟨⟨old, k e (by simp) _ he⟩, hi.at fun o q => k it (by simp) o q, hne⟩
  item := by
    intro X hP hw hK hc i pins s σ H E I hf st hg
    subst hP
    subst hw
    subst hK
    obtain ⟨⟨old, he⟩, hit, hne⟩ := st
    obtain ⟨xs, x, hq, hx⟩ := hg
    obtain ⟨its, rv, p, hz⟩ := I.list hq
    obtain ⟨u, hu, ru⟩ := rv.get hx
    have hel := Heap.lt_size he
    have hil : it < s.heap.objs.size := by
      obtain ⟨_, q, _⟩ := hit
      exact Heap.lt_size q
    have hl := p.isList
    have nli : a ≠ it := by
      obtain ⟨o1, q1, c1, _⟩ := hit
      obtain ⟨o2, q2, c2, _⟩ := hl
      exact apart_cls q2 q1 (by rw [c1, c2]; decide)
    have nel : e ≠ a := by
      obtain ⟨o2, q2, c2, _⟩ := hl
      exact apart_cls he q2 (by rw [c2]; show Value.type "enumerate" ≠ Value.type "list"; decide)
    have D := Draws.list (prog := X.prog) (w := X.w) (A := X.A.in1) (I.ok.hd hc) it a nli its.toArray
    have hlt : i < its.toArray.size := by
      have := (List.getElem?_eq_some_iff.mp hu).1
      simpa using this
    refine wpAny_pyNext_enum_itemC D he ⟨hit, hl⟩ hlt hne (by simp [hne, nel]) ?_
    intro y h' tk hy ho hst hT hsz hk
    have ey : y = u := by
      have h1 : its.toArray[i]? = some y := hy
      rw [List.getElem?_toArray, hu] at h1
      exact (Option.some.inj h1).symm
    subst ey
    refine ⟨_, rfl, wpAny_letOwnedTupleGo_enum (s := { s with heap := h', toks := tk + 1 }) ho ?_⟩
    intro h2 he2 sb
    have hT2 : h2.get? s.heap.objs.size = some { cls := .type "tuple", data := .seq #[.int (c + (i : Nat)) tk, y] } := (sb.2 _ (Nat.ne_of_gt hel)).trans hT
    have new : ObjOk X.prog X.w (upd H s.heap.objs.size (.tup [.int (c + (i : Nat)), x])) h2 s.heap.objs.size (.tup [.int (c + (i : Nat)), x]) :=
      ⟨by show 2 ≤ sizeLine; decide, [.int (c + (i : Nat)) tk, y], .cons ⟨_, rfl⟩ (.cons ru .nil), ⟨_, hT2, rfl, _, rfl⟩⟩
    have I1 := I.turnedNew (ch := [e, it]) (h' := h2) (t' := tk + 1) (T := s.heap.objs.size) (ob := .tup [.int (c + (i : Nat)), x])
      (fun b ob hb q => (sb.2 b (fun z => hb (by simp [z]))).trans (hk b ob (fun z => hb (by simp [z])) (fun z => hb (by simp [z])) q)) hf (Nat.le_refl _) new
    refine ⟨.ref s.heap.objs.size, _, I1, rfl, ⟨_, x, rfl, I.hok.fresh (Nat.le_refl _), rfl, ?_⟩, ⟨⟨y, ?_⟩, hst.1.at fun o q => (sb.2 it (Ne.symm hne)).trans q, hne⟩, ?_⟩
    · intro ys hy
      rw [I.list_inj hy hq]
      exact hx
    · have e1 : c + ((i + 1 : Nat) : Int) = c + (i : Int) + 1 := by omega
      rw [e1]
      exact he2
    · intro b hb
      have e' : b = e ∨ b = it := by simpa using hb
      have hb' : b < s.heap.objs.size := by
        rcases e' with z | z
        · rw [z]; exact hel
        · rw [z]; exact hil
      rw [upd_ne (Nat.ne_of_lt hb')]
      exact (hf b hb).1
  done := by
    intro X hP hw hK hc i pins s σ H E I hf st hg
    subst hP
    subst hw
    subst hK
    obtain ⟨⟨old, he⟩, hit, hne⟩ := st
    obtain ⟨xs, hq, hx⟩ := hg
    obtain ⟨its, rv, p, hz⟩ := I.list hq
    have hl := p.isList
    have nli : a ≠ it := by
      obtain ⟨o1, q1, c1, _⟩ := hit
      obtain ⟨o2, q2, c2, _⟩ := hl
      exact apart_cls q2 q1 (by rw [c1, c2]; decide)
    obtain ⟨f0, f1, f2, f3, f4, f5⟩ := hf it (by simp)
    have len := rv.length
    have hTy : s.TypeIs (.ref e) "enumerate" := ⟨_, he, rfl⟩
    unfold pyNext
    refine wpAny_bind (wpAny_attempt (wpAny_callSpecial?_slot (name := Str.ofString "__next__") hTy F.slot_enumerate_next (wpAny_call_entry F.slot_enumerate_next hTy F.entry_enumerate_next ?_ (F.args_enumerate_next_1 _))))
    show wpAny _ _ (field (.ref e) 2 >>= _) _ _ _
    refine wpAny_bind (wpAny_field he rfl (x := .ref it) rfl ?_)
    refine wpAny_bind (wpAny_nextOf_list_end (I.ok.hd hc) hit hl (by simp; omega) ?_)
    rintro h' x he' ⟨o, ho, hcl⟩
    refine wpAny_bind (wpAny_isInstance (T := "StopIteration") (b := true) ⟨o, ho, hcl⟩ isSubtype_stop ?_)
    exact wpAny_pure ⟨rfl, I.turned (t' := s.toks) (fun b o hb q => he' b o hb q) f0 f1 f3 f4 f5⟩
  self := by
    rintro A i s Q E ⟨⟨_, he⟩, _⟩ h
    exact wpAny_pyIter_enum he h
theorem callWith_tyKw {M : Model} {A : Around} {E : Value → Shared → Prop} {s : Shared} {env : Env} {pos : Pos} {T : String} {e : Expr} {rest : List Expr} {kws : List Keyword} {Q : Value → Shared → Prop}
    (h : wpAny M A (spliced (backTo pos (starEach (e :: rest) env))) (fun vs s1 => wpAny M A (evalAll ((backToKw pos (keywordEach kws env)).map (·.2)))
      (fun kvs s2 => wpAny M A (call (.type T) vs (((backToKw pos (keywordEach kws env)).filterMap (·.1)).zip kvs)) Q E s2) E s1) E s)
    (he : backTo pos (starEach (e :: rest) env) = (false, eval e env) :: backTo pos (starEach rest env) := by rfl)
    (hp : (backTo pos (starEach (e :: rest) env)).any (·.1) = false := by rfl)
    (hall : (backToKw pos (keywordEach kws env)).all (·.1.isSome) = true := by rfl)
    (hkw : (backToKw pos (keywordEach kws env)).any (·.1.isNone) = false := by rfl) :
    wpAny M A (callWith pos (.type T) [] (backTo pos (starEach (e :: rest) env)) (backToKw pos (keywordEach kws env))) Q E s := by
  have g : wpAny M A (evalArgs (.type T) true (backTo pos (starEach (e :: rest) env)) (backToKw pos (keywordEach kws env))) (fun a s1 => wpAny M A (call (.type T) ([] ++ a.pos) a.kw) Q E s1) E s := by
    rw [he] at h ⊢
    exact evalArgs_kwB hall h
  unfold callWith
  refine wpAny_bind (wpAny_holding (wpAny_mono g (fun a s1 h1 => wpAny_bind (wpAny_standAt ?_)) fun _ _ z => z))
  simp only [hp, hkw, Bool.or_false]
  refine wpAny_bind (wpAny_pure ?_)
  exact wpAny_bind (wpAny_mono h1 (fun r s2 hr => wpAny_bind (wpAny_holding (wpAny_point (wpAny_pure hr)))) fun _ _ z => z)
def iEnumC (K : PySem.W.Frag) (ta tk : TA) : TI := fun σ H R => ta σ H fun vs H1 => tk σ H1 fun ks H2 => ∃ (a : Addr) (c : Int) (xs : List V), vs = [.ref a] ∧ ks = [.int c] ∧ -(2 ^ 63) ≤ c ∧ c < 2 ^ 63 ∧ SqL K H2 a xs ∧ R (IteC K c a) H2
theorem pi_enumC {X : Cx} {e se : Expr} {ta tk : TA} {p pos kp tp : Pos} {elts : List Expr} {kk : Nat} (hg : Gl X "enumerate") (hm : X.mg "enumerate" = none) (ha : PA X [e] ta) (hk : PK X [⟨some "start", se, kp⟩] tk)
    (hs : starEach [e] X.env = [(false, eval e X.env)] := by rfl) :
    PI X (.Tuple elts kk tp) (.Call (.Name "enumerate" p) [e] [⟨some "start", se, kp⟩] pos) (iEnumC X.K ta tk) := by
  constructor
  intro pins s σ H R I h
  refine wpAny_Call_Name_kw (ld_blt I hg hm boot_enumerate (callWith_tyKw (kws := [⟨some "start", se, kp⟩]) (thn (ha.run pos pins s σ H _ I h) ?_) (by rw [hs]; rfl) (by rw [hs]; rfl)))
  rintro us s1 ⟨vs, H1, I1, r1, q1⟩
  refine thn (hk.run pos pins s1 σ H1 _ I1 q1) ?_
  rintro ws s2 ⟨ks, H2, I2, r2, a, c, xs, ea, ec, c0, c1, hq, q⟩
  subst ea
  subst ec
  cases r1 with
  | cons r rr =>
    cases rr
    cases r
    cases r2 with
    | cons r' rr' =>
      cases rr'
      obtain ⟨t, et⟩ := r'
      subst et
      obtain ⟨its, rv, p', hz⟩ := I2.list hq
      show wpAny _ _ (call (.type "enumerate") [.ref a] [(Str.ofString "start", .int c t)]) _ _ _
      refine enum_begins_start (begins_list a its.toArray) p'.isList c0 c1 ?_
      intro h' he hit hsz hkp
      have hiter : h'.IsListIter s2.heap.objs.size a 0 := ⟨_, hit, rfl, rfl⟩
      refine wpAny_pyIter_enum he ?_
      have I3 : Inv X pins σ H2 { s2 with heap := h' } := I2.kept (t' := s2.toks) hkp
      refine ⟨s2.heap.objs.size + 1, [s2.heap.objs.size + 1, s2.heap.objs.size], _, _, H2, rfl, I3, turn_enumC c a (s2.heap.objs.size + 1) s2.heap.objs.size, ⟨⟨.none, ?_⟩, hiter, Nat.succ_ne_self _⟩, ?_, q⟩
      · rw [show c + ((0 : Nat) : Int) = c by omega]
        exact he
      · intro b hb
        have e' : b = s2.heap.objs.size + 1 ∨ b = s2.heap.objs.size := by simpa using hb
        have hle : s2.heap.objs.size ≤ b := by
          rcases e' with z | z
          · rw [z]; exact Nat.le_add_right _ _
          · rw [z]; exact Nat.le_refl _
        exact I2.fpOk hle (I2.hok.fresh hle)
theorem walk_enumC {K : PySem.W.Frag} {c : Int} {a : Addr} {xs : List V} : Walk (IteC K c a) xs.length (fun H => SqL K H a xs) (YPair (fun i => some (.int (c + (i : Nat)))) (fun i => xs[i]?)) := by
  refine ⟨fun i _ hi q => ⟨xs, xs[i], q, by simp [hi]⟩, fun _ q => ⟨xs, q, Nat.le_refl _⟩, ?_⟩
  rintro i H v H' _ q ⟨T, x, h1, h2, h3, h4⟩
  exact ⟨T, .int (c + (i : Nat)), x, h1, h2, h3, rfl, h4 xs q⟩
end LW
namespace LW
open PySem PySem.Spec PyProof.Rows L2 GxR
/-- sixteen hexadecimal digits -/
def isAddr (t : Str) : Bool := decide (t.length = 16) && t.cps.toList.all fun c => decide (c ∈ hexDigits)
theorem digits_eq : (Str.ofString "0123456789abcdef").cps.toList = hexDigits := by decide +kernel
/-- a def of the text whose code object stands at c -/
structure FunC (K : PySem.W.Frag) (x qual : Str) (st : Stmt) (f : Addr) (fd : FuncData) (c : Addr) : Prop where
  ex : ∃ (oc : Value) (od : Option Addr) (kV doc pm : Value) (an : Option Addr) (ct : Value) (osl : Array (Option Value)),
    fd = PySem.W.fnOf x qual (defArgs st) (defBody st) (defScope st) .none kV doc pm an (.ref c) ct ∧ K.lookup f = some ⟨oc, od, .func fd, osl⟩ ∧ PySem.W.codeIn K (.ref c) qual = true
  kp : PySem.W.keepIn K (.ref f) = true
theorem FunC.ok {P : Program} {w : World} {K : PySem.W.Frag} {mg : Str → Option Value} {base : Heap} {x qual : Str} {st : Stmt} {f c : Addr} {fd : FuncData} {N ps : List Str} {k : Nat} {sp : Sp} (F : FunC K x qual st f fd c)
    (S : FnScope N ps (defScope st)) (len : ∀ vs H Q E, sp vs H Q E → vs.length = ps.length)
    (body : ∀ (A : Around) (outer : List Env) (s : Shared) (H : Hp) (vs : List V) (Q : VK) (E : XK), Room k (A.deeper (envOfC qual (defScope st) s.heap.objs.size f (.ref c))) → sp vs H Q E →
      ∃ t, PSs (cxOf CX0 P w K mg base N qual (defScope st) f (.ref c) A outer s H E).nox (defBody st) t ∧ t { nx := fun _ H' => Q .non H', rt := Q } (L2.start N vs) H) :
    FnOk P w K mg base CX0 (k + 1) f fd ps sp := by
  obtain ⟨oc, od, kV, doc, pm, an, ct, osl, e, lk, hcd⟩ := F.ex
  subst e
  refine fn_of lk hcd S len fun A outer s H vs Q E hr hsp => ?_
  obtain ⟨t, h, q⟩ := body A outer s H vs Q E hr hsp
  exact ⟨t, h.nox, q⟩
theorem no_free {ns : List (Str × NameKind)} {R : Str × NameKind → Prop} (h : ∀ y ∈ ns, y.2 ≠ .free) : ∀ y ∈ ns, y.2 = .free → R y := fun y hy e => absurd e (h y hy)
/-- a def of the module by its name -/
structure DefAt (K : PySem.W.Frag) (mg : Str → Option Value) (x : Str) (st : Stmt) (ps : List Str) (f : Addr) (fd : FuncData) : Prop where
  fn : Fun K x x st f fd
  at_ : mg x = some (.ref f)
  bd : Binds K fd ps []
theorem tyes {σ : L2.St} {H : Hp} {A B : Hp → Prop} (h : A H) : tYes σ H fun b H3 => if b = true then A H3 else B H3 := by
  show (if true = true then A H else B H)
  rw [if_pos rfl]
  exact h
theorem same_upd {H : Hp} {p : Addr} {o : HO} (h : H p = none) : Same H (upd H p o) := fun b x e => by
  rw [upd_ne (ne_of_none e h)]
  exact e
theorem nat_of {v m : Int} (h0 : 0 ≤ v) (h1 : v < m) : ∃ j : Nat, v = (j : Int) ∧ (j : Int) < m := ⟨v.toNat, by omega, by omega⟩
/-! ### the law's own state: a pair of addresses -/
def LS (H : Hp) (a c : Addr) (n : Int) (cs : List Int) : Prop :=
  H a = some (.lst [.int n, .ref c]) ∧ H c = some (.lst (cs.map V.int)) ∧ a ≠ c ∧ 0 < cs.length ∧ cs.length ≤ 63 ∧ (∀ z ∈ cs, 0 ≤ z) ∧ 0 ≤ n
def SL (H : Hp) (a c : Addr) : Prop := ∃ n cs, LS H a c n cs
theorem SL.eq {H H' : Hp} {a c : Addr} (s : SL H a c) (ea : H' a = H a) (ec : H' c = H c) : SL H' a c := by
  obtain ⟨n, cs, h1, h2, r⟩ := s
  exact ⟨n, cs, by rw [ea]; exact h1, by rw [ec]; exact h2, r⟩
theorem SL.same {H H' : Hp} {a c : Addr} (s : SL H a c) (e : Same H H') : SL H' a c := by
  obtain ⟨n, cs, h1, h2, r⟩ := s
  exact ⟨n, cs, e _ _ h1, e _ _ h2, r⟩
theorem SL.ne {H : Hp} {a c x : Addr} (s : SL H a c) (n : H x = none) : x ≠ a ∧ x ≠ c := by
  obtain ⟨_, cs, h1, h2, r⟩ := s
  exact ⟨(ne_of_none h1 n).symm, (ne_of_none h2 n).symm⟩
theorem SL.tab {H : Hp} {a c B : Addr} (s : SL H a c) (t : TabG H B) : B ≠ a ∧ B ≠ c := by
  obtain ⟨_, cs, h1, h2, r⟩ := s
  obtain ⟨ps, e, _⟩ := t
  exact ⟨ne_of e h1 (by intro q; cases q), ne_of e h2 (by intro q; cases q)⟩
theorem tab_same {H H' : Hp} {B : Addr} (t : TabG H B) (e : Same H H') : TabG H' B := by
  obtain ⟨ps, h, r⟩ := t
  exact ⟨ps, e _ _ h, r⟩
theorem tab_eq {H H' : Hp} {B : Addr} (t : TabG H B) (e : H' B = H B) : TabG H' B := by
  obtain ⟨ps, h, r⟩ := t
  exact ⟨ps, by rw [e]; exact h, r⟩
def spState (K : PySem.W.Frag) : Sp := fun vs H Q _ => ∃ (l : Addr) (ns : List Int), vs = [.ref l] ∧ SqL K H l (ns.map V.int) ∧ ns.length ≤ 63 ∧
  ∀ (a c : Addr) (H' : Hp), H a = none → H c = none → Same H H' → SL H' a c → Q (.ref a) H'
/-- a draw: 0 .. m - 1 -/
def spTake : Sp := fun vs H Q _ => ∃ (a c : Addr) (m : Int), vs = [.ref a, .int m] ∧ SL H a c ∧ 1 ≤ m ∧ m < 1000000 ∧
  ∀ (v : Int) (H' : Hp), 0 ≤ v → v < m → (∀ b, b ≠ a → b ≠ c → H' b = H b) → SL H' a c → Q (.int v) H'
theorem at2_0 {x y : V} : atI [x, y] 0 = some x := rfl
theorem at2_1 {x y : V} : atI [x, y] 1 = some y := rfl
/-! ### as it was, but for tables of code that may have grown -/
structure Gr (H H' : Hp) : Prop where
  keep : ∀ b o, H b = some o → (∀ ps, o ≠ .tbl ps) → H' b = some o
  tab : ∀ b, TabG H b → TabG H' b
  free : ∀ b, H' b = none → H b = none
theorem Gr.refl (H : Hp) : Gr H H := ⟨fun _ _ e _ => e, fun _ t => t, fun _ n => n⟩
theorem Gr.trans {H H1 H2 : Hp} (g : Gr H H1) (h : Gr H1 H2) : Gr H H2 := ⟨fun b o e n => h.keep b o (g.keep b o e n) n, fun b t => h.tab b (g.tab b t), fun b n => g.free b (h.free b n)⟩
theorem Gr.of_same {H H' : Hp} (s : Same H H') : Gr H H' := ⟨fun b o e _ => s b o e, fun b t => tab_same t s, fun b n => by
  cases e : H b with
  | none => rfl
  | some o => rw [s b o e] at n; cases n⟩
theorem Gr.of_tab {H H' : Hp} {B : Addr} (tb : TabG H B) (t : Tabbed B H H') : Gr H H' := ⟨fun b o e n => by
  obtain ⟨ps, h, _⟩ := tb
  rw [t.2 b (fun z => by rw [z, h] at e; cases e; exact n ps rfl)]
  exact e, fun b u => by
    by_cases hb : b = B
    · rw [hb]; exact t.1
    · exact tab_eq u (t.2 b hb), fun b n => by
    by_cases hb : b = B
    · obtain ⟨ps, h, _⟩ := t.1
      rw [hb, h] at n; cases n
    · rw [← t.2 b hb]; exact n⟩
theorem Gr.upd {H H' : Hp} {p : Addr} {o : HO} (g : Gr H H') (n : H' p = none) : Gr H (upd H' p o) := g.trans (.of_same (same_upd n))
theorem Gr.lst {H H' : Hp} {b : Addr} {xs : List V} (g : Gr H H') (e : H b = some (.lst xs)) : H' b = some (.lst xs) := g.keep b _ e (fun ps z => nomatch z)
theorem Gr.tup {H H' : Hp} {b : Addr} {xs : List V} (g : Gr H H') (e : H b = some (.tup xs)) : H' b = some (.tup xs) := g.keep b _ e (fun ps z => nomatch z)
theorem Gr.SL {H H' : Hp} {a c : Addr} (g : Gr H H') (s : SL H a c) : SL H' a c := by
  obtain ⟨n, cs, h1, h2, r⟩ := s
  exact ⟨n, cs, g.lst h1, g.lst h2, r⟩
/-- a promise without a way out is one of the calm kind -/
theorem calm_of {P : Program} {w : World} {K : PySem.W.Frag} {mg : Str → Option Value} {base : Heap} {k : Nat} {f : Addr} {fd : FuncData} {ps : List Str} {sp sp' : Sp} (F : FnOk P w K mg base (L2.CX P w) k f fd ps sp)
    (h : ∀ vs H Q E, sp' vs H Q E → sp vs H Q (fun _ _ _ => False)) : FnOk P w K mg base CX0 k f fd ps sp' := by
  refine ⟨fun vs H Q E q => F.len vs H Q _ (h vs H Q E q), fun A outer s H args us vs Q E hr e0 hb r q => codeAny_mono (F.run A outer s H args us vs Q _ hr e0 hb r (h vs H Q E q)) fun res s' hs => ?_⟩
  cases res with
  | ok fl => cases fl <;> exact hs
  | error e =>
    obtain ⟨_, _, _, _, _, _, _, _, _, _, _, _, z⟩ := hs
    exact z.elim
end LW
namespace LW
open PySem PySem.Spec PyProof.Rows L2 GxR
open TL (joinL tl tl_join join_eq spl spl_hit spl_miss spl_nil pre map_tl_inj split_spl kind_ok tl_append ext_tl)
/-! ### lines -/
def nl : Str := Str.ofString "\n"
def sp : Str := Str.ofString " "
theorem tl_nl : tl nl = [10] := by decide +kernel
theorem tl_sp : tl sp = [32] := by decide +kernel
theorem kind_nl : nl.cps.all (· < 256) = true := by decide +kernel
theorem kind_sp : sp.cps.all (· < 256) = true := by decide +kernel
theorem pre1 (c x : Nat) (r : List Nat) : pre [c] (x :: r) = decide (x = c) := by
  show (([x] : List Nat) == [c]) = decide (x = c)
  by_cases h : x = c
  · subst h; simp
  · simp [h]
theorem spl_ne (S : List Nat) : ∀ (l : List Nat) (k : Nat) (acc : List Nat), spl S k acc l ≠ []
  | [], k, acc => by rw [spl_nil]; simp
  | c :: r, 0, acc => by
    show (if pre S (c :: r) = true then acc :: spl S (S.length - 1) [] r else spl S 0 (acc ++ [c]) r) ≠ []
    split
    · simp
    · exact spl_ne S r 0 _
  | c :: r, k + 1, acc => spl_ne S r k acc
theorem spl_len (c : Nat) : ∀ (l acc : List Nat), (spl [c] 0 acc l).length ≤ l.length + 1
  | [], acc => by rw [spl_nil]; simp
  | x :: r, acc => by
    by_cases h : pre [c] (x :: r) = true
    · rw [spl_hit h]
      have := spl_len c r []
      simp only [List.length_cons, List.length_nil] at this ⊢
      show (spl [c] 0 [] r).length + 1 ≤ _
      omega
    · rw [spl_miss (eq_false_of_ne_true h)]
      have := spl_len c r (acc ++ [x])
      simp only [List.length_cons]
      omega
theorem spl_part (c : Nat) : ∀ (l acc : List Nat), ∀ p ∈ spl [c] 0 acc l, p.length ≤ acc.length + l.length
  | [], acc, p, h => by
    rw [spl_nil] at h
    rw [List.mem_singleton.mp h]
    simp
  | x :: r, acc, p, h => by
    by_cases e : pre [c] (x :: r) = true
    · rw [spl_hit e] at h
      rcases List.mem_cons.mp h with h | h
      · rw [h]; omega
      · have := spl_part c r [] p h
        simp only [List.length_cons, List.length_nil] at this ⊢
        omega
    · rw [spl_miss (eq_false_of_ne_true e)] at h
      have := spl_part c r (acc ++ [x]) p h
      simp only [List.length_append, List.length_cons, List.length_nil] at this ⊢
      omega
/-- without the sign: one part -/
theorem spl_no (c : Nat) : ∀ (l acc : List Nat), c ∉ l → spl [c] 0 acc l = [acc ++ l]
  | [], acc, _ => by rw [spl_nil]; simp
  | x :: r, acc, h => by
    have hx : pre [c] (x :: r) = false := by rw [pre1]; exact decide_eq_false fun e => h (by rw [e]; exact List.mem_cons_self)
    rw [spl_miss hx, spl_no c r (acc ++ [x]) fun m => h (List.mem_cons_of_mem _ m)]
    simp
/-- at the first sign -/
theorem spl_at1 (c : Nat) : ∀ (a acc b : List Nat), c ∉ a → spl [c] 0 acc (a ++ c :: b) = (acc ++ a) :: spl [c] 0 [] b
  | [], acc, b, _ => by
    have hx : pre [c] (c :: b) = true := by rw [pre1]; exact decide_eq_true rfl
    rw [List.nil_append, spl_hit hx, List.append_nil]
    rfl
  | x :: r, acc, b, h => by
    have hx : pre [c] (x :: (r ++ c :: b)) = false := by rw [pre1]; exact decide_eq_false fun e => h (by rw [e]; exact List.mem_cons_self)
    rw [List.cons_append, spl_miss hx, spl_at1 c r (acc ++ [x]) b fun m => h (List.mem_cons_of_mem _ m)]
    simp
def lns (t : Str) : List Str := Txt.split t nl
def wds (l : Str) : List Str := Txt.split l sp
theorem lns_tl (t : Str) : (lns t).map tl = spl [10] 0 [] (tl t) := by
  unfold lns
  rw [split_spl _ nl (by rw [tl_nl]; simp) (kind_ok kind_nl), tl_nl]
theorem wds_tl (t : Str) : (wds t).map tl = spl [32] 0 [] (tl t) := by
  unfold wds
  rw [split_spl _ sp (by rw [tl_sp]; simp) (kind_ok kind_sp), tl_sp]
theorem lns_ne (t : Str) : lns t ≠ [] := by
  intro h
  have := lns_tl t
  rw [h] at this
  exact spl_ne _ _ _ _ this.symm
theorem wds_ne (t : Str) : wds t ≠ [] := by
  intro h
  have := wds_tl t
  rw [h] at this
  exact spl_ne _ _ _ _ this.symm
theorem lns_len (t : Str) : (lns t).length ≤ t.length + 1 := by
  have h := congrArg List.length (lns_tl t)
  rw [List.length_map] at h
  have := spl_len 10 (tl t) []
  rw [h, TL.len_tl]
  exact this
theorem lns_mem {t l : Str} (h : l ∈ lns t) : l.length ≤ t.length := by
  have m : tl l ∈ spl [10] 0 [] (tl t) := by rw [← lns_tl]; exact List.mem_map_of_mem h
  have := spl_part 10 (tl t) [] _ m
  rw [TL.len_tl, TL.len_tl]
  simpa using this
theorem wds_mem {t l : Str} (h : l ∈ wds t) : l.length ≤ t.length := by
  have m : tl l ∈ spl [32] 0 [] (tl t) := by rw [← wds_tl]; exact List.mem_map_of_mem h
  have := spl_part 32 (tl t) [] _ m
  rw [TL.len_tl, TL.len_tl]
  simpa using this
/-- a line as a name and an address -/
def nam (l : Str) : Str := (Txt.partition l sp).1
def adr (l : Str) : Str := (Txt.partition l sp).2.2
theorem split_at (x : List Nat) (h : 32 ∈ x) : ∃ a b, x = a ++ 32 :: b ∧ 32 ∉ a := by
  induction x with
  | nil => simp at h
  | cons c r ih =>
    by_cases e : c = 32
    · exact ⟨[], r, by rw [e]; rfl, by simp⟩
    · have hr : 32 ∈ r := by
        rcases List.mem_cons.mp h with h | h
        · exact absurd h.symm e
        · exact h
      obtain ⟨a, b, h1, h2⟩ := ih hr
      exact ⟨c :: a, b, by rw [h1]; rfl, fun m => by
        rcases List.mem_cons.mp m with m | m
        · exact e m.symm
        · exact h2 m⟩
theorem addr_no {t : Str} (h : isAddr t = true) : 32 ∉ tl t ∧ 10 ∉ tl t ∧ t.length = 16 := by
  unfold isAddr at h
  rw [Bool.and_eq_true] at h
  have key : ∀ c ∈ tl t, c ∈ hexDigits := fun c hc => of_decide_eq_true (List.all_eq_true.mp h.2 c hc)
  exact ⟨fun m => absurd (key _ m) (by decide), fun m => absurd (key _ m) (by decide), of_decide_eq_true h.1⟩
theorem addr_empty : isAddr Str.empty = false := by decide +kernel
/-- two words are the name and the address; otherwise the address is none -/
theorem words_of (l : Str) : (wds l = [nam l, adr l]) ∨ ((wds l).length ≠ 2 ∧ isAddr (adr l) = false) := by
  by_cases h : 32 ∈ tl l
  · obtain ⟨a, b, e, ha⟩ := split_at _ h
    have el : l = (⟨a.toArray⟩ : Str) ++ sp ++ (⟨b.toArray⟩ : Str) := by
      apply ext_tl
      rw [tl_append, tl_append, tl_sp]
      show _ = (a ++ [32]) ++ b
      rw [e]
      simp
    have ep : Txt.partition l sp = (⟨a.toArray⟩, sp, ⟨b.toArray⟩) := by
      rw [el]
      exact TL.partition_app tl_sp (by show 32 ∉ a; exact ha)
    have en : nam l = ⟨a.toArray⟩ := by unfold nam; rw [ep]
    have ea : adr l = ⟨b.toArray⟩ := by unfold adr; rw [ep]
    have ew := wds_tl l
    rw [e, spl_at1 32 a [] b ha] at ew
    by_cases hb : 32 ∈ b
    · right
      obtain ⟨a2, b2, e2, ha2⟩ := split_at _ hb
      constructor
      · intro hl
        have hl2 := congrArg List.length ew
        rw [List.length_map, hl, e2, spl_at1 32 a2 [] b2 ha2] at hl2
        simp only [List.length_cons] at hl2
        have := spl_ne [32] b2 0 []
        cases hs : spl [32] 0 [] b2 with
        | nil => exact this hs
        | cons _ _ => rw [hs] at hl2; simp at hl2
      · rw [ea]
        cases hh : isAddr (⟨b.toArray⟩ : Str) with
        | false => rfl
        | true => exact absurd (show 32 ∈ tl (⟨b.toArray⟩ : Str) from hb) (addr_no hh).1
    · left
      rw [spl_no 32 b [] hb] at ew
      refine map_tl_inj ?_
      rw [ew, en, ea]
      simp [tl]
  · right
    have ep : Txt.partition l sp = (l, Str.empty, Str.empty) := TL.partition_none tl_sp h
    have ew := wds_tl l
    rw [spl_no 32 _ [] h] at ew
    refine ⟨fun hl => ?_, ?_⟩
    · have := congrArg List.length ew
      rw [List.length_map, hl] at this
      simp at this
    · unfold adr
      rw [ep]
      exact addr_empty
/-! ### faults -/
def letters : List Nat := [97, 98, 99, 100, 101, 102, 103, 104, 105, 106, 107, 108, 109, 110, 111, 112, 113, 114, 115, 116, 117, 118, 119, 120, 121, 122]
theorem letters_eq : (Str.ofString "abcdefghijklmnopqrstuvwxyz").cps.toList = letters := by decide +kernel
def isPlat (t : Str) : Bool := (decide (1 ≤ t.length) && decide (t.length ≤ 10)) && t.cps.toList.all fun c => decide (c ∈ letters)
def word (b : Bool) : Str := if b then "bundle" else "image"
def mid (ls : List Str) : List Str := (ls.drop 1).dropLast
theorem mid_len (ls : List Str) : (mid ls).length = ls.length - 2 := by
  unfold mid
  rw [List.length_dropLast, List.length_drop]
  omega
/-- line i (from 0) of those between is not as it must be -/
def bad (b : Bool) (ms : List Str) (i : Nat) : Bool :=
  if b then decide (nam (ms.getD i "") ∈ (ms.take i).map nam) || !isPlat (nam (ms.getD i "")) || !isAddr (adr (ms.getD i "")) else !isAddr (ms.getD i "")
def behN (w : Str) (ls : List Str) : Option Nat :=
  if ls.head? ≠ some w then some 0 else if ls.getLast? ≠ some ("" : Str) then some (ls.length - 1) else if 52 < ls.length then some 51 else none
def faultN (b : Bool) (ls : List Str) : Option Nat :=
  match behN (word b) ls with
  | some k => some k
  | none => if b = true ∧ ls.length = 2 then some 1 else ((List.range (ls.length - 2)).find? (bad b (mid ls))).map (· + 1)
theorem find_hit {p : Nat → Bool} {n i : Nat} (hi : i < n) (h1 : ∀ j, j < i → p j = false) (h2 : p i = true) : (List.range n).find? p = some i := by
  rw [List.find?_range_eq_some]
  exact ⟨h2, List.mem_range.mpr hi, fun j hj => by rw [h1 j hj]; rfl⟩
theorem find_miss {p : Nat → Bool} {n : Nat} (h1 : ∀ j, j < n → p j = false) : (List.range n).find? p = none := by
  rw [List.find?_eq_none]
  intro j hj
  rw [h1 j (List.mem_range.mp hj)]
  exact Bool.false_ne_true
end LW
namespace LW
open PySem PySem.Spec PyProof.Rows L2 GxR
open TL (joinL tl tl_join join_eq tl_append ext_tl)
theorem tl_empty : tl (Str.ofString "") = [] := by decide +kernel
theorem joinL_nil : ∀ l : List (List Nat), joinL [] l = l.flatten
  | [] => rfl
  | [p] => by simp [joinL]
  | p :: q :: r => by
    show p ++ ([] ++ joinL [] (q :: r)) = _
    rw [joinL_nil (q :: r)]
    simp
theorem joinL_end (c : Nat) : ∀ l : List (List Nat), joinL [c] (l ++ [[]]) = (l.map (· ++ [c])).flatten
  | [] => by simp [joinL]
  | [p] => by
    show p ++ ([c] ++ joinL [c] [[]]) = _
    simp [joinL]
  | p :: q :: r => by
    show p ++ ([c] ++ joinL [c] ((q :: r) ++ [[]])) = _
    rw [joinL_end c (q :: r)]
    simp
/-- one line of a text -/
def lin (l : Str) : Str := Str.empty ++ l ++ nl
theorem tl_lin (l : Str) : tl (lin l) = tl l ++ [10] := by
  unfold lin
  rw [tl_append, tl_append, tl_nl]
  rfl
theorem lin_len (l : Str) : (lin l).length = l.length + 1 := by
  rw [TL.len_tl, TL.len_tl, tl_lin]
  simp
def textOf (ls : List Str) : Str := Txt.join (Str.ofString "") (ls.map lin)
theorem textOf_tl (ls : List Str) : tl (textOf ls) = ((ls.map tl).map (· ++ [10])).flatten := by
  unfold textOf
  rw [join_eq, tl_join, tl_empty, joinL_nil, List.map_map, List.map_map]
  congr 1
  apply List.map_congr_left
  intro l _
  exact tl_lin l
theorem textOf_nl (ls : List Str) : textOf ls = Txt.join nl (ls ++ [("" : Str)]) := by
  apply ext_tl
  rw [textOf_tl, join_eq, tl_join, tl_nl, List.map_append, ← joinL_end]
  rfl
theorem lns_textOf {ls : List Str} (h : ∀ l ∈ ls, 10 ∉ tl l) : lns (textOf ls) = ls ++ [("" : Str)] := by
  unfold lns
  rw [textOf_nl]
  refine TL.split_join (s := 10) (S := []) tl_nl kind_nl (by simp) fun p hp => ?_
  rcases List.mem_append.mp hp with hp | hp
  · exact h p hp
  · rw [List.mem_singleton.mp hp]
    decide +kernel
theorem textOf_len : ∀ ls : List Str, (textOf ls).length = (ls.map fun l => l.length + 1).sum := by
  intro ls
  rw [TL.len_tl, textOf_tl, List.length_flatten, List.map_map, List.map_map]
  congr 1
  apply List.map_congr_left
  intro l _
  simp [TL.len_tl]
theorem sum_le {α : Type} (f : α → Nat) (m : Nat) : ∀ l : List α, (∀ x ∈ l, f x ≤ m) → (l.map f).sum ≤ l.length * m
  | [], _ => by simp
  | x :: r, h => by
    have := sum_le f m r fun y hy => h y (List.mem_cons_of_mem _ hy)
    have h1 := h x List.mem_cons_self
    simp only [List.map_cons, List.sum_cons, List.length_cons, Nat.succ_mul]
    omega
theorem mid_text (w : Str) (ls : List Str) : mid (w :: ls ++ [("" : Str)]) = ls := by
  unfold mid
  simp
theorem beh_text (w : Str) (ls : List Str) : behN w (w :: ls ++ [("" : Str)]) = if 50 < ls.length then some 51 else none := by
  unfold behN
  have e1 : (w :: ls ++ [("" : Str)]).head? = some w := rfl
  have e2 : (w :: ls ++ [("" : Str)]).getLast? = some ("" : Str) := by rw [List.getLast?_append]; rfl
  rw [if_neg (by rw [e1]; simp), if_neg (by rw [e2]; simp)]
  have e3 : (w :: ls ++ [("" : Str)]).length = ls.length + 2 := by simp
  rw [e3]
  by_cases h : 50 < ls.length
  · rw [if_pos h, if_pos (by omega)]
  · rw [if_neg h, if_neg (by omega)]
/-- the text of an image -/
theorem fault_image {ls : List Str} (h : ∀ l ∈ ls, isAddr l = true) (hl : ls.length ≤ 51) : faultN false (word false :: ls ++ [("" : Str)]) = if ls.length = 51 then some 51 else none := by
  unfold faultN
  rw [beh_text, mid_text]
  by_cases e : 50 < ls.length
  · rw [if_pos e]
    show some 51 = _
    rw [if_pos (by omega)]
  · rw [if_neg e, if_neg (show ¬ ls.length = 51 by omega)]
    have e3 : (word false :: ls ++ [("" : Str)]).length - 2 = ls.length := by simp
    rw [e3]
    simp only [Bool.false_eq_true, false_and, if_false]
    rw [find_miss (p := bad false ls) fun j hj => ?_]
    · rfl
    · have hg : ls.getD j "" = ls[j] := by rw [List.getD_eq_getElem?_getD, List.getElem?_eq_getElem hj]; rfl
      show (!isAddr (ls.getD j "")) = false
      rw [hg, h _ (List.getElem_mem hj)]
      rfl
theorem plat_no {t : Str} (h : isPlat t = true) : 32 ∉ tl t ∧ 10 ∉ tl t ∧ 1 ≤ t.length ∧ t.length ≤ 10 := by
  unfold isPlat at h
  rw [Bool.and_eq_true, Bool.and_eq_true] at h
  have key : ∀ c ∈ tl t, c ∈ letters := fun c hc => of_decide_eq_true (List.all_eq_true.mp h.2 c hc)
  exact ⟨fun m => absurd (key _ m) (by decide), fun m => absurd (key _ m) (by decide), of_decide_eq_true h.1.1, of_decide_eq_true h.1.2⟩
/-- a line of a bundle -/
def ent (p : Str × Str) : Str := Str.empty ++ p.1 ++ sp ++ p.2
theorem ent_tl (p : Str × Str) : tl (ent p) = tl p.1 ++ 32 :: tl p.2 := by
  unfold ent
  rw [tl_append, tl_append, tl_append, tl_sp]
  show ([] ++ tl p.1 ++ [32]) ++ tl p.2 = _
  simp
theorem ent_part {p : Str × Str} (h : 32 ∉ tl p.1) : nam (ent p) = p.1 ∧ adr (ent p) = p.2 := by
  have e : ent p = p.1 ++ sp ++ p.2 := by
    apply ext_tl
    rw [ent_tl, tl_append, tl_append, tl_sp]
    simp
  have ep : Txt.partition (ent p) sp = (p.1, sp, p.2) := by
    rw [e]
    exact TL.partition_app tl_sp h
  unfold nam adr
  rw [ep]
  exact ⟨rfl, rfl⟩
theorem fault_bundle {es : List (Str × Str)} (h : ∀ p ∈ es, isPlat p.1 = true ∧ isAddr p.2 = true) (hd : (es.map (·.1)).Nodup) (h1 : 1 ≤ es.length) (hl : es.length ≤ 50) : faultN true (word true :: es.map ent ++ [("" : Str)]) = none := by
  unfold faultN
  rw [beh_text, mid_text, if_neg (show ¬ 50 < (es.map ent).length by rw [List.length_map]; omega)]
  have e3 : (word true :: es.map ent ++ [("" : Str)]).length = es.length + 2 := by simp
  rw [e3]
  show (if true = true ∧ es.length + 2 = 2 then some 1 else _) = _
  rw [if_neg (by omega), find_miss (p := bad true (es.map ent)) fun j hj => ?_]
  · rfl
  · have hj' : j < es.length := by omega
    have hg : (es.map ent).getD j "" = ent es[j] := by rw [List.getD_eq_getElem?_getD, List.getElem?_map, List.getElem?_eq_getElem hj']; rfl
    have hm := h _ (List.getElem_mem hj')
    have pt := ent_part (p := es[j]) (plat_no hm.1).1
    unfold bad
    rw [if_pos rfl, hg, pt.1, pt.2, hm.1, hm.2]
    have nm : ∀ q ∈ es, nam (ent q) = q.1 := fun q hq => (ent_part (plat_no (h q hq).1).1).1
    have e4 : ((es.map ent).take j).map nam = (es.map (·.1)).take j := by
      rw [List.map_take, List.map_map]
      congr 1
      exact List.map_congr_left nm
    rw [e4]
    have e5 : es[j].1 ∉ (es.map (·.1)).take j := by
      intro m
      obtain ⟨i, hi, e⟩ := List.getElem_of_mem m
      rw [List.length_take, List.length_map] at hi
      rw [List.getElem_take] at e
      have : (es.map (·.1))[i]'(by rw [List.length_map]; omega) = (es.map (·.1))[j]'(by rw [List.length_map]; omega) := by rw [e, List.getElem_map]
      have := (List.getElem_inj hd).mp this
      omega
    rw [decide_eq_false e5]
    rfl
end LW
/-! Sets of texts: made, added to, sorted. -/
namespace LW
open PySem PySem.Spec PyProof.Rows L2
/-- the text that a row of a set's table holds -/
def rowTxt (e : Int × Value) : Str := match e.2 with | .str x _ => x | _ => Str.empty
/-- a row that holds a text under its own hash -/
def RowT (P : Program) (w : World) (e : Int × Value) : Prop := ∃ x tk, e.2 = Value.str x tk ∧ e.1 = (PySem.strKind P w).hash x
/-- the set of texts at a: S tells the members, n how many; its table can be walked -/
def SetT (P : Program) (w : World) (h : Heap) (a : Addr) (S : Str → Bool) (n : Nat) : Prop :=
  ∃ o rows ep t, h.get? a = some o ∧ o.ExactSet ∧ o.data = .set rows ep t ∧ (∀ e ∈ rows.toList, RowT P w e) ∧ (rows.toList.map rowTxt).Nodup ∧ (∀ k, S k = true ↔ k ∈ rows.toList.map rowTxt) ∧
    rows.size < scanBound ∧ t.fits rows.size = true ∧ rows.size = n ∧ Ris t.place.toList ∧ (w.params.followText "set-order" = true ∨ t.led = true)
section
variable {P : Program} {w : World} {h h' : Heap} {a : Addr} {S : Str → Bool} {n : Nat}
theorem SetT.keep (R : SetT P w h a S n) (k : ∀ o, h.get? a = some o → h'.get? a = some o) : SetT P w h' a S n := let ⟨o, rows, ep, t, ho, r⟩ := R; ⟨o, rows, ep, t, k o ho, r⟩
theorem rowT_elems {l : List (Int × Value)} (g : ∀ e ∈ l, RowT P w e) : ElemsOf (PySem.strKind P w) l := fun e he => by
  have ⟨x, tk, q1, q2⟩ := g e he
  refine ⟨⟨x, ?_, q2⟩, ?_⟩
  · rw [q1]; exact strKind_is P w x tk
  · rw [q1] <;> rfl
theorem rowT_is {e : Int × Value} (g : RowT P w e) (k : Str) : (PySem.strKind P w).is k e.2 = true ↔ rowTxt e = k := by
  obtain ⟨x, tk, q1, _⟩ := g
  have e1 : rowTxt e = x := by unfold rowTxt; rw [q1]
  rw [e1, q1]
  constructor
  · intro q
    exact ((PySem.strKind P w).inj _ _ _ q (strKind_is P w x tk)).symm
  · rintro rfl
    exact strKind_is P w x tk
theorem rowT_mem {l : List (Int × Value)} (g : ∀ e ∈ l, RowT P w e) (k : Str) : k ∈ l.map rowTxt ↔ ∃ e ∈ l, (PySem.strKind P w).is k e.2 = true :=
  ⟨fun m => let ⟨e, he, q⟩ := List.mem_map.mp m; ⟨e, he, (rowT_is (g e he) k).2 q⟩, fun ⟨e, he, q⟩ => List.mem_map.mpr ⟨e, he, (rowT_is (g e he) k).1 q⟩⟩
theorem SetT.of (R : SetT P w h a S n) : h.SetOf (PySem.strKind P w) a S n := by
  obtain ⟨o, rows, ep, t, h1, h2, h3, g, _, m, b, f, z, _⟩ := R
  exact ⟨o, rows, ep, t, h1, h2, h3, rowT_elems g, fun k => (m k).trans (rowT_mem g k), b, f, z⟩
theorem setT_fresh (P : Program) (w : World) {h : Heap} {b : Addr} (e : h.get? b = some { cls := .type "set", dict := none, data := .set #[] 0 (.fresh 0 0 (!w.params.followText "set-order")) }) : SetT P w h b (fun _ => false) 0 := by
  refine ⟨_, #[], 0, _, e, ⟨rfl, rfl, rfl⟩, rfl, ?_, ?_, ?_, by decide, by rfl, rfl, List.Pairwise.nil, ?_⟩
  · intro e he; simp at he
  · simp
  · intro k; simp
  · show _ ∨ (!w.params.followText "set-order") = true
    cases w.params.followText "set-order" <;> simp
end
section
variable {P : Program} {w : World} {A : Around} {E : Value → Shared → Prop} {s : Shared} {a : Addr} {S : Str → Bool} {n : Nat}
theorem laidT {h : Heap} {a : Addr} {o : Obj} {r1 r2 : Array (Int × Value)} {ep : Nat} {t1 t2 : SetTable} (ho : h.get? a = some o) (hd : o.data = .set r1 ep t1) :
    (h.update a (Obj.putSet r2 t2)).get? a = some { o with data := .set r2 (ep + 1) t2 } := store_at ho hd
theorem giveWay {b : Bool} {s1 : Shared} {Q : Unit → Shared → Prop} (q : Q () s1) : wpAny (model P w) A (match b with | true => rule "set.scan.the-table-gave-way" | false => pure ()) Q E s1 := by
  cases b
  · exact wpAny_pure q
  · exact wpAny_rule q
/-- what follows the new row: the table is stored, and laid anew where it is too full -/
theorem setT_tail {g : Bool → Sem Unit} (hg : ∀ (b : Bool) (s1 : Shared) (Q' : Unit → Shared → Prop), Q' () s1 → wpAny (model P w) A (g b) Q' E s1) {o : Obj} {rows : Array (Int × Value)} {ep : Nat} {t : SetTable}
    (ho : s.heap.get? a = some o) (hx : o.ExactSet) (hd : o.data = .set rows ep t) {r1 : Array (Int × Value)} {t2 : SetTable} {S' : Str → Bool}
    (new : ∀ {h'' : Heap} {o' : Obj} {r2 : Array (Int × Value)} {e2 : Nat} {t3 : SetTable}, h''.get? a = some o' → o'.ExactSet → o'.data = .set r2 e2 t3 → r2.toList.Perm r1.toList → t3.fits r2.size = true → Ris t3.place.toList → t3.led = t2.led → SetT P w h'' a S' r1.size)
    (hb : r1.size < scanBound) (hf : t2.fits r1.size = true) (hr : Ris t2.place.toList) {wasDummy : Bool} {R : Option Bool → Shared → Prop}
    (hR : ∀ h'', Heap.SameBut a s.heap h'' → SetT P w h'' a S' r1.size → R (some true) { s with heap := h'' }) :
    wpAny (model P w) A (do
        storeSet a r1 t2
        if (!wasDummy && t2.tooFull) = true then do
            g (relayAll t2 r1 (SetTable.grown r1.size)).2.2
            storeSet a (relayAll t2 r1 (SetTable.grown r1.size)).1 (relayAll t2 r1 (SetTable.grown r1.size)).2.1
            pure (some true)
          else pure (some true)) R E s := by
  have ho1 := laidT (r2 := r1) (t2 := t2) ho hd
  have sb := Heap.SameBut.update s.heap a (Obj.putSet r1 t2)
  refine wpAny_bind (wpAny_storeSet_of ho hd ?_ (fits_of_scanBound hb))
  by_cases full : (!wasDummy && t2.tooFull) = true
  · rw [if_pos full]
    have p := relayAll_perm t2 r1 (SetTable.grown r1.size)
    have q1 := relayAll_fits t2 r1 (SetTable.grown r1.size)
    have q2 := relayAll_ris t2 r1 (SetTable.grown r1.size)
    have q3 := relayAll_led t2 r1 (SetTable.grown r1.size)
    revert p q1 q2 q3
    generalize relayAll t2 r1 (SetTable.grown r1.size) = Z
    obtain ⟨r2, t3, gv⟩ := Z
    intro p q1 q2 q3
    have z2 : r2.size = r1.size := by have := p.length_eq; simpa using this
    refine wpAny_bind (hg _ _ _ (wpAny_bind (wpAny_storeSet_of ho1 rfl ?_ (fits_of_scanBound (by show r2.size < scanBound; rw [z2]; exact hb)))))
    exact wpAny_pure (hR _ (sb.trans (Heap.SameBut.update _ a _)) (new (laidT ho1 rfl) hx rfl p q1 q2 q3))
  · rw [if_neg full]
    exact wpAny_pure (hR _ sb (new ho1 hx rfl (List.Perm.refl _) hf hr rfl))
/-- a text that is not there comes in, or one that is there stays -/
theorem setT_put {k : Str} {tk : Tok} {Q : Bool → Shared → Prop} (R : SetT P w s.heap a S n) (room : n + 1 < scanBound)
    (hQ : ∀ h'', Heap.SameBut a s.heap h'' → SetT P w h'' a (fun j => S j || decide (j = k)) (if S k = true then n else n + 1) → Q (!S k) { s with heap := h'' }) :
    wpAny (model P w) A (setAddHashed a (.str k tk) ((PySem.strKind P w).hash k)) Q E s := by
  obtain ⟨o, rows, ep, t, ho, hx, hd, g, nd, m, b, f, z, ris, led⟩ := R
  have kk : (PySem.strKind P w).is k (.str k tk) = true := strKind_is P w k tk
  have sc : (Value.str k tk).scannable = true := rfl
  have el := rowT_elems (P := P) (w := w) g
  unfold setAddHashed setAddHashedIn
  refine wpAny_holding (wpAny_bind (wpAny_setState_of ho hd f ?_))
  dsimp only
  rw [byScan_of sc b el]
  simp only [↓reduceIte]
  unfold setAddByScan
  refine wpAny_bind (wpAny_bind (wpAny_rule (wpAny_bind (wpAny_setScan_of kk ho hd f el ?_))))
  cases fi : List.findIdx? (fun e => (PySem.strKind P w).is k e.2) rows.toList with
  | some j =>
    dsimp only
    obtain ⟨hj, pj, _⟩ := List.findIdx?_eq_some_iff_getElem.mp fi
    have there : S k = true := (m k).2 ((rowT_mem g k).2 ⟨_, List.getElem_mem hj, pj⟩)
    have fin := hQ s.heap (Heap.SameBut.refl a s.heap) ⟨o, rows, ep, t, ho, hx, hd, g, nd, fun i => ?_, b, f, by rw [if_pos there]; exact z, ris, led⟩
    · rw [there] at fin
      exact wpAny_pure (wpAny_pure fin)
    · rw [Bool.or_eq_true, decide_eq_true_eq, ← m i]
      constructor
      · rintro (q | q)
        · exact q
        · rw [q]; exact there
      · exact .inl
  | none =>
    dsimp only
    have out : k ∉ rows.toList.map rowTxt := fun q => by
      obtain ⟨e, he, q1⟩ := (rowT_mem (P := P) (w := w) g k).1 q
      exact absurd q1 (by rw [List.findIdx?_eq_none_iff.mp fi e he]; exact Bool.false_ne_true)
    have gone : S k = false := Bool.eq_false_iff.mpr fun q => out ((m k).1 q)
    have p0 := layNew_perm t rows ((PySem.strKind P w).hash k) (.str k tk)
    have f0 := layNew_fits t rows ((PySem.strKind P w).hash k) (.str k tk)
    have r0 := layNew_ris t rows ((PySem.strKind P w).hash k) (.str k tk) ris
    have l0 := layNew_led t rows ((PySem.strKind P w).hash k) (.str k tk)
    revert p0 f0 r0 l0
    generalize layNew t rows ((PySem.strKind P w).hash k) (.str k tk) = Z
    obtain ⟨r1, t1, dum, gv⟩ := Z
    intro p0 f0 r0 l0
    dsimp only at p0 f0 r0 l0 ⊢
    have p1 : r1.toList.Perm (((PySem.strKind P w).hash k, Value.str k tk) :: rows.toList) := by
      refine p0.trans ?_
      rw [Array.toList_push]
      exact List.perm_append_singleton _ _
    have p2 : (r1.toList.map rowTxt).Perm (k :: rows.toList.map rowTxt) := p1.map rowTxt
    have z1 : r1.size = n + 1 := by
      have := p1.length_eq
      simp only [Array.length_toList, List.length_cons] at this
      omega
    have new : ∀ {tt : SetTable}, tt.led = t1.led → ∀ {h'' : Heap} {o' : Obj} {r2 : Array (Int × Value)} {e2 : Nat} {t3 : SetTable}, h''.get? a = some o' → o'.ExactSet → o'.data = .set r2 e2 t3 → r2.toList.Perm r1.toList → t3.fits r2.size = true → Ris t3.place.toList → t3.led = tt.led →
        SetT P w h'' a (fun j => S j || decide (j = k)) r1.size := fun {tt} hl {h'' o' r2 e2 t3} u1 u2 u3 u4 u5 u6 u7 => by
      have v2 := u4.map rowTxt
      have sz : r2.size = r1.size := by have := u4.length_eq; simpa using this
      refine ⟨o', r2, e2, t3, u1, u2, u3, fun e he => ?_, ?_, fun i => ?_, by rw [sz, z1]; exact room, u5, sz, u6, led.imp id fun q => by rw [u7, hl, l0]; exact q⟩
      · rcases List.mem_cons.mp ((u4.trans p1).mem_iff.mp he) with q | q
        · exact ⟨k, tk, by rw [q], by rw [q]⟩
        · exact g e q
      · exact (v2.trans p2).nodup_iff.mpr (List.nodup_cons.mpr ⟨out, nd⟩)
      · rw [(v2.trans p2).mem_iff, List.mem_cons, ← m i, Bool.or_eq_true, decide_eq_true_eq]
        exact Or.comm
    have fin : ∀ h'', Heap.SameBut a s.heap h'' → SetT P w h'' a (fun j => S j || decide (j = k)) r1.size → Q true { s with heap := h'' } := fun h'' sb r => by
      have q := hQ h'' sb
      rw [gone, if_neg Bool.false_ne_true, ← z1] at q
      exact q r
    refine wpAny_bind (giveWay ?_)
    split
    · refine wpAny_bind ?_
      rw [hashByValue_scannable 8 sc]
      refine wpAny_pure (setT_tail (fun b1 s1 Q' q => giveWay q) ho hx hd (new ?_) (by rw [z1]; exact room) ?_ ?_ fun h'' sb r => ?_)
      · first | rfl | (split <;> rfl)
      · first | exact f0 | (split <;> first | exact f0 | exact SetTable.fits_plain_off f0)
      · first | exact r0 | (split <;> exact r0)
      · exact wpAny_pure (fin h'' sb r)
    · refine wpAny_bind (wpAny_pure ?_)
      simp only [↓reduceIte]
      exact setT_tail (fun b1 s1 Q' q => giveWay q) ho hx hd (new rfl) (by rw [z1]; exact room) f0 r0 fun h'' sb r => wpAny_pure (fin h'' sb r)
/-- found.add(x) -/
theorem setT_add {k : Str} {tk : Tok} {Q : Value → Shared → Prop} (R : SetT P w s.heap a S n) (room : n + 1 < scanBound)
    (hQ : ∀ h'', Heap.SameBut a s.heap h'' → SetT P w h'' a (fun j => S j || decide (j = k)) (if S k = true then n else n + 1) → Q .none { s with heap := h'', toks := s.toks + 1 }) :
    wpAny (model P w) A (call (.builtin "set.add") [.ref a, .str k tk]) Q E s := by
  refine wpAny_call_entry F.slot_set_add R.of.typeIs F.entry_set_add ?_ (F.args_set_add_2 _ _)
  unfold Builtin.«set.add» Builtin.Frozenset.oneOther
  simp only [List.isEmpty_nil, bind_assoc]
  unfold Builtin.Frozenset.addrOf setAdd
  refine wpAny_bind (wpAny_pure ?_)
  refine wpAny_bind (wpAny_pure ?_)
  refine wpAny_bind (wpAny_holding (wpAny_bind ((PySem.strKind P w).pyHash (strKind_is P w k tk) ?_)))
  refine setT_put (s := { s with toks := s.toks + 1 }) R room fun h'' sb r => ?_
  exact wpAny_pure ⟨_, rfl, hQ h'' sb r⟩
end
end LW
namespace LW
open PySem PySem.Spec PyProof.Rows L2
theorem SetT.alike {P : Program} {w : World} {h : Heap} {a : Addr} {S S' : Str → Bool} {n : Nat} (R : SetT P w h a S n) (e : ∀ k, S' k = S k) : SetT P w h a S' n := by
  rw [show S' = S from funext e]; exact R
section
variable {P : Program} {w : World} {A : Around} {R : Result → Shared → Prop} {I : Addr} {fp wr : List Addr} {G : Array GenState → Array GenState → Prop} {n : Nat} {Pv : Nat → Value → Prop} {St : Nat → Shared → Prop}
/-- the members of xs, one after another, into the set at b -/
theorem fill_set (W : WalksS P w A.in1 I fp wr G n Pv St) (b : Addr) (nb : b ∉ fp) (xs : List Str) (lx : xs.length = n) (room : n < scanBound) (val : ∀ i v, Pv i v → ∃ t, v = .str (xs.getD i Str.empty) t) :
    ∀ (m i : Nat) (s : Shared), n - i = m → i ≤ n → St i s → (∃ c, c ≤ i ∧ SetT P w s.heap b (fun k => decide (k ∈ xs.take i)) c) →
      (∀ s', Moved (b :: wr) G s s' → (∃ c, c ≤ n ∧ SetT P w s'.heap b (fun k => decide (k ∈ xs)) c) → R (.ok (.ret .none)) s') →
      codeAny (model P w) A (.builtin "set.update.loop" ⟨[.ref b, .ref I], []⟩) R s := by
  have nw : b ∉ wr := fun h => nb (W.sub _ h)
  have up : ∀ y ∈ wr, y ∈ b :: wr := fun y hy => List.mem_cons_of_mem _ hy
  intro m
  induction m with
  | zero =>
    intro i s e hi st hs fin
    obtain rfl : i = n := by omega
    refine codeAny_builtin PyProof.Rows.F.entry_set_update_loop ?_
    rw [Around.under_plainId PyProof.Rows.F.plain_set_update_loop _]
    refine wpAny_bind (m := pyNext (.ref I)) (W.done s _ _ st fun s1 mv => ?_)
    refine wpAny_pure (fin s1 (mv.mono up) ?_)
    obtain ⟨c, hc, r⟩ := hs
    refine ⟨c, hc, (r.keep fun o ho => mv.heap b _ nw ho).alike fun k => ?_⟩
    rw [← lx, List.take_length]
  | succ m ih =>
    intro i s e hi st hs fin
    have lt : i < n := by omega
    refine codeAny_builtin PyProof.Rows.F.entry_set_update_loop ?_
    rw [Around.under_plainId PyProof.Rows.F.plain_set_update_loop _]
    refine wpAny_bind (m := pyNext (.ref I)) (W.item i s _ _ lt st fun v s1 pv st1 mv => ?_)
    obtain ⟨t, rfl⟩ := val i v pv
    obtain ⟨c, hc, r⟩ := hs
    have r1 := r.keep (h' := s1.heap) fun o ho => mv.heap b _ nw ho
    refine wpAny_bind (m := holding [Value.str (xs.getD i Str.empty) t] (setAdd b (.str (xs.getD i Str.empty) t))) (wpAny_holding ?_)
    unfold setAdd
    refine wpAny_holding (wpAny_bind ((PySem.strKind P w).pyHash (strKind_is P w _ t) ?_))
    refine setT_put (s := { s1 with toks := s1.toks + 1 }) r1 (by omega) fun h2 sb r2 => ?_
    have xi : xs[i]? = some (xs.getD i Str.empty) := by
      rw [List.getD_eq_getElem?_getD, List.getElem?_eq_getElem (by omega)]; rfl
    have tk : xs.take (i + 1) = xs.take i ++ [xs.getD i Str.empty] := by
      rw [List.take_add_one, xi]; rfl
    refine wpAny_pure ⟨plainId_quiet PyProof.Rows.F.plain_set_update_loop _, ih (i + 1) _ (by omega) lt (W.frame _ s1 _ _ st1 (Nat.le_succ _) fun y hy o ho => ?_) ⟨_, ?_, r2.alike fun k => ?_⟩ fun s2 mv2 r3 => ?_⟩
    · rw [sb.2 y fun q => nb (q ▸ hy)]; exact ho
    · split <;> omega
    · rw [tk, ← Bool.decide_or]
      exact decide_eq_decide.mpr (by rw [List.mem_append, List.mem_singleton])
    · refine fin s2 (Moved.trans W.gtrans ((mv.mono up).then_heap (Nat.le_succ _) fun y o hy ho => ?_) mv2) r3
      rw [sb.2 y fun q => hy (by rw [q]; exact List.mem_cons_self)]; exact ho
end
section
variable {P : Program} {w : World} {A : Around} {E : Value → Shared → Prop} {s : Shared}
/-- set(xs), a list of texts -/
theorem set_of_list {l : Addr} {its : Array Value} {xs : List Str} {Q : Value → Shared → Prop} (hh : A.handled = none) (hl : s.heap.IsList l its) (hi : PyProof.Rows.StrsAre its.toList xs) (room : xs.length < scanBound)
    (q : ∀ (h' : Heap) (tk : Nat), (∃ c, c ≤ xs.length ∧ SetT P w h' s.heap.objs.size (fun k => decide (k ∈ xs)) c) → (∀ b o, b < s.heap.objs.size → s.heap.get? b = some o → h'.get? b = some o) → Q (.ref s.heap.objs.size) { s with heap := h', toks := tk }) :
    wpAny (model P w) A (call (.type "set") [.ref l]) Q E s := by
  obtain ⟨_, _, m0⟩ := PySem.F.called_set.mro
  have m1 := PySem.F.called_set.made
  have m2 := PySem.F.called_set.sub
  have m3 := PySem.F.called_set.notType
  have m4 := PySem.F.called_set.canCreate
  have m5 := PySem.F.typeCall_set_1 (.ref l)
  have hlt : l < s.heap.objs.size := by obtain ⟨o, ho, _⟩ := hl; exact Heap.lt_size ho
  have hz : its.size = xs.length := by rw [← Array.length_toList, ← StrsAre.len_eq hi]
  refine wpAny_call (codeAny_of_tree ?_)
  show wpAny _ _ (callAny (.type "set") _) _ _ _
  refine wpAny_pure ⟨Code.quiet_builtin _ (by decide +kernel), codeAny_builtin PySem.F.entry_type_call ?_⟩
  rw [Around.under_plain (weight_type_call_type "set" [.ref l] []) rfl]
  repeat (any_goals (first | assumption | wp_step))
  let s1 : Shared := { s with heap := s.heap.push { cls := .type "set", dict := none, data := .set #[] 0 (.fresh 0 0 (!w.params.followText "set-order")) } }
  refine codeAny_mono (code_set_led1 (.ref l) (E := E) (Q₁ := fun v s' => v = .ref s.heap.objs.size ∧ s' = s1) ⟨rfl, rfl⟩) fun r s' hr => ?_
  match r, hr with
  | .error _, hr => exact hr
  | .ok (.ret obj), hr =>
    obtain ⟨rfl, rfl⟩ := hr
    have b0 : s1.heap.get? s.heap.objs.size = some { cls := .type "set", dict := none, data := .set #[] 0 (.fresh 0 0 (!w.params.followText "set-order")) } := Heap.get?_push_size _ rfl
    have b1 : s1.TypeIs (.ref s.heap.objs.size) "set" := ⟨_, b0, rfl⟩
    have b2 := PySem.F.called_set.init.lookup
    have b3 := PySem.F.called_set.init.bind (.ref s.heap.objs.size)
    repeat (any_goals (first | assumption | wp_step))
    refine codeAny_mono (codeAny_call_builtin (R := wants (fun v s' => v = .none ∧ Q (.ref s.heap.objs.size) s') E) PySem.F.called_set.init.plain PySem.F.entry_set_init (check_set_init_1 b1 ?_)) fun r2 s2 hr2 => ?_
    · obtain ⟨⟨c0, d0, data0, sl0⟩, o1, o2, nl, o3⟩ := id hl
      simp only at o2 o3
      subst o2; subst o3
      have o4 : s1.heap.get? l = some { cls := .type "list", dict := d0, data := .seq its nl, slots := sl0 } := Heap.get?_push_of_some _ o1
      have k1 := PySem.F.sub_list_set
      have k2 := PySem.F.sub_list_frozenset
      have k3 : (Value.type "list" == Value.type "dict") = false := by decide
      have l1 : s1.heap.IsList l its := ⟨_, o4, rfl, nl, rfl⟩
      unfold Builtin.«set.__init__» noKeywords Builtin.Frozenset.updateFrom
      generalize hPI : pyIter = PI
      wp_walk
      subst hPI
      refine wpAny_pyIter_list l1 (wpAny_bind (wpAny_runValue ?_))
      have z1 : s1.heap.objs.size = s.heap.objs.size + 1 := Heap.size_push ..
      have nI : l ≠ s1.heap.objs.size := Nat.ne_of_lt (by rw [z1]; exact Nat.lt_succ_of_lt hlt)
      have nf : s.heap.objs.size ∉ [s1.heap.objs.size, l] := by
        intro m
        rcases List.mem_cons.mp m with m | m
        · have m' : s.heap.objs.size = s1.heap.objs.size := m
          omega
        · have m' : s.heap.objs.size = l := List.mem_singleton.mp m
          exact absurd hlt (by rw [← m']; exact Nat.lt_irrefl _)
      have h3 : A.in1.in1.in1.handled = none := by simp [hh]
      have vl : ∀ (i : Nat) (v : Value), its[i]? = some v → ∃ t, v = .str (xs.getD i Str.empty) t := fun i v e => SS.strs_at hi i v (by rw [Array.getElem?_toList]; exact e)
      refine fill_set ((Walks.list h3 _ l nI its).toS) s.heap.objs.size nf xs hz.symm (by rw [hz]; exact room) vl (its.size - 0) 0 _ rfl (Nat.zero_le _) ⟨⟨_, Heap.get?_push_size _ rfl, rfl, rfl⟩, l1.push _⟩ ⟨0, Nat.le_refl _, ?_⟩ ?_
      · exact (setT_fresh P w (Heap.get?_push_of_some _ b0)).alike fun k => by simp
      · rintro ⟨h', g', d', tk', os'⟩ mv r
        obtain rfl : g' = s.gens := mv.gens
        obtain rfl : d' = s.drawn := mv.drawn
        obtain rfl : os' = s.os := mv.os
        show wpAny _ _ _ _ _ _
        refine wpAny_pure ?_
        show wpAny _ _ (ret Value.none) _ _ _
        refine wpAny_pure ⟨rfl, q h' tk' (by rw [hz] at r; exact r) fun b o hb e => mv.heap b o (fun m => ?_) (Heap.get?_push_of_some _ (Heap.get?_push_of_some _ e))⟩
        rcases List.mem_cons.mp m with m | m
        · have m' : b = s.heap.objs.size := m
          omega
        · have m' : b = s1.heap.objs.size := List.mem_singleton.mp m
          omega
    · match r2, hr2 with
      | .error _, hr2 => exact hr2
      | .ok (.ret v), hr2 =>
        obtain ⟨rfl, q2⟩ := hr2
        repeat (any_goals (first | assumption | wp_step))
      | .ok .next, hr2 => exact hr2.elim
      | .ok .brk, hr2 => exact hr2.elim
      | .ok .cont, hr2 => exact hr2.elim
  | .ok .next, hr => exact hr.elim
  | .ok .brk, hr => exact hr.elim
  | .ok .cont, hr => exact hr.elim
end
end LW
namespace LW
open PySem PySem.Spec PyProof.Rows L2
section
variable {P : Program} {w : World} {A : Around} {E : Value → Shared → Prop} {s : Shared}
/-- the texts that the values hold -/
theorem strs_are : ∀ (l : List Value), (∀ v ∈ l, ∃ x tk, v = Value.str x tk) → StrsAre l (l.map fun v => rowTxt (0, v))
  | [], _ => .nil
  | v :: l, h => by
    obtain ⟨x, tk, rfl⟩ := h v List.mem_cons_self
    exact .cons x tk (strs_are l fun u m => h u (List.mem_cons_of_mem _ m))
/-- sorted(found), a set of texts -/
theorem sorted_setT {a : Addr} {S : Str → Bool} {n : Nat} {Q : Value → Shared → Prop} (R : SetT P w s.heap a S n) (hh : A.handled = none)
    (q : ∀ s' p (out : Array Value) (c : Nat) (xs : List Str), (∀ b o, s.heap.get? b = some o → s'.heap.get? b = some o) → s'.gens = s.gens → s'.os = s.os → s.heap.objs.size ≤ p →
      s'.heap.get? p = some (seqObj "list" out c) → StrsAre out.toList xs → sortedS xs = true → xs.Nodup → (∀ k, k ∈ xs ↔ S k = true) → xs.length = n → Q (.ref p) s') :
    wpAny (model P w) A (call (.builtin "sorted") [.ref a]) Q E s := by
  obtain ⟨o, rows, ep, t, ho, hx, hd, g, nd, m, b, f, z, ris, led⟩ := R
  have fits := fits_of_scanBound b
  refine Calls.call_function_entry kind_sorted plain_sorted entry_sorted (args_sorted1 _) ?_
  unfold Builtin.«sorted»
  refine wpAny_bind (m := checkCount "sorted" 1 1 _) (wpAny_pure (wpAny_bind (collect_set (A := A.in1) hh ⟨o, ho, hx.1, hd⟩ f b ris led fun s1 vs keep big e1 e2 pm => ?_)))
  have lv : vs.length = n := by have := pm.length_eq; simp only [List.length_map, Array.length_toList] at this; omega
  have all : ∀ v ∈ vs, ∃ x tk, v = Value.str x tk := fun v hv => by
    obtain ⟨e, he, rfl⟩ := List.mem_map.mp (pm.mem_iff.mp hv)
    obtain ⟨x, tk, u, _⟩ := g e he
    exact ⟨x, tk, u⟩
  have sa := strs_are vs all
  have pk : (vs.map fun v => rowTxt (0, v)).Perm (rows.toList.map rowTxt) := by
    have r := pm.map fun v => rowTxt (0, v)
    rw [List.map_map] at r
    exact r
  refine wpAny_bind (wpAny_newList ?_ (by rw [lv]; omega))
  have ob : (s1.heap.push (seqObj "list" vs.toArray 0)).get? s1.heap.objs.size = some (seqObj "list" vs.toArray 0) := Heap.get?_push_size _ rfl
  refine wpAny_bind (wpAny_holding (wpAny_call_entry slot_list_sort ⟨_, ob, rfl⟩ entry_list_sort
    (list_sort_treeKAny strKind_oneLt ob sa.keysOf (fun v1 v2 rest e => keyKind_strs (by rw [← e]; exact sa)) (by rw [lv]; omega) fun st p1 p2 => ⟨_, rfl, ?_⟩) (args_list_sort _)))
  obtain ⟨ys, y1, y2, y3⟩ := sorted_out_str sa p1 p2
  obtain ⟨c, hc⟩ := sortedHeap_at (vs := vs) (out := (arrOf st).map (·.2)) ob
  have py := y2.trans pk
  refine wpAny_pure ⟨_, rfl, q _ s1.heap.objs.size _ c ys (fun b' u e => ?_) e1 e2 big hc y1 y3 (py.nodup_iff.mpr nd) (fun k => by rw [py.mem_iff, ← m k]) (by have := py.length_eq; simp only [List.length_map, Array.length_toList] at this; omega)⟩
  have k1 := keep b' u e
  have lt := Heap.lt_size k1
  rw [show ({ s1 with heap := sortedHeap (s1.heap.push (seqObj "list" vs.toArray 0)) s1.heap.objs.size vs ((arrOf st).map (·.2)) } : Shared).heap = sortedHeap (s1.heap.push (seqObj "list" vs.toArray 0)) s1.heap.objs.size vs ((arrOf st).map (·.2)) from rfl,
    sortedHeap_old (Nat.ne_of_lt lt) (by rw [size_push']; exact Nat.lt_succ_of_lt lt)]
  exact Heap.get?_push_of_some _ k1
end
/-- the set of texts at a, as a tracked thing -/
def SetTO (P : Program) (w : World) (a : Addr) (S : Str → Bool) (n : Nat) : HO := .ext fun h => SetT P w h a S n
theorem setTO_new {w : World} {P : Program} {H : Hp} {h : Heap} {a : Addr} {S : Str → Bool} {n : Nat} (R : SetT P w h a S n) : ObjOk P w H h a (SetTO P w a S n) :=
  ⟨R, let ⟨o, _, _, _, ho, _⟩ := R; ⟨o, ho⟩, fun _ _ r k => r.keep k⟩
section
variable {X : Cx}
theorem setTO_get {pins : List (Addr × Obj)} {σ : L2.St} {H : Hp} {s : Shared} {a : Addr} {S : Str → Bool} {n : Nat} (I : Inv X pins σ H s) (ha : H a = some (SetTO X.prog X.w a S n)) : SetT X.prog X.w s.heap a S n := (I.hok a _ ha).1
/-- set.add of a text -/
theorem addT_ok {pins : List (Addr × Obj)} {σ : L2.St} {H : Hp} {s : Shared} {E : Value → Shared → Prop} {D : Addr} {S : Str → Bool} {n : Nat} {y : Str} {tk : Tok} {Q : Value → Shared → Prop} (I : Inv X pins σ H s) (hD : H D = some (SetTO X.prog X.w D S n)) (room : n + 1 < scanBound)
    (q : ∀ s', Inv X pins σ (L2.upd H D (SetTO X.prog X.w D (fun j => S j || decide (j = y)) (if S y = true then n else n + 1))) s' → Q .none s') : wpAny (model X.prog X.w) X.A (call (.builtin "set.add") [.ref D, .str y tk]) Q E s :=
  setT_add (setTO_get I hD) room fun h' sb r => q _ (I.write (e := D) (t' := s.toks + 1) (by rw [hD]; trivial) (.inl rfl) (fun b u hb hu => (sb.2 b hb).trans hu) (let ⟨o, _, _, _, ho, _⟩ := r; ⟨o, ho⟩) (setTO_new r))
/-- set(xs), a list of texts -/
def rSetOfS (K : PySem.W.Frag) (P : Program) (w : World) : List V → Hp → VK → Prop := fun xs H Q => ∃ (l : Addr) (zs : List Str), xs = [V.ref l] ∧ SqL K H l (zs.map V.str) ∧ zs.length < scanBound ∧
  ∀ p c, c ≤ zs.length → H p = none → Q (.ref p) (L2.upd H p (SetTO P w p (fun k => decide (k ∈ zs)) c))
theorem cr_setOfS (hc : X.calm = true) : CallR X (.type "set") (rSetOfS X.K X.prog X.w) := by
  intro pins s σ H xs us Q I r h
  obtain ⟨l, zs, rfl, hs, room, q⟩ := h
  obtain ⟨its, rv, hl, _⟩ := I.list hs
  rw [Vals.ref1 r]
  refine set_of_list (I.ok.hd hc) hl.isList (by simpa using rv.strs) room fun h' tk ⟨c, hc', R⟩ keep => ?_
  exact ⟨.ref _, _, I.laid (t' := tk) (fun b o e => keep b o (Heap.lt_size e) e) (Nat.le_refl _) (setTO_new R), rfl, q _ c hc' (I.hok.fresh (Nat.le_refl _))⟩
/-- sorted(found), a set of texts -/
def rSortedT (P : Program) (w : World) : List V → Hp → VK → Prop := fun vs H Q => ∃ (a : Addr) (S : Str → Bool) (n : Nat), vs = [V.ref a] ∧ H a = some (SetTO P w a S n) ∧
  ∀ (xs : List Str) (p : Addr), sortedS xs = true → xs.Nodup → (∀ k, k ∈ xs ↔ S k = true) → xs.length = n → H p = none → Q (.ref p) (L2.upd H p (.lst (xs.map V.str)))
theorem cr_sortedT (hc : X.calm = true) : CallR X (.builtin "sorted") (rSortedT X.prog X.w) := by
  intro pins s σ H vs us Q I r h
  obtain ⟨a, S, n, rfl, ha, q⟩ := h
  have R := setTO_get I ha
  have small : n ≤ sizeLine := by
    obtain ⟨_, rows, _, _, _, _, _, _, _, _, b, _, z, _⟩ := R
    rw [← z]; exact fits_of_scanBound b
  rw [Vals.ref1 r]
  refine sorted_setT R (I.ok.hd hc) fun s' p out c xs k g o hp hg hi h1 h2 h3 h4 => ?_
  have nx : H p = none := I.hok.fresh hp
  obtain ⟨hp', gens', drawn', toks', os'⟩ := s'
  obtain rfl : os' = s.os := o
  refine ⟨.ref p, _, ?_, rfl, q xs p h1 h2 h3 h4 nx⟩
  exact I.call (ch := []) (Un.laid k hp nx) (I.hok.laid k hp ⟨by rw [List.length_map, h4]; exact small, out.toList, c, vals_of_strs hi, hg⟩) (by rw [show gens' = s.gens from g]; exact I.bare) (fun _ z => nomatch z)
/-- sorted(xs), a list of texts of any length -/
def rSortedL (K : PySem.W.Frag) : List V → Hp → VK → Prop := fun vs H Q => ∃ (a : Addr) (xs : List Str), vs = [V.ref a] ∧ SqL K H a (xs.map V.str) ∧
  ∀ (ys : List Str) (p : Addr), ys.Perm xs → sortedS ys = true → H p = none → Q (.ref p) (L2.upd H p (.lst (ys.map V.str)))
theorem cr_sortedL : CallR X (.builtin "sorted") (rSortedL X.K) := by
  intro pins s σ H vs us Q I r h
  obtain ⟨a, xs, rfl, hs, q⟩ := h
  obtain ⟨its, rv, hl, hz⟩ := I.list hs
  rw [Vals.ref1 r]
  refine sorted_strsAny hl.isList rv.strs (by rw [← rv.length]; exact hz) fun out ys h1 h2 h3 => ?_
  obtain ⟨ep, he⟩ := PyProof.Rows.sortedAll_at s.heap its out
  rw [List.length_map] at hz
  exact ⟨.ref _, _, I.laid (t' := s.toks) (fun _ _ => PyProof.Rows.sortedAll_old) (Nat.le_succ _) (show ObjOk X.prog X.w _ _ _ (.lst (ys.map V.str)) from ⟨by rw [List.length_map, h2.length_eq]; exact hz, out.toList, ep, vals_of_strs h1, he⟩), rfl, q ys _ h2 h3 (I.hok.fresh (Nat.le_succ _))⟩
end
/-! ### two sorted lists with the same members -/
theorem sorted_pw : ∀ (p : Str) (l : List Str), risingS p l = true → (∀ y ∈ l, ¬ y.cps.toList < p.cps.toList) ∧ l.Pairwise fun x y => ¬ y.cps.toList < x.cps.toList := by
  intro p l
  induction l generalizing p with
  | nil => exact fun _ => ⟨(fun _ h => nomatch h), List.Pairwise.nil⟩
  | cons x r ih =>
    intro h
    unfold risingS at h
    rw [Bool.and_eq_true, Bool.not_eq_true', ltCps_eq] at h
    obtain ⟨h1, h2⟩ := h
    have h1 := of_decide_eq_false h1
    obtain ⟨i1, i2⟩ := ih x h2
    refine ⟨fun y hy => ?_, List.pairwise_cons.mpr ⟨i1, i2⟩⟩
    rcases List.mem_cons.mp hy with rfl | hy
    · exact h1
    · exact fun z => h1 (List.lt_of_le_of_lt (List.not_lt.mp (i1 y hy)) z)
theorem sorted_pairwise {l : List Str} (h : sortedS l = true) : l.Pairwise fun x y => ¬ y.cps.toList < x.cps.toList := by
  cases l with
  | nil => exact List.Pairwise.nil
  | cons x r => exact List.pairwise_cons.mpr (sorted_pw x r h)
theorem str_cps {x y : Str} (h : x.cps.toList = y.cps.toList) : x = y := by
  cases x; cases y
  exact congrArg Str.mk (Array.toList_inj.mp h)
/-- sorted lists that are rearrangements of one another are equal -/
theorem sorted_perm {l m : List Str} (h1 : sortedS l = true) (h2 : sortedS m = true) (p : l.Perm m) : l = m :=
  p.eq_of_pairwise (fun a b _ _ q1 q2 => str_cps (List.le_antisymm (List.not_lt.mp q1) (List.not_lt.mp q2))) (sorted_pairwise h1) (sorted_pairwise h2)
theorem sorted_mem {l m : List Str} (h1 : sortedS l = true) (h2 : sortedS m = true) (n1 : l.Nodup) (n2 : m.Nodup) (e : ∀ k, k ∈ l ↔ k ∈ m) : l = m :=
  sorted_perm h1 h2 ((List.perm_ext_iff_of_nodup n1 n2).mpr e)
theorem sorted_ints {l m : List Int} (h1 : l.Pairwise (· ≤ ·)) (h2 : m.Pairwise (· ≤ ·)) (p : l.Perm m) : l = m :=
  p.eq_of_pairwise (fun a b _ _ q1 q2 => Int.le_antisymm q1 q2) h1 h2
end LW
/-! {elt for tg in iter if .. for tg1 in iter1 if ..}: a set of texts over two clauses. -/
namespace LW
open PySem PySem.Spec PyProof.Rows L2 PpSet
abbrev sc2 (elt t0 i0 t1 i1 : Expr) (f0 f1 : List Expr) (scope : Scope) (pos : Pos) : Expr := .SetComp elt [⟨t0, i0, f0, 0⟩, ⟨t1, i1, f1, 0⟩] scope pos
theorem sc2_turn0 (elt t0 i0 t1 i1 : Expr) (f0 f1 : List Expr) (scope : Scope) (pos : Pos) (it acc : Value) (env : Env) : compTurn (sc2 elt t0 i0 t1 i1 f0 f1 scope pos) 0 it acc env = (do
      standAt i0.pos
      match ← pyNext it with
      | none => pure (.done .next)
      | some u =>
        letOwnedTupleGo t0 it u
        assign t0 env u
        let mut go := true
        for test in f0 do
          if go then go ← isTrue test env (eval test env)
        if go then
          let src ← eval i1 env
          standAt i1.pos
          let src ← foldedSetIterable i1 env src
          let _ ← runOwn (.compStart (sc2 elt t0 i0 t1 i1 f0 f1 scope pos) 1 (← holding [src] (pyIter src)) acc env) env
        again (.compLoop (sc2 elt t0 i0 t1 i1 f0 f1 scope pos) 0 it acc env)) := by rfl
theorem sc2_turn1 (elt t0 i0 t1 i1 : Expr) (f0 f1 : List Expr) (scope : Scope) (pos : Pos) (it acc : Value) (env : Env) : compTurn (sc2 elt t0 i0 t1 i1 f0 f1 scope pos) 1 it acc env = (do
      standAt i1.pos
      match ← pyNext it with
      | none => pure (.done .next)
      | some u =>
        letOwnedTupleGo t1 it u
        assign t1 env u
        let mut go := true
        for test in f1 do
          if go then go ← isTrue test env (eval test env)
        if go then
          (do let new ← eval elt env; standAt elt.pos; let _ ← call (.builtin "set.add") [acc, new])
        again (.compLoop (sc2 elt t0 i0 t1 i1 f0 f1 scope pos) 1 it acc env)) := by rfl
section
variable {P : Program} {w : World} {A : Around} {R : Result → Shared → Prop} {s : Shared} {elt t0 i0 t1 i1 : Expr} {f0 f1 : List Expr} {scope : Scope} {pos : Pos} {it acc : Value} {env : Env}
/-- what is wanted where something is raised in the block -/
abbrev Up (P : Program) (w : World) (A : Around) (env : Env) (R : Result → Shared → Prop) : Value → Shared → Prop := notedBy (model P w) A env fun e s' => R (.error e) s'
/-- the tests of a clause -/
abbrev tests (fs : List Expr) (env : Env) : Sem Bool := forIn fs true fun c r => if r = true then do let ok ← isTrue c env (eval c env); pure (ForInStep.yield ok) else pure (ForInStep.yield r)
theorem sc2_loop0 (plain : ∀ x, foldedSetIterable i1 env x = pure x) (Go : Nat → Shared → Prop) (turn : ∀ n s, Go n s → wpAny (model P w) A (pyNext it) (fun r s1 => match r with
      | none => R (.ok .next) s1
      | some u => wpAny (model P w) A (letOwnedTupleGo t0 it u) (fun _ s2 => wpAny (model P w) A (assign t0 env u) (fun _ s3 => wpAny (model P w) A (tests f0 env) (fun go s4 =>
            if go = true then wpAny (model P w) A (eval i1 env) (fun src s5 => wpAny (model P w) A (pyIter src) (fun inner s6 =>
              codeAny (model P w) A (.compStart (sc2 elt t0 i0 t1 i1 f0 f1 scope pos) 1 inner acc env) (fun r s7 => match r with
                | .ok _ => ∃ m, m < n ∧ Go m s7
                | .error _ => False) s6) (Up P w A env R) s5) (Up P w A env R) s4
            else ∃ m, m < n ∧ Go m s4) (Up P w A env R) s3) (Up P w A env R) s2) (Up P w A env R) s1) (Up P w A env R) s) (n : Nat) (h : Go n s) :
    codeAny (model P w) A (.compLoop (sc2 elt t0 i0 t1 i1 f0 f1 scope pos) 0 it acc env) R s := by
  refine codeAny_loop rfl Go (fun n s g => ?_) n h
  show wpAny _ A ((compTurn (sc2 elt t0 i0 t1 i1 f0 f1 scope pos) 0 it acc env).onRaise (fun x => do noteFrame x env; theTreesLotGoes x)) _ _ s
  have up : ∀ (e : Value) (s' : Shared), Up P w A env R e s' → Up P w A env R e s' := fun _ _ z => z
  refine wpAny_noted ?_
  rw [sc2_turn0]
  refine wpAny_bind (wpAny_standAt (wpAny_bind (wpAny_mono (turn n s g) (fun r s1 h1 => ?_) up)))
  match r, h1 with
  | none, h1 => exact wpAny_pure h1
  | some u, h1 =>
    refine wpAny_bind (wpAny_mono h1 (fun _ s2 h2 => wpAny_bind (wpAny_mono h2 (fun _ s3 h3 => wpAny_bind (wpAny_mono h3 (fun go s4 h4 => ?_) up)) up)) up)
    match go, h4 with
    | false, h4 => exact wpAny_pure ⟨rfl, h4⟩
    | true, h4 =>
      refine wpAny_bind (wpAny_mono h4 (fun src s5 h5 => wpAny_bind (wpAny_standAt (wpAny_bind (wpAny_of_eq (plain src) (wpAny_bind (wpAny_holding (wpAny_mono h5 (fun inner s6 h6 => ?_) up))))))) up)
      refine wpAny_bind (wpAny_runOwn ?_)
      rw [Around.mark_none]
      refine codeAny_mono h6 fun r s7 h7 => ?_
      match r, h7 with
      | .ok _, h7 => first | exact wpAny_pure ⟨rfl, h7⟩ | exact wpAny_bind (wpAny_pure (wpAny_pure ⟨rfl, h7⟩))
      | .error _, h7 => exact h7.elim
theorem sc2_loop1 (Go : Nat → Shared → Prop) (turn : ∀ n s, Go n s → wpAny (model P w) A (pyNext it) (fun r s1 => match r with
      | none => R (.ok .next) s1
      | some u => wpAny (model P w) A (letOwnedTupleGo t1 it u) (fun _ s2 => wpAny (model P w) A (assign t1 env u) (fun _ s3 => wpAny (model P w) A (tests f1 env) (fun go s4 =>
            if go = true then wpAny (model P w) A (eval elt env) (fun new s5 => wpAny (model P w) A (call (.builtin "set.add") [acc, new]) (fun _ s6 => ∃ m, m < n ∧ Go m s6) (Up P w A env R) s5) (Up P w A env R) s4
            else ∃ m, m < n ∧ Go m s4) (Up P w A env R) s3) (Up P w A env R) s2) (Up P w A env R) s1) (Up P w A env R) s) (n : Nat) (h : Go n s) :
    codeAny (model P w) A (.compLoop (sc2 elt t0 i0 t1 i1 f0 f1 scope pos) 1 it acc env) R s := by
  refine codeAny_loop rfl Go (fun n s g => ?_) n h
  show wpAny _ A ((compTurn (sc2 elt t0 i0 t1 i1 f0 f1 scope pos) 1 it acc env).onRaise (fun x => do noteFrame x env; theTreesLotGoes x)) _ _ s
  have up : ∀ (e : Value) (s' : Shared), Up P w A env R e s' → Up P w A env R e s' := fun _ _ z => z
  refine wpAny_noted ?_
  rw [sc2_turn1]
  refine wpAny_bind (wpAny_standAt (wpAny_bind (wpAny_mono (turn n s g) (fun r s1 h1 => ?_) up)))
  match r, h1 with
  | none, h1 => exact wpAny_pure h1
  | some u, h1 =>
    refine wpAny_bind (wpAny_mono h1 (fun _ s2 h2 => wpAny_bind (wpAny_mono h2 (fun _ s3 h3 => wpAny_bind (wpAny_mono h3 (fun go s4 h4 => ?_) up)) up)) up)
    match go, h4 with
    | false, h4 => exact wpAny_pure ⟨rfl, h4⟩
    | true, h4 =>
      refine wpAny_bind (wpAny_bind (wpAny_mono h4 (fun new s5 h5 => wpAny_bind (wpAny_standAt (wpAny_bind (wpAny_mono h5 (fun _ s6 h6 => ?_) up)))) up))
      exact wpAny_pure (wpAny_pure ⟨rfl, h6⟩)
/-- a clause's start -/
theorem sc2_start (k : Nat) (hk : k = 0 ∨ k = 1) (h0 : codeAny (model P w) A (.compLoop (sc2 elt t0 i0 t1 i1 f0 f1 scope pos) k it acc env) R s)
    (h : wpAny (model P w) A (pyIter it) (fun it' s' => codeAny (model P w) A (.compLoop (sc2 elt t0 i0 t1 i1 f0 f1 scope pos) k it' acc env) R s') (Up P w A env R) s) :
    codeAny (model P w) A (.compStart (sc2 elt t0 i0 t1 i1 f0 f1 scope pos) k it acc env) R s := by
  refine codeAny_of_tree ?_
  show wpAny _ _ ((compStart (sc2 elt t0 i0 t1 i1 f0 f1 scope pos) k it acc env).onRaise (fun x => do noteFrame x env; standAt theWindowsPlace)) _ _ s
  refine wpAny_notedAt ?_
  unfold compStart
  rcases hk with rfl | rfl
  all_goals
    show wpAny _ _ (ask >>= _) _ _ s
    refine wpAny_bind (wpAny_askSetting (wpAny_ite ?_))
    split
    · first | exact wpAny_bind (wpAny_pure (wpAny_pure (And.intro rfl h0))) | exact wpAny_pure (And.intro rfl h0)
    · refine wpAny_bind (wpAny_rule ?_)
      show wpAny _ _ (standAt _ >>= _) _ _ s
      exact wpAny_bind (wpAny_standAt (wpAny_bind (wpAny_mono h (fun it' s' z => wpAny_pure (And.intro rfl z)) fun _ _ x => x)))
end
end LW
namespace LW
open PySem PySem.Spec PyProof.Rows L2 PpSet
/-- behind the first clause's target and tests the second source is walked; where its walk ends, Nx; D: the new set -/
def tScT2 (P : Program) (w : World) (wi : TI) (g : TG) (tt : TT) (wi1 : TI) (g1 : TG) (tt1 : TT) (te : TE) (vs vs1 : List Nat) : TE := fun σ H Q => wi σ H fun J H1 => ∀ D, H1 D = none →
  ∃ W : Nat → Nat → Hp → Prop, (∃ m, W 0 m (L2.upd H1 D (SetTO P w D (fun _ => false) 0))) ∧ ∀ i m H, W i m H →
    (J.stop i H ∧ Q (.ref D) H) ∨ (J.go i H ∧ ∃ Nx : Hp → Prop, (∀ H', Nx H' → ∃ m', m' < m ∧ W (i + 1) m' H') ∧ ∀ x H', J.yld i H x H' → g x (wipe σ vs) H' fun σ2 H2 => wipe σ2 vs = wipe σ vs ∧ tt σ2 H2 fun b H3 =>
      if b = true then wi1 σ2 H3 fun J1 H4 => ∃ W1 : Nat → Nat → Hp → Prop, (∃ m, W1 0 m H4) ∧ ∀ j k H, W1 j k H →
        (J1.stop j H ∧ Nx H) ∨ (J1.go j H ∧ ∃ Ny : Hp → Prop, (∀ H', Ny H' → ∃ k', k' < k ∧ W1 (j + 1) k' H') ∧ ∀ x H', J1.yld j H x H' → g1 x (wipe σ2 vs1) H' fun σ3 H5 => wipe σ3 vs1 = wipe σ2 vs1 ∧ tt1 σ3 H5 fun b H6 =>
          if b = true then te σ3 H6 fun y H7 => ∃ (z : Str) (S : Str → Bool) (n : Nat), y = .str z ∧ H7 D = some (SetTO P w D S n) ∧ n + 1 < scanBound ∧ Ny (L2.upd H7 D (SetTO P w D (fun k => S k || decide (k = z)) (if S z = true then n else n + 1))) else Ny H6)
      else Nx H3)
section
variable {X : Cx} {elt tg iter tg1 iter1 : Expr} {ifs ifs1 : List Expr} {scope : Scope} {own : List (Str × Nat)} {vs1 : List Nat} {pos : Pos} {wi wi1 : TI} {g g1 : TG} {tt tt1 : TT} {te : TE}
/-- the block's own context -/
abbrev Bk (X : Cx) (scope : Scope) (s : Shared) (H : Hp) (C : Addr) (cl : List (Str × Addr)) (fp : List Addr) : Cx := X.blk s H scope (compEnvC scope cl C X.env) fp
theorem pe_scT2 (hc : X.calm = true) (hN : X.N.Nodup) (hi : PI X tg iter wi) (ok : BlkOk X.N X.env.scope scope own) (hv : ∀ i ∈ vs1, i ∈ own.map (·.2))
    (hg : ∀ s H C cl fp, PG (Bk X scope s H C cl fp) tg g) (ht : ∀ s H C cl fp, PTs (Bk X scope s H C cl fp) ifs tt) (hi1 : ∀ s H C cl fp, PI (Bk X scope s H C cl fp) tg1 iter1 wi1)
    (hg1 : ∀ s H C cl fp, PG (Bk X scope s H C cl fp) tg1 g1) (ht1 : ∀ s H C cl fp, PTs (Bk X scope s H C cl fp) ifs1 tt1) (he : ∀ s H C cl fp, PE (Bk X scope s H C cl fp) elt te)
    (hs : ∀ x, foldedSetIterable iter X.env x = pure x := by intro _; rfl) (hs1 : ∀ env x, foldedSetIterable iter1 env x = pure x := by intro _ _; rfl) :
    PE X (sc2 elt tg iter tg1 iter1 ifs ifs1 scope pos) (tScT2 X.prog X.w wi g tt wi1 g1 tt1 te (own.map (·.2)) vs1) := by
  refine ⟨fun pins s σ H Q I h => ?_⟩
  rw [eval_SetComp]
  have cells : ∀ y ∈ scope.names, y.2 = .free → ∃ c, X.env.cells.lookup y.1 = some c := fun y hy e => (ok.free y hy e).elim (fun k => I.ok.has _ (.inl k)) fun k => I.ok.has _ (.inr k)
  refine wpAny_comprehension_free (use := none) rfl hs (closure_ok cells) ok.kind (fun y hy e => by rw [ok.uniq y hy, e]) (thn (hi.run pins s σ H _ I h) fun _ s1 h1 => thn h1 fun _ s2 h2 => ?_)
  obtain ⟨it, fp, at0, J, H2, rfl, I2, T, a2, f2, q⟩ := h2
  refine newSet_ok (newEnv_comp ?_)
  generalize eD : s2.heap.objs.size = D
  obtain ⟨W, ⟨m0, w0⟩, turn⟩ := q D (I2.hok.fresh (Nat.le_of_eq eD))
  generalize e3 : ({ s2 with heap := s2.heap.push { cls := .type "set", dict := none, data := .set #[] 0 (.fresh 0 0 (!X.w.params.followText "set-order")) } } : Shared) = s3
  generalize eH : L2.upd H2 D (SetTO X.prog X.w D (fun _ => false) 0) = H3 at w0
  have h3 : s3.heap = s2.heap.push { cls := .type "set", dict := none, data := .set #[] 0 (.fresh 0 0 (!X.w.params.followText "set-order")) } := by rw [← e3]
  have I3 : Inv X pins σ H3 s3 := by
    rw [← e3, ← eH, ← eD]
    exact I2.laid (t' := s2.toks) (fun _ _ e => Heap.get?_push_of_some _ e) (Nat.le_refl _) (setTO_new (setT_fresh X.prog X.w (Heap.get?_push_size _ rfl)))
  have f3 : ∀ b ∈ fp, FpOk X pins H3 b ∧ b < s3.heap.objs.size := fun b hb => by
    obtain ⟨o, eo, _⟩ := T.obj _ _ a2 b hb
    have lt := Heap.lt_size eo
    refine ⟨⟨?_, (f2 b hb).2⟩, by rw [h3, Heap.size_push]; exact Nat.lt_succ_of_lt lt⟩
    rw [← eH, upd_ne (by rw [← eD]; exact Nat.ne_of_lt lt)]
    exact (f2 b hb).1
  have a3 : at0 0 s3.heap := T.keep _ _ _ a2 fun _ _ _ e => by rw [h3]; exact Heap.get?_push_of_some _ e
  have I4 := block_start I3 ok hN f3
  generalize eC : cellsFrom (s3.heap.objs.size + 1) scope.names (cloFrom X.env.cells scope.names []) = cl at I4 ⊢
  have G : PG (X.blk s3 H3 scope (compEnvC scope cl s3.heap.objs.size X.env) fp) tg g := hg s3 H3 s3.heap.objs.size cl fp
  have Ts : PTs (X.blk s3 H3 scope (compEnvC scope cl s3.heap.objs.size X.env) fp) ifs tt := ht s3 H3 s3.heap.objs.size cl fp
  have It1 : PI (X.blk s3 H3 scope (compEnvC scope cl s3.heap.objs.size X.env) fp) tg1 iter1 wi1 := hi1 s3 H3 s3.heap.objs.size cl fp
  have G1 : PG (X.blk s3 H3 scope (compEnvC scope cl s3.heap.objs.size X.env) fp) tg1 g1 := hg1 s3 H3 s3.heap.objs.size cl fp
  have Ts1 : PTs (X.blk s3 H3 scope (compEnvC scope cl s3.heap.objs.size X.env) fp) ifs1 tt1 := ht1 s3 H3 s3.heap.objs.size cl fp
  have El : PE (X.blk s3 H3 scope (compEnvC scope cl s3.heap.objs.size X.env) fp) elt te := he s3 H3 s3.heap.objs.size cl fp
  have nf : ∀ b ∈ fp, H3 b = none := fun b hb => (f3 b hb).1.1
  show codeAny _ _ (.compStart (sc2 elt tg iter tg1 iter1 ifs ifs1 scope pos) 0 (.ref it) (.ref D) (compEnvC scope cl s3.heap.objs.size X.env)) (compPost (model X.prog X.w) X.A X.xe none (fun v s' => EP X pins σ Q v s') (.ref D) s3.heap.objs.size) { s3 with heap := pushCells (s3.heap.push { cls := .type "dict", data := .dict #[] }) scope.names }
  generalize e4 : ({ s3 with heap := pushCells (s3.heap.push { cls := .type "dict", data := .dict #[] }) scope.names } : Shared) = s4 at I4 ⊢
  have a4 : at0 0 s4.heap := T.keep _ _ _ a3 fun _ _ _ e => by rw [← e4]; exact pushCells_keeps _ _ _ _ (Heap.get?_push_of_some _ e)
  generalize eE : compEnvC scope cl s3.heap.objs.size X.env = ce at I4 G Ts It1 G1 Ts1 El ⊢
  have loc : ce.locals = s3.heap.objs.size := by subst eE; rfl
  -- what stands of an iterator's own things, within the block
  have own0 : ∀ {ps : List (Addr × Obj)} {σ' : L2.St} {H' : Hp} {s' : Shared}, Inv (X.blk s3 H3 scope ce fp) [] σ' H' s' → (∀ b ∈ fp, H' b = none) → ∀ b ∈ fp, FpOk (X.blk s3 H3 scope ce fp) [] H' b := fun {ps σ' H' s'} I' n b hb =>
    ⟨n b hb, (I'.ok.exf b hb).1, I'.ok.exfs b hb, .inl hb, (fun x c e => (I'.ok.exf b hb).2 x c e), fun p hp => absurd (show p ∈ ([] : List (Addr × Obj)) ++ [] from hp) (by simp)⟩
  let At : Nat → Shared → Prop := fun n s' => ∃ i H', Inv (X.blk s3 H3 scope ce fp) [] (wipe σ (own.map (·.2))) H' s' ∧ at0 i s'.heap ∧ (∀ b ∈ fp, H' b = none) ∧ W i n H'
  have main : codeAny (model X.prog X.w) X.A (.compLoop (sc2 elt tg iter tg1 iter1 ifs ifs1 scope pos) 0 (.ref it) (.ref D) ce) (compPost (model X.prog X.w) X.A X.xe none (fun v s' => EP X pins σ Q v s') (.ref D) s3.heap.objs.size) s4 := by
    refine sc2_loop0 (hs1 ce) At ?_ m0 ⟨0, H3, I4, a4, nf, w0⟩
    rintro n s5 ⟨i, H5, I5, a5, n5, w5⟩
    rcases turn i n H5 w5 with ⟨stop, fin⟩ | ⟨go, Nx, down, step⟩
    · refine thnF (T.done (X.blk s3 H3 scope ce fp) rfl rfl rfl hc i [] s5 _ H5 (fun _ _ => False) I5 (own0 (ps := []) I5 n5) a5 stop) fun r s6 ⟨er, I6⟩ => ?_
      subst er
      obtain ⟨m, hm, _⟩ := I6.loc
      have nC : H5 s3.heap.objs.size = none := by rw [← loc]; exact I6.free
      have I7 : Inv X pins σ H5 s6 := I3.call' (ch := fp) I6.os I6.base I6.hok I6.bare fun b hb => have z := (f3 b hb).1.2; ⟨z.2.2.1, z.1, z.2.2.2.1, z.2.2.2.2⟩
      obtain ⟨_, k1, _, k3, k4, k5⟩ := I3.fpOk (Nat.le_refl _) nC
      refine ⟨m, by rw [← loc]; exact hm, fun h'' sb => ?_⟩
      exact ⟨.ref D, H5, I7.turned (t' := s6.toks) (fun b o hb e => (sb.2 b hb).trans e) nC k1 k3 k4 k5, rfl, fin⟩
    · refine thnF (T.item (X.blk s3 H3 scope ce fp) rfl rfl rfl hc i [] s5 _ H5 (fun _ _ => False) I5 (own0 (ps := []) I5 n5) a5 go) fun r s6 ⟨u, er, h6⟩ => ?_
      subst er
      refine thnF h6 fun _ s7 ⟨x, H7, I7, r7, y7, a7, n7⟩ => ?_
      have P7 := I7.pinned (own0 (ps := []) I7 n7) (T.obj _ _ a7)
      refine thnF (G.run _ s7 _ H7 x u _ P7 r7 (step x H7 y7)) fun _ s8 ⟨σ8, H8, I8, e8, q8⟩ => ?_
      refine thnF (Ts.run _ s8 σ8 H8 _ I8 q8) fun b s9 ⟨H9, I9, q9⟩ => ?_
      have back : ∀ {σ9 : L2.St} {s' : Shared} {H' : Hp}, Inv (X.blk s3 H3 scope ce fp) ([] ++ pinsAt fp s7.heap) σ9 H' s' → (wipe σ (own.map (·.2))).length = σ9.length → (∀ (j : Nat) v, (wipe σ (own.map (·.2)))[j]? = some (some v) → σ9[j]? = some (some v)) → Nx H' →
          ∃ m, m < n ∧ At m s' := fun {σ9 s' H'} I' l k nx => by
        obtain ⟨m', lt, w'⟩ := down H' nx
        have st : ∀ b ∈ fp, ∀ o, s7.heap.get? b = some o → s'.heap.get? b = some o ∧ H' b = none := fun b hb o e =>
          have z := I'.pin (b, o) (List.mem_append_right _ (List.mem_append_right _ (mem_pinsAt hb e)))
          ⟨z.1, z.2.1⟩
        refine ⟨m', lt, i + 1, H', (I'.unpinned (pins := [])).weak l k, T.keep _ _ _ a7 fun b hb o e => (st b hb o e).1, fun b hb => ?_, w'⟩
        obtain ⟨o, e, _⟩ := T.obj _ _ a7 b hb
        exact (st b hb o e).2
      have len8 : (wipe σ (own.map (·.2))).length = σ8.length := by rw [← e8, wipe_length]
      have known8 : ∀ (j : Nat) v, (wipe σ (own.map (·.2)))[j]? = some (some v) → σ8[j]? = some (some v) := fun j v e => (wipe_some (by rw [e8]; exact e)).1
      cases b with
      | false =>
        rw [if_neg Bool.false_ne_true] at q9
        exact back I9 len8 known8 q9
      | true =>
        rw [if_pos rfl] at q9
        refine thnF (It1.run _ s9 σ8 H9 _ I9 q9) fun _ s10 h10 => thnF h10 fun _ s11 h11 => ?_
        obtain ⟨it1, fp1, at1, J1, H11, rfl, I11, T1, a11, f11, W1, ⟨m1, w1⟩, turn1⟩ := h11
        have own1 : ∀ {H' : Hp}, (∀ b ∈ fp1, H' b = none) → ∀ b ∈ fp1, FpOk (X.blk s3 H3 scope ce fp) ([] ++ pinsAt fp s7.heap) H' b := fun n b hb => ⟨n b hb, (f11 b hb).2⟩
        have inner : codeAny (model X.prog X.w) X.A (.compLoop (sc2 elt tg iter tg1 iter1 ifs ifs1 scope pos) 1 (.ref it1) (.ref D) ce) (fun r s' => match r with
              | .ok _ => ∃ m, m < n ∧ At m s'
              | .error _ => False) s11 := by
          refine sc2_loop1 (fun k s' => ∃ j H', Inv (X.blk s3 H3 scope ce fp) ([] ++ pinsAt fp s7.heap) (wipe σ8 vs1) H' s' ∧ at1 j s'.heap ∧ (∀ b ∈ fp1, H' b = none) ∧ W1 j k H') ?_ m1 ⟨0, H11, I11.weak (wipe_length _ _) (fun j v e => (wipe_some e).1), a11, (fun b hb => (f11 b hb).1), w1⟩
          rintro k s12 ⟨j, H12, I12, a12, n12, w12⟩
          rcases turn1 j k H12 w12 with ⟨stop1, nx1⟩ | ⟨go1, Ny, down1, step1⟩
          · refine thnF (T1.done (X.blk s3 H3 scope ce fp) rfl rfl rfl hc j _ s12 (wipe σ8 vs1) H12 (fun _ _ => False) I12 (own1 n12) a12 stop1) fun r s13 ⟨er, I13⟩ => ?_
            subst er
            refine back I13 (len8.trans (wipe_length σ8 vs1).symm) (fun j v e => ?_) nx1
            obtain ⟨z1, z2⟩ := wipe_some (by rw [e8]; exact e)
            rw [wipe_out fun z => z2 (hv j z)]
            exact z1
          · refine thnF (T1.item (X.blk s3 H3 scope ce fp) rfl rfl rfl hc j _ s12 (wipe σ8 vs1) H12 (fun _ _ => False) I12 (own1 n12) a12 go1) fun r s13 ⟨u1, er, h13⟩ => ?_
            subst er
            refine thnF h13 fun _ s14 ⟨x1, H14, I14, r14, y14, a14, n14⟩ => ?_
            refine thnF (G1.run _ s14 (wipe σ8 vs1) H14 x1 u1 _ (I14.pinned (own1 n14) (T1.obj _ _ a14)) r14 (step1 x1 H14 y14)) fun _ s15 ⟨σ15, H15, I15, e15, q15⟩ => ?_
            refine thnF (Ts1.run _ s15 σ15 H15 _ I15 q15) fun b1 s16 ⟨H16, I16, q16⟩ => ?_
            have back1 : ∀ {s' : Shared} {H' : Hp}, Inv (X.blk s3 H3 scope ce fp) (([] ++ pinsAt fp s7.heap) ++ pinsAt fp1 s14.heap) σ15 H' s' → Ny H' →
                ∃ m, m < k ∧ ∃ j H', Inv (X.blk s3 H3 scope ce fp) ([] ++ pinsAt fp s7.heap) (wipe σ8 vs1) H' s' ∧ at1 j s'.heap ∧ (∀ b ∈ fp1, H' b = none) ∧ W1 j m H' := fun {s' H'} I' nx => by
              obtain ⟨m', lt, w'⟩ := down1 H' nx
              have st : ∀ b ∈ fp1, ∀ o, s14.heap.get? b = some o → s'.heap.get? b = some o ∧ H' b = none := fun b hb o e =>
                have z := I'.pin (b, o) (List.mem_append_right _ (List.mem_append_right _ (mem_pinsAt hb e)))
                ⟨z.1, z.2.1⟩
              refine ⟨m', lt, j + 1, H', I'.unpinned.weak (by rw [← e15, wipe_length]) (fun j v e => (wipe_some (by rw [e15]; exact e)).1), T1.keep _ _ _ a14 fun b hb o e => (st b hb o e).1, fun b hb => ?_, w'⟩
              obtain ⟨o, e, _⟩ := T1.obj _ _ a14 b hb
              exact (st b hb o e).2
            cases b1 with
            | false =>
              rw [if_neg Bool.false_ne_true] at q16
              exact back1 I16 q16
            | true =>
              rw [if_pos rfl] at q16
              refine thnF (El.run _ s16 σ15 H16 _ I16 q16) fun v s17 ⟨yv, H17, I17, r17, z, S, c, ey, eD17, room, nx⟩ => ?_
              subst ey
              obtain ⟨tk, rfl⟩ := r17
              exact addT_ok (X := X.blk s3 H3 scope ce fp) I17 eD17 room fun s18 I18 => back1 I18 nx
        exact sc2_start 1 (.inr rfl) inner (T1.self X.A 0 _ _ _ a11 inner)
  exact sc2_start 0 (.inl rfl) main (T.self X.A 0 _ _ _ a4 main)
end
end LW
namespace LW
open PySem PySem.Spec PyProof.Rows L2
/-- the def of the module by the name x keeps sp -/
def Cal (P : Program) (w : World) (K : PySem.W.Frag) (mg : Str → Option Value) (base : Heap) (CX : CXT) (k : Nat) (x : Str) (ps : List Str) (sp : Sp) : Prop :=
  ∃ (f : Addr) (fd : FuncData), FnOk P w K mg base CX k f fd ps sp ∧ mg x = some (.ref f) ∧ PySem.W.keepIn K (.ref f) = true ∧ L2.Binds K fd ps []
/-- the method m of the class at C keeps sp -/
def CalM (P : Program) (w : World) (K : PySem.W.Frag) (mg : Str → Option Value) (base : Heap) (CX : CXT) (k : Nat) (C : Addr) (m : Str) (ps : List Str) (sp : Sp) : Prop :=
  ∃ (f : Addr) (fd : FuncData), FnOk P w K mg base CX k f fd ps sp ∧ Cls K C ∧ Meth K C m f ∧ L2.Binds K fd ps []
/-- the class x at C is made, its __init__ keeps sp -/
def CalK (P : Program) (w : World) (K : PySem.W.Frag) (mg : Str → Option Value) (base : Heap) (CX : CXT) (k : Nat) (x : Str) (C : Addr) (ps : List Str) (sp : Sp) : Prop :=
  ∃ (f : Addr) (fd : FuncData), FnOk P w K mg base CX k f fd ps sp ∧ Mk K C f ∧ mg x = some (.ref C) ∧ L2.Binds K fd ps []
theorem Cal.of {P : Program} {w : World} {K : PySem.W.Frag} {mg : Str → Option Value} {base : Heap} {CX : CXT} {k : Nat} {x : Str} {st : Stmt} {ps : List Str} {f : Addr} {fd : FuncData} {sp : Sp} (D : DefAt K mg x st ps f fd) (F : FnOk P w K mg base CX k f fd ps sp) : Cal P w K mg base CX k x ps sp :=
  ⟨f, fd, F, D.at_, D.fn.kp, D.bd⟩
theorem Cal.calm {P : Program} {w : World} {K : PySem.W.Frag} {mg : Str → Option Value} {base : Heap} {k : Nat} {x : Str} {ps : List Str} {sp sp' : Sp} (C : Cal P w K mg base (L2.CX P w) k x ps sp) (h : ∀ vs H Q E, sp' vs H Q E → sp vs H Q (fun _ _ _ => False)) : Cal P w K mg base CX0 k x ps sp' := by
  obtain ⟨f, fd, F, a, kp, b⟩ := C
  exact ⟨f, fd, calm_of F h, a, kp, b⟩
section
variable {X : Cx} {k j : Nat} {x m : Str} {C : Addr} {ps : List Str} {sp : Sp} {e o : Expr} {es : List Expr} {t : TA} {ta : TE} {p apos pos : Pos} {W : WX}
theorem pe_cal (c : Cal X.prog X.w X.K X.mg X.base CX0 k x ps sp) (hr : Room j X.A) (ha : PA X (e :: es) t) (hg : Gl X x := by rfl) (hk : k ≤ j := by decide) (hdb : (x == ("__debug__" : Str)) = false := by decide)
    (he : starEach (e :: es) X.env = (false, eval e X.env) :: starEach es X.env := by rfl) (hpl : (backTo pos (starEach es X.env)).any (·.1) = false := by rfl) : PE X (.Call (.Name x p) (e :: es) [] pos) (tCall sp [] E0 t) := by
  obtain ⟨f, fd, F, a, kp, b⟩ := c
  exact pe_call F (hr.mono hk) hg a kp b .nil pass0 ha hdb he hpl
theorem pe_cal0 (c : Cal X.prog X.w X.K X.mg X.base CX0 k x ps sp) (hr : Room j X.A) (hg : Gl X x := by rfl) (hk : k ≤ j := by decide) (hdb : (x == ("__debug__" : Str)) = false := by decide) : PE X (.Call (.Name x p) [] [] pos) (tCall sp [] E0 tNil) := by
  obtain ⟨f, fd, F, a, kp, b⟩ := c
  exact pe_call0 F (hr.mono hk) hg a kp b .nil pass0 hdb
/-- of one that may raise -/
theorem pe_calS (c : Cal X.prog X.w X.K X.mg X.base (L2.CX X.prog X.w) k x ps sp) (hr : Room j X.A) (tk : Takes X W) (ha : PA X (e :: es) t) (hg : Gl X x := by rfl) (hk : k ≤ j := by decide) (hdb : (x == ("__debug__" : Str)) = false := by decide)
    (he : starEach (e :: es) X.env = (false, eval e X.env) :: starEach es X.env := by rfl) (hpl : (backTo pos (starEach es X.env)).any (·.1) = false := by rfl) : PE X (.Call (.Name x p) (e :: es) [] pos) (tCallS sp (WE W) t) := by
  obtain ⟨f, fd, F, a, kp, b⟩ := c
  exact pe_callS F (hr.mono hk) hg a kp b (fun σ => passAt tk σ) ha hdb he hpl
theorem pe_calM {pl : Sem Bool} (he : PE X o ta) (c : CalM X.prog X.w X.K X.mg X.base CX0 k C m ps sp) (hr : Room j X.A) (ha : PA X (e :: es) t) (hk : k ≤ j := by decide)
    (hst : starEach (e :: es) X.env = (false, eval e X.env) :: starEach es X.env := by rfl) (hpl : (backTo pos (starEach es X.env)).any (·.1) = false := by rfl)
    (ht : eval (.Call (.Attribute o m apos) (e :: es) [] pos) X.env = (do
      let ov ← eval o X.env
      standAt apos.atName
      let (f, first) ← holding [ov] (getMethod ov m pl)
      callWith pos f first (backTo pos (starEach (e :: es) X.env)) (backToKw pos (keywordEach [] X.env))) := by rfl) :
    PE X (.Call (.Attribute o m apos) (e :: es) [] pos) (tMeth C m sp [] E0 ta t) := by
  obtain ⟨f, fd, F, cl, me, b⟩ := c
  exact pe_meth he cl me F (hr.mono hk) b .nil pass0 ha hst hpl ht
theorem pe_calM0 {pl : Sem Bool} (he : PE X o ta) (c : CalM X.prog X.w X.K X.mg X.base CX0 k C m ps sp) (hr : Room j X.A) (hk : k ≤ j := by decide)
    (ht : eval (.Call (.Attribute o m apos) [] [] pos) X.env = (do
      let ov ← eval o X.env
      standAt apos.atName
      let (f, first) ← holding [ov] (getMethod ov m pl)
      callWith pos f first (backTo pos (starEach [] X.env)) (backToKw pos (keywordEach [] X.env))) := by rfl) :
    PE X (.Call (.Attribute o m apos) [] [] pos) (tMeth C m sp [] E0 ta tNil) := by
  obtain ⟨f, fd, F, cl, me, b⟩ := c
  exact pe_meth0 he cl me F (hr.mono hk) b .nil pass0 ht
theorem pe_calK (c : CalK X.prog X.w X.K X.mg X.base CX0 k x C ps sp) (hr : Room j X.A) (ha : PA X (e :: es) t) (hg : Gl X x := by rfl) (hk : k + 1 ≤ j := by decide) (hdb : (x == ("__debug__" : Str)) = false := by decide)
    (he : starEach (e :: es) X.env = (false, eval e X.env) :: starEach es X.env := by rfl) (hpl : (backTo pos (starEach es X.env)).any (·.1) = false := by rfl) : PE X (.Call (.Name x p) (e :: es) [] pos) (tMake C sp [] E0 t) := by
  obtain ⟨f, fd, F, M, a, b⟩ := c
  exact pe_make M F (hr.mono hk) hg a b .nil pass0 ha hdb he hpl
theorem pe_calK0 (c : CalK X.prog X.w X.K X.mg X.base CX0 k x C ps sp) (hr : Room j X.A) (hg : Gl X x := by rfl) (hk : k + 1 ≤ j := by decide) (hdb : (x == ("__debug__" : Str)) = false := by decide) : PE X (.Call (.Name x p) [] [] pos) (tMake C sp [] E0 tNil) := by
  obtain ⟨f, fd, F, M, a, b⟩ := c
  exact pe_make0 M F (hr.mono hk) hg a b .nil pass0 hdb
/-- a constant of the module -/
theorem pe_gstr {z : Str} (h : ∃ u, X.mg x = some (.str z u)) (hg : Gl X x := by rfl) (hd : (x == ("__debug__" : Str)) = false := by decide) : PE X (.Name x pos) (tC (.str z)) := by
  obtain ⟨u, e⟩ := h
  exact pe_glob (v := .str z) hg e ⟨u, rfl⟩ hd
theorem pe_gint {z : Int} (h : ∃ u, X.mg x = some (.int z u)) (hg : Gl X x := by rfl) (hd : (x == ("__debug__" : Str)) = false := by decide) : PE X (.Name x pos) (tC (.int z)) := by
  obtain ⟨u, e⟩ := h
  exact pe_glob (v := .int z) hg e ⟨u, rfl⟩ hd
/-- a built-in class as a value -/
theorem pe_gty {T : String} (h : X.mg x = none) (hv : bootBuiltins x = some (.type T) := by decide +kernel) (hg : Gl X x := by rfl) (hn : x ≠ "__name__" := by decide) (hd : (x == ("__debug__" : Str)) = false := by decide) : PE X (.Name x pos) (tC (.ty T)) :=
  pe_bltn (v := .ty T) hg h hv rfl hn hd
end
end LW
/-! Several dicts locked while an expression runs. -/
namespace LW
open PySem PySem.Spec PyProof.Rows L2 GxR
def tLk (t : TE) : List Addr → TE
  | [] => t
  | d :: ds => tLockE1 d (tLk t ds)
where tLockE1 (d : Addr) (t : TE) : TE := fun σ H Q => ∃ u, H d = some u ∧ Mut (some u) ∧ ∀ od, t σ (L2.upd H d (.frz od u)) fun v H' => H' d = some (.frz od u) ∧ Q v (L2.upd H' d u)
/-- the reading chooses the dicts -/
def tLocks (t : TE) : TE := fun σ H Q => ∃ ds, tLk t ds σ H Q
theorem pe_locks {X : Cx} {e : Expr} {t : TE} (h : PE X e t) : PE X e (tLocks t) := by
  refine ⟨fun pins s σ H Q I ⟨ds, q⟩ => ?_⟩
  have all : ∀ ds : List Addr, PE X e (tLk t ds) := fun ds => by
    induction ds with
    | nil => exact h
    | cons d ds ih => exact ⟨fun pins s σ H Q I ⟨u, e1, e2, q⟩ => (pe_lock ih).run pins s σ H Q I ⟨d, u, e1, e2, q⟩⟩
  exact (all ds).run pins s σ H Q I q
/-- the heap with the dicts ds as they were in H -/
def back (ds : List Addr) (H H' : Hp) : Hp := fun b => if b ∈ ds then H b else H' b
theorem lk_all {t : TE} {σ : L2.St} : ∀ (ds : List Addr) (H : Hp) (Q : VK), ds.Nodup → (∀ d ∈ ds, ∃ kvs, H d = some (.dK kvs)) →
    (∀ H2 : Hp, (∀ b, b ∉ ds → H2 b = H b) → (∀ d ∈ ds, ∀ kvs, H d = some (.dK kvs) → ∃ o, H2 d = some (.frz o (.dK kvs))) → t σ H2 (fun v H' => (∀ d ∈ ds, H' d = H2 d) ∧ Q v (back ds H H'))) → tLk t ds σ H Q := by
  intro ds
  induction ds with
  | nil =>
    intro H Q _ _ k
    have e : (fun (v : V) (H' : Hp) => (∀ d ∈ ([] : List Addr), H' d = H d) ∧ Q v (back [] H H')) = Q := by
      funext v H'
      apply propext
      have : back [] H H' = H' := by funext b; unfold back; simp
      rw [this]
      exact ⟨fun z => z.2, fun z => ⟨by simp, z⟩⟩
    have := k H (fun _ _ => rfl) (fun d hd => by simp at hd)
    rw [e] at this
    exact this
  | cons d ds ih =>
    intro H Q nd hk k
    obtain ⟨n1, n2⟩ := List.nodup_cons.mp nd
    obtain ⟨kvs, hd⟩ := hk d List.mem_cons_self
    refine ⟨.dK kvs, hd, True.intro, fun od => ?_⟩
    have ne : ∀ {b}, b ∈ ds → b ≠ d := fun hb e => n1 (e ▸ hb)
    refine ih _ _ n2 (fun b hb => ?_) (fun H2 a1 a2 => ?_)
    · obtain ⟨kv, e⟩ := hk b (List.mem_cons_of_mem _ hb)
      exact ⟨kv, by rw [upd_ne (ne hb)]; exact e⟩
    · have hd2 : H2 d = some (.frz od (.dK kvs)) := by rw [a1 d n1, upd_same]
      have q := k H2 (fun b hb => by
        rw [a1 b fun z => hb (List.mem_cons_of_mem _ z), upd_ne fun z => hb (by rw [z]; exact List.mem_cons_self)]) (fun b hb kv e => by
        rcases List.mem_cons.mp hb with rfl | hb
        · rw [hd] at e
          cases e
          exact ⟨od, hd2⟩
        · exact a2 b hb kv (by rw [upd_ne (ne hb)]; exact e))
      have e : (fun (v : V) (H' : Hp) => (∀ b ∈ d :: ds, H' b = H2 b) ∧ Q v (back (d :: ds) H H')) = fun v H' => (∀ b ∈ ds, H' b = H2 b) ∧ ((back ds (L2.upd H d (.frz od (.dK kvs))) H') d = some (.frz od (.dK kvs)) ∧ Q v (L2.upd (back ds (L2.upd H d (.frz od (.dK kvs))) H') d (.dK kvs))) := by
        funext v H'
        apply propext
        have e1 : (back ds (L2.upd H d (.frz od (.dK kvs))) H') d = H' d := by unfold back; rw [if_neg n1]
        have e2 : L2.upd (back ds (L2.upd H d (.frz od (.dK kvs))) H') d (.dK kvs) = back (d :: ds) H H' := by
          funext b
          by_cases hb : b = d
          · subst hb
            rw [upd_same]
            unfold back
            rw [if_pos List.mem_cons_self, hd]
          · rw [upd_ne hb]
            unfold back
            by_cases hm : b ∈ ds
            · rw [if_pos hm, if_pos (List.mem_cons_of_mem _ hm), upd_ne hb]
            · rw [if_neg hm, if_neg (fun z => (List.mem_cons.mp z).elim hb hm)]
        rw [e1, e2]
        constructor
        · rintro ⟨z1, z2⟩
          exact ⟨fun b hb => z1 b (List.mem_cons_of_mem _ hb), (z1 d List.mem_cons_self).trans hd2, z2⟩
        · rintro ⟨z1, z2, z3⟩
          exact ⟨fun b hb => by
            rcases List.mem_cons.mp hb with rfl | hb
            · exact z2.trans hd2.symm
            · exact z1 b hb, z3⟩
      rw [e] at q
      exact q
end LW
namespace LW
open PySem PySem.Spec PyProof.Rows L2 GxR
/-- a walk by its invariant, whatever is done with an item -/
theorem walk_inv {J : It} {n : Nat} {G : Hp → Prop} {Y : Nat → Hp → V → Hp → Prop} (w : Walk J n G Y) {Body : V → Hp → (Hp → Prop) → Prop} {H0 : Hp} {Qd : Hp → Prop} (Pv : Nat → Hp → Prop) (h0 : Pv 0 H0) (hG : ∀ i H, i ≤ n → Pv i H → G H)
    (hs : ∀ i x H H', i < n → Pv i H → Y i H x H' → Body x H' (Pv (i + 1))) (hd : ∀ H, Pv n H → Qd H) :
    ∃ W : Nat → Nat → Hp → Prop, (∃ m, W 0 m H0) ∧ ∀ i m H, W i m H → (J.stop i H ∧ Qd H) ∨ (J.go i H ∧ ∃ Nx : Hp → Prop, (∀ H', Nx H' → ∃ m', m' < m ∧ W (i + 1) m' H') ∧ ∀ x H', J.yld i H x H' → Body x H' Nx) := by
  refine ⟨fun i m H => m = n - i ∧ i ≤ n ∧ Pv i H, ⟨n, rfl, Nat.zero_le _, h0⟩, ?_⟩
  rintro i m H ⟨rfl, hi, p⟩
  have g := hG i H hi p
  by_cases lt : i < n
  · exact .inr ⟨w.goes i H lt g, Pv (i + 1), fun H' p' => ⟨n - (i + 1), by omega, rfl, lt, p'⟩, fun x H' y => hs i x H H' lt p (w.yields i H x H' lt g y)⟩
  · obtain rfl : i = n := by omega
    exact .inl ⟨w.stops H g, hd H p⟩
end LW
namespace LW
open PySem PySem.Spec PyProof.Rows L2 GxR
/-- all is kept but the law's state -/
structure Mv (a c : Addr) (H H' : Hp) : Prop where
  keep : ∀ b o, b ≠ a → b ≠ c → H b = some o → H' b = some o
  free : ∀ b, H' b = none → H b = none
theorem Mv.refl (a c : Addr) (H : Hp) : Mv a c H H := ⟨fun _ _ _ _ e => e, fun _ n => n⟩
theorem Mv.trans {a c : Addr} {H H1 H2 : Hp} (m : Mv a c H H1) (n : Mv a c H1 H2) : Mv a c H H2 := ⟨fun b o h1 h2 e => n.keep b o h1 h2 (m.keep b o h1 h2 e), fun b z => m.free b (n.free b z)⟩
theorem Mv.same {a c : Addr} {H H' : Hp} (s : Same H H') : Mv a c H H' := ⟨fun b o _ _ e => s b o e, fun b n => s.free n⟩
theorem Mv.take {a c : Addr} {H H' : Hp} (s : SL H a c) (s' : SL H' a c) (e : ∀ b, b ≠ a → b ≠ c → H' b = H b) : Mv a c H H' := ⟨fun b o h1 h2 z => by rw [e b h1 h2]; exact z, fun b z => by
  by_cases h1 : b = a
  · obtain ⟨n, cs, q, _⟩ := s'
    rw [h1, q] at z; cases z
  · by_cases h2 : b = c
    · obtain ⟨n, cs, _, q, _⟩ := s'
      rw [h2, q] at z; cases z
    · rw [← e b h1 h2]; exact z⟩
theorem Mv.new {a c : Addr} {H H' : Hp} {p : Addr} {o : HO} (m : Mv a c H H') (n : H p = none) : Mv a c H (L2.upd H' p o) := ⟨fun b u h1 h2 e => by rw [upd_ne (ne_of_none e n)]; exact m.keep b u h1 h2 e, fun b z => by
  by_cases h : b = p
  · rw [h]; exact n
  · rw [upd_ne h] at z; exact m.free b z⟩
theorem Mv.tab {a c : Addr} {H H' : Hp} {B : Addr} (m : Mv a c H H') (s : SL H a c) (t : TabG H B) : TabG H' B := by
  have n := s.tab t
  obtain ⟨ps, e, r⟩ := t
  exact ⟨ps, m.keep _ _ n.1 n.2 e, r⟩
theorem join_one (xs : List Nat) : TL.tl (Txt.join (Str.ofString "") (xs.map fun c => (⟨#[c]⟩ : Str))) = xs := by
  rw [TL.join_eq, TL.tl_join, tl_empty, joinL_nil, List.map_map]
  induction xs with
  | nil => rfl
  | cons z r ih =>
    rw [List.map_cons, List.flatten_cons, ih]
    rfl
/-- the signs of a drawn text -/
def drawn : List Nat := [97, 98, 99, 88, 89, 32, 48, 49]
theorem drawn_eq : (Str.ofString "abcXY 01").cps.toList = drawn := by decide +kernel
/-- a text at will, of at most m signs -/
def spText : Sp := fun vs H Q _ => ∃ (a c : Addr) (m : Nat), vs = [.ref a, .int (m : Int)] ∧ SL H a c ∧ m < 1000 ∧ ∀ x H', x.length ≤ m → (∀ z ∈ x.cps.toList, z ∈ drawn) → SL H' a c → Mv a c H H' → Q (.str x) H'
/-- all is kept but at the addresses F -/
structure Kp (F : Addr → Prop) (H H' : Hp) : Prop where
  keep : ∀ b o, ¬ F b → H b = some o → H' b = some o
  free : ∀ b, H' b = none → H b = none
theorem Kp.refl (F : Addr → Prop) (H : Hp) : Kp F H H := ⟨fun _ _ _ e => e, fun _ n => n⟩
theorem Kp.trans {F : Addr → Prop} {H H1 H2 : Hp} (m : Kp F H H1) (n : Kp F H1 H2) : Kp F H H2 := ⟨fun b o h e => n.keep b o h (m.keep b o h e), fun b z => m.free b (n.free b z)⟩
theorem Kp.weak {F G : Addr → Prop} {H H' : Hp} (m : Kp F H H') (h : ∀ b, F b → G b) : Kp G H H' := ⟨fun b o n e => m.keep b o (fun z => n (h b z)) e, m.free⟩
theorem Kp.same {F : Addr → Prop} {H H' : Hp} (s : Same H H') : Kp F H H' := ⟨fun b o _ e => s b o e, fun b n => s.free n⟩
theorem Kp.mv {a c : Addr} {F : Addr → Prop} {H H' : Hp} (m : Mv a c H H') (ha : F a) (hc : F c) : Kp F H H' := ⟨fun b o n e => m.keep b o (fun z => n (z ▸ ha)) (fun z => n (z ▸ hc)) e, m.free⟩
theorem Kp.new {F : Addr → Prop} {H H' : Hp} {p : Addr} {o : HO} (m : Kp F H H') (n : H' p = none) : Kp F H (L2.upd H' p o) := m.trans (.same (same_upd n))
theorem Kp.put {F : Addr → Prop} {H H' : Hp} {p : Addr} {o : HO} (m : Kp F H H') (h : F p) (n : H' p ≠ none) : Kp F H (L2.upd H' p o) := m.trans ⟨fun b u nb e => by
  rw [upd_ne (show b ≠ p from fun z => nb (by rw [z]; exact h))]; exact e, fun b z => by
  by_cases e : b = p
  · rw [e, upd_same] at z; cases z
  · rw [upd_ne e] at z; exact z⟩
theorem kp_take {a c : Addr} {H H' : Hp} (s : SL H a c) (s' : SL H' a c) (e : ∀ b, b ≠ a → b ≠ c → H' b = H b) : Kp (fun b => b = a ∨ b = c) H H' := .mv (Mv.take s s' e) (.inl rfl) (.inr rfl)
end LW
namespace LW
open PySem PySem.Spec PyProof.Rows L2 GxR
theorem dp_txt {K : PySem.W.Frag} {H : Hp} : ∀ ls : List Str, DpAll K H (ls.map V.str) (ls.map PyData.str)
  | [] => .nil
  | x :: r => .cons (.str x) (dp_txt r)
theorem dp_num {K : PySem.W.Frag} {H : Hp} : ∀ ls : List Int, DpAll K H (ls.map V.int) (ls.map PyData.int)
  | [] => .nil
  | x :: r => .cons (.int x) (dp_num r)
theorem lay_txt : ∀ ls : List Str, (∀ x ∈ ls, PyData.strOk x = true) → PyData.canLayAll0 (ls.map PyData.str) = true ∧ PyData.depthAll (ls.map PyData.str) = 0
  | [], _ => ⟨rfl, rfl⟩
  | x :: r, h => by
    have ih := lay_txt r fun y hy => h y (List.mem_cons_of_mem _ hy)
    constructor
    · rw [List.map_cons, PyData.canLayAll0, ih.1, PyData.canLay0, h x List.mem_cons_self]; rfl
    · rw [List.map_cons, PyData.depthAll, ih.2, PyData.depth]; rfl
theorem lay_num : ∀ ls : List Int, PyData.canLayAll0 (ls.map PyData.int) = true ∧ PyData.depthAll (ls.map PyData.int) = 0
  | [] => ⟨rfl, rfl⟩
  | x :: r => by
    have ih := lay_num r
    constructor
    · rw [List.map_cons, PyData.canLayAll0, ih.1, PyData.canLay0]; rfl
    · rw [List.map_cons, PyData.depthAll, ih.2, PyData.depth]; rfl
theorem shaped_txt {ls : List Str} (h : ∀ x ∈ ls, PyData.strOk x = true) : SeqAt.shaped (.list (ls.map PyData.str)) = true := by
  have l := lay_txt ls h
  unfold SeqAt.shaped
  rw [PyData.canLay0, l.1, PyData.depth, l.2]
  rfl
theorem shaped_num {ls : List Int} : SeqAt.shaped (.list (ls.map PyData.int)) = true := by
  have l := lay_num ls
  unfold SeqAt.shaped
  rw [PyData.canLay0, l.1, PyData.depth, l.2]
  rfl
theorem same_txt {ls : List Str} (h : ∀ x ∈ ls, PyData.strOk x = true) : PyData.eqv (.list (ls.map PyData.str)) (.list (ls.map PyData.str)) = true := SeqAt.eqv_refl _ (by rw [PyData.canLay0]; exact (lay_txt ls h).1)
theorem same_num {ls : List Int} : PyData.eqv (.list (ls.map PyData.int)) (.list (ls.map PyData.int)) = true := SeqAt.eqv_refl _ (by rw [PyData.canLay0]; exact (lay_num ls).1)
end LW
namespace LW
open PySem PySem.Spec PyProof.Rows L2 GxR
theorem over_genL {A : Around} {elt : Expr} {cs : List Comprehension} {sc : Scope} {pos : Pos} {it acc : Value} {env : Env} : A.over (.compLoop (.GeneratorExp elt cs sc pos) 0 it acc env) [] = A.deeper env := by
  first
    | rfl
    | (obtain ⟨hd, d, fr, gs, u⟩ := A; simp [Around.over, Around.deeper, marksOver, frameCount, unitsOf, envsOf, guardsOf, pushEnvs, pushGuards, Code.envs, Code.env?, Code.isFrame, Code.guards, Code.isGuard, Code.weight, Code.frames, Code.isCreation, Code.isCaller, Code.cUnits])
theorem over_genS {A : Around} {elt : Expr} {cs : List Comprehension} {sc : Scope} {pos : Pos} {it acc : Value} {env : Env} : A.over (.compStart (.GeneratorExp elt cs sc pos) 0 it acc env) [] = A.deeper env := by
  first
    | rfl
    | (obtain ⟨hd, d, fr, gs, u⟩ := A; simp [Around.over, Around.deeper, marksOver, frameCount, unitsOf, envsOf, guardsOf, pushEnvs, pushGuards, Code.envs, Code.env?, Code.isFrame, Code.guards, Code.isGuard, Code.weight, Code.frames, Code.isCreation, Code.isCaller, Code.cUnits])
/-- the names of a generator expression's block: its own, or captured; no cell of its own -/
structure GBlk (N : List Str) (sc scope : Scope) (own : List (Str × Nat)) : Prop where
  blk : BlkOk N sc scope own
  co : scope.isCoroutine = false
  cell : ∀ y ∈ scope.names, y.2 ≠ .cell
  dot : scope.names.lookup (".0" : Str) = some NameKind.local
def gblkC (N : List Str) (sc scope : Scope) (own : List (Str × Nat)) : Bool :=
  blkC N sc scope own && !scope.isCoroutine && (scope.names.all fun y => match y.2 with | .cell => false | _ => true) && (match scope.names.lookup (".0" : Str) with | some .local => true | _ => false)
theorem gblk_by {N : List Str} {sc scope : Scope} {own : List (Str × Nat)} (h : gblkC N sc scope own = true) : GBlk N sc scope own := by
  unfold gblkC at h
  simp only [Bool.and_eq_true, List.all_eq_true] at h
  obtain ⟨⟨⟨h1, h2⟩, h3⟩, h4⟩ := h
  refine ⟨blkOk_by h1, by simpa using h2, fun y hy e => ?_, ?_⟩
  · have := h3 y hy
    rw [e] at this
    cases this
  · split at h4
    · assumption
    · cases h4
/-- the context of a generator expression's run -/
abbrev Gx (X : Cx) (A : Around) (s : Shared) (H : Hp) (cenv : Env) (fp : List Addr) (pn : List (Addr × Obj)) : Cx :=
  { X with A := A.deeper cenv, s_0 := s, H_0 := H, env := cenv, outer := X.stack, stack := cenv :: X.stack, ex := fp, fn := fun _ => false, pn := pn, xe := fun _ _ => False }
abbrev gEnv (X : Cx) (sc : Scope) (C : Addr) (code : Value) : Env := genEnv sc (cloFrom X.env.cells sc.names []) C code builtinsNs X.env
section
variable {X : Cx} {pins : List (Addr × Obj)} {σ : L2.St} {H : Hp} {s : Shared}
theorem inv_same {s' : Shared} (I : Inv X pins σ H s) (hh : s'.heap = s.heap) (ho : s'.os = s.os) (hb : AllBare s'.gens) : Inv X pins σ H s' :=
  ⟨I.ok, ho.trans I.os, hb, by rw [hh]; exact I.base, by rw [hh]; exact I.loc, by rw [hh]; exact I.cell, I.free, I.freeC, by rw [hh]; exact I.pin, by rw [hh]; exact I.hok, I.len⟩
theorem gen_back {A : Around} {cenv : Env} {fp : List Addr} {pn : List (Addr × Obj)} {σ' : L2.St} {H' : Hp} {s' : Shared} {ps : List (Addr × Obj)} (I : Inv X pins σ H s) (hfp : ∀ b ∈ fp, FpOk X pins H b) (J : Inv (Gx X A s H cenv fp pn) ps σ' H' s') : Inv X pins σ H' s' :=
  I.call' (ch := fp) J.os J.base J.hok J.bare fun b hb => ⟨(hfp b hb).2.2.2.1, (hfp b hb).2.1, (hfp b hb).2.2.2.2.1, (hfp b hb).2.2.2.2.2⟩
theorem gen_start {A : Around} {scope : Scope} {own : List (Str × Nat)} {fp : List Addr} {code : Value} {it : Value} {h1 : Heap} {go : Obj} {s' : Shared} (I : Inv X pins σ H s) (ok : GBlk X.N X.env.scope scope own) (hN : X.N.Nodup)
    (hfp : ∀ b ∈ fp, FpOk X pins H b ∧ b < s.heap.objs.size) (hd : A.handled = none) (hfr : A.frames = some X.stack)
    (hn : h1.Ns s.heap.objs.size (fun y => if y = (".0" : Str) then some it else none)) (k1 : ∀ b o, s.heap.get? b = some o → h1.get? b = some o) (sz : s.heap.objs.size < h1.objs.size)
    (hgo : ∀ v, go.data ≠ .cell v) (hgs : (h1.push go).get? h1.objs.size = some go) (hh : s'.heap = h1.push go) (ho : s'.os = s.os) (hb : AllBare s'.gens) :
    Inv (Gx X A s H (gEnv X scope s.heap.objs.size code) fp [(h1.objs.size, go)]) [] (wipe σ (own.map (·.2))) H s' := by
  have hfree : ∀ y ∈ scope.names, y.2 = .free → ∃ c, X.env.cells.lookup y.1 = some c := fun y hy e => by
    rcases ok.blk.free y hy e with k | k
    · exact I.ok.has _ (.inl k)
    · exact I.ok.has _ (.inr k)
  have kp : ∀ b o, s.heap.get? b = some o → s'.heap.get? b = some o := fun b o e => by rw [hh]; exact Heap.get?_push_of_some _ (k1 b o e)
  have cm : ∀ {y c}, (y, c) ∈ cloFrom X.env.cells scope.names [] → (y, NameKind.free) ∈ scope.names ∧ X.env.cells.lookup y = some c ∧ c < s.heap.objs.size := fun {y c} hm => by
    rcases cloFrom_mem hm with hm | ⟨h1, rfl⟩
    · cases hm
    · obtain ⟨c, hc⟩ := hfree _ h1 rfl
      rw [hc]
      obtain ⟨w, z⟩ := I.cell _ _ hc
      exact ⟨h1, rfl, z.lt⟩
  have mem : ∀ {y c}, (gEnv X scope s.heap.objs.size code).cells.lookup y = some c → (y, NameKind.free) ∈ scope.names ∧ X.env.cells.lookup y = some c ∧ c < s.heap.objs.size := fun {y c} e => cm (PySem.mem_of_lookup e)
  have look : ∀ {y}, scope.names.lookup y = some .free → ∃ c, (gEnv X scope s.heap.objs.size code).cells.lookup y = some c ∧ X.env.cells.lookup y = some c := fun {y} hl => by
    have hy : (y, NameKind.free) ∈ scope.names := PySem.mem_of_lookup hl
    obtain ⟨c', e'⟩ := mem_lookup (cloFrom_has (cells := X.env.cells) (acc := []) hy)
    exact ⟨c', e', (mem e').2.1⟩
  have big : ∀ b, s.heap.objs.size ≤ b → H b = none ∧ b ∉ frs X.stack := fun b hb => by
    refine ⟨I.hok.fresh hb, fun z => ?_⟩
    rcases List.mem_cons.mp (I.stkSub b z) with z | z
    · have l := I.lt
      rw [← z] at l
      exact absurd (Nat.lt_of_lt_of_le l hb) (Nat.lt_irrefl _)
    · exact I.nofs hb z
  have okB : (Gx X A s H (gEnv X scope s.heap.objs.size code) fp [(h1.objs.size, go)]).Ok := by
    refine ⟨I.ok.mod, ok.blk.kind, I.ok.glob, rfl, Nat.le_refl _, fun y z c e1 e2 => I.ok.inj y z c (mem e1).2.1 (mem e2).2.1, fun y hy => ?_, (fun y c z e => by cases z), (fun _ => hd), Around.frames_deeper hfr, .inr ⟨rfl, rfl⟩,
      fun b hb => ⟨Nat.ne_of_lt (hfp b hb).2, fun y c e => (hfp b hb).1.2.2.2.2.1 y c (mem e).2.1⟩, I.bs, Nat.le_trans I.ok.bsz I.sz, fun b o e hb => ?_, fun b hb z => ?_, I.stack, I.stkFree⟩
    · rcases hy with hy | hy
      · exact absurd rfl (ok.cell _ (PySem.mem_of_lookup (show scope.names.lookup y = some .cell from hy)))
      · obtain ⟨c, h1, _⟩ := look (show scope.names.lookup y = some .free from hy)
        exact ⟨c, h1⟩
    · rcases (hfp b hb).1.2.2.2.1 with z | z
      · exact I.ok.noex b o e z
      · exact absurd (Nat.lt_of_lt_of_le (Heap.lt_size e) (Nat.le_trans I.ok.bsz z)) (Nat.lt_irrefl _)
    · rcases List.mem_cons.mp (I.stkSub b z) with z | z
      · exact (hfp b hb).1.2.1 z
      · exact (hfp b hb).1.2.2.1 z
  refine ⟨okB, ho, hb, Un.kept kp, ⟨_, by rw [hh]; exact hn.push _, fun i y av e1 e2 e3 => ?_⟩, fun y c e => ?_, (big _ (Nat.le_refl _)).1, fun y c e => I.freeC y c (mem e).2.1, fun p hp => ?_, I.hok.kept kp, by rw [wipe_length]; exact I.len⟩
  · obtain ⟨e2, hne⟩ := wipe_some e2
    have no : ¬ (scope.names.lookup y = some .local ∨ scope.names.lookup y = some .cell) := fun h => by
      have hm : ∃ k, (y, k) ∈ scope.names ∧ (k = .local ∨ k = .cell) := h.elim (fun z => ⟨_, PySem.mem_of_lookup z, .inl rfl⟩) fun z => ⟨_, PySem.mem_of_lookup z, .inr rfl⟩
      obtain ⟨k, hm, hk⟩ := hm
      rcases ok.blk.own _ hm hk with e' | e'
      · obtain ⟨p, hp, hpy⟩ := List.mem_map.mp e'
        have e3 := ok.blk.ix p hp
        have : p.1 = y := hpy
        rw [this] at e3
        exact hne (List.mem_map.mpr ⟨p, hp, nodup_ix hN e3 e1⟩)
      · exact e' (List.mem_of_getElem? e1)
    have hf : scope.names.lookup y = some .free := by
      rcases e3 with e3 | e3 | e3
      · exact absurd (.inl e3) no
      · exact absurd (.inr e3) no
      · exact e3
    obtain ⟨m, hn, hl⟩ := I.loc
    have hvis : Vis X.env.scope y := (ok.blk.free _ (PySem.mem_of_lookup hf) rfl).elim (fun k => .inr (.inl k)) (fun k => .inr (.inr k))
    obtain ⟨w, r, q⟩ := hl i y av e1 e2 hvis
    refine ⟨w, r, .inr ⟨.inr hf, ?_⟩⟩
    obtain ⟨c, h1, h2⟩ := look hf
    rcases q with ⟨k, _⟩ | ⟨_, c', e', z⟩
    · have k : X.env.scope.names.lookup y = some .local := k
      rcases ok.blk.free _ (PySem.mem_of_lookup hf) rfl with k' | k' <;> rw [show X.env.scope.names.lookup y = _ from k'] at k <;> cases k
    · rw [h2] at e'; cases e'
      exact ⟨c, h1, z.keeps kp⟩
  · obtain ⟨w, z⟩ := I.cell y c (mem e).2.1
    exact ⟨w, z.keeps kp⟩
  · rcases List.mem_append.mp hp with z | z
    · rw [List.mem_singleton.mp z]
      obtain ⟨b1, b2⟩ := big h1.objs.size (Nat.le_of_lt sz)
      exact ⟨by rw [hh]; exact hgs, b1, Nat.ne_of_gt sz, b2, hgo⟩
    · cases z
end
end LW
namespace LW
open PySem PySem.Spec PyProof.Rows L2 GxR
/-- a walk whose elements are bools: it ends with the source, or at the first False -/
def WalkL (J : It) (g : TG) (te : TE) (vs : List Nat) (σ : L2.St) (Qt : Bool → Hp → Prop) (W : Nat → Nat → Hp → Prop) : Prop := ∀ i m H, W i m H →
  (J.stop i H ∧ Qt true H) ∨ (J.go i H ∧ ∃ Nx : Hp → Prop, (∀ H', Nx H' → ∃ m', m' < m ∧ W (i + 1) m' H') ∧ ∀ x H', J.yld i H x H' → g x (wipe σ vs) H' fun σ2 H3 => wipe σ2 vs = wipe σ vs ∧ te σ2 H3 fun y H4 => ∃ b, y = .bl b ∧ if b = true then Nx H4 else Qt false H4)
/-- an element is handed out -/
def YL (Y : Cx) (τ : L2.St) (Qt : Bool → Hp → Prop) : Protocol := fun n s₀ v s1 kap =>
  ∃ b H1, v = .bool b ∧ Inv Y [] τ H1 s1 ∧ (b = false → Qt false H1) ∧ (b = true → ∀ s' : Shared, s'.heap = s1.heap → s'.os = s1.os → AllBare s'.gens → kap (.send .none) s')
def FL (Y : Cx) (τ : L2.St) (Qt : Bool → Hp → Prop) : Nat → Shared → Shared → Prop := fun _ _ s1 => ∃ H1, Inv Y [] τ H1 s1 ∧ Qt true H1
def RL (Y : Cx) (τ : L2.St) (Qt : Bool → Hp → Prop) : GenEnd := fun n s₀ r s1 => ((r = .ok (.ret .none) ∨ r = .ok .next) ∧ FL Y τ Qt n s₀ s1) ∨ ∃ e, r = .error e ∧ (fun _ _ => False : Value → Shared → Prop) e s1
section
variable {X : Cx} {σ : L2.St}
theorem seg_genLoopL {A : Around} {s3 : Shared} {H3 : Hp} {cenv : Env} {fp : List Addr} {pn : List (Addr × Obj)} {tg iter elt : Expr} {scope : Scope} {pos : Pos} {J : It} {it : Addr} {tn : Nat → Heap → Prop} {g : TG} {te : TE} {vs : List Nat} {Qt : Bool → Hp → Prop} {W : Nat → Nat → Hp → Prop}
    (T : Turn X.prog X.w X.K tg J fp it tn) (hc : X.calm = true) (hpa : ∀ p ∈ pn, ∀ b ∈ fp, p.1 ≠ b) (pg : PG (Gx X A s3 H3 cenv fp pn) tg g) (pe : PE (Gx X A s3 H3 cenv fp pn) elt te) (hco : cenv.scope.isCoroutine = false) (turn : WalkL J g te vs σ Qt W) :
    ∀ (n : Nat) (s₀ s : Shared) (i m : Nat) (H : Hp), m < n → Inv (Gx X A s3 H3 cenv fp pn) [] (wipe σ vs) H s → tn i s.heap → (∀ b ∈ fp, H b = none) → W i m H →
      Seg (model X.prog X.w) A (RL (Gx X A s3 H3 cenv fp pn) (wipe σ vs) Qt) (YL (Gx X A s3 H3 cenv fp pn) (wipe σ vs) Qt) n s₀
        (.compLoop (.GeneratorExp elt [⟨tg, iter, [], 0⟩] scope pos) 0 (.ref it) .none cenv) ((model X.prog X.w).den (.compLoop (.GeneratorExp elt [⟨tg, iter, [], 0⟩] scope pos) 0 (.ref it) .none cenv)) [] s := by
  have own0 : ∀ {σ' : L2.St} {H' : Hp} {s' : Shared}, Inv (Gx X A s3 H3 cenv fp pn) [] σ' H' s' → (∀ b ∈ fp, H' b = none) → ∀ b ∈ fp, FpOk (Gx X A s3 H3 cenv fp pn) [] H' b := fun {σ' H' s'} I' n b hb =>
    ⟨n b hb, (I'.ok.exf b hb).1, I'.ok.exfs b hb, .inl hb, (fun x c e => (I'.ok.exf b hb).2 x c e), fun p hp => by
      rcases List.mem_append.mp hp with z | z
      · exact hpa p z b hb
      · cases z⟩
  intro n
  induction n with
  | zero => intro s₀ s i m H hm; exact absurd hm (Nat.not_lt_zero _)
  | succ n ih =>
    intro s₀ s i m H hm I st nf w
    show Seg _ A _ _ _ s₀ _ ((compTurn (.GeneratorExp elt [⟨tg, iter, [], 0⟩] scope pos) 0 (.ref it) .none cenv).onRaise (leaving cenv)) [] s
    rw [compTurn_gen, Sem.onRaise_eq_wrap]
    refine seg_bind_wrap (wpAny_standAt ?_)
    rcases turn i m H w with ⟨stop, q⟩ | ⟨go, Nx, hNx, step⟩
    · refine seg_bind_wrap ?_
      rw [over_genL]
      refine thnF (T.done (Gx X A s3 H3 cenv fp pn) rfl rfl rfl hc i [] s _ H (fun _ _ => False) I (own0 I nf) st stop) fun r s6 ⟨er, I6⟩ => ?_
      subst er
      exact seg_end (.ok .next) (.inl ⟨.inr rfl, H, I6, q⟩)
    · refine seg_bind_wrap ?_
      rw [over_genL]
      refine thnF (T.item (Gx X A s3 H3 cenv fp pn) rfl rfl rfl hc i [] s _ H (fun _ _ => False) I (own0 I nf) st go) fun r s6 ⟨u, er, h6⟩ => ?_
      subst er
      refine seg_bind_wrap ?_
      rw [over_genL]
      refine thnF h6 fun _ s7 ⟨x, H7, I7, r7, y7, st7, n7⟩ => ?_
      have P7 := I7.pinned (own0 I7 n7) (T.obj _ _ st7)
      refine seg_bind_wrap ?_
      rw [over_genL]
      refine thnF (pg.run _ s7 _ H7 x u _ P7 r7 (step x H7 y7)) fun _ s8 ⟨σ8, H8, I8, hw8, q8⟩ => ?_
      refine seg_bind_wrap (wpAny_tests_nil ?_)
      simp only [if_true]
      have hy : ∀ v, yieldOut cenv v = yieldValue v := fun v => by simp only [yieldOut, hco, Bool.false_eq_true, if_false]
      simp only [hy]
      rw [Sem.bind_eq_wrap', Sem.bind_eq_wrap', Sem.wrap_wrap, Sem.wrap_wrap]
      refine seg_wrap ?_
      rw [over_genL]
      refine thnF (pe.run _ s8 σ8 H8 _ I8 q8) fun z s9 ⟨yv, H9, I9, r9, b, ey, q9⟩ => ?_
      subst ey
      obtain rfl : z = Value.bool b := r9
      have hl : (wipe σ vs).length = σ8.length := by rw [← hw8, wipe_length]
      have I9' : Inv (Gx X A s3 H3 cenv fp pn) [] (wipe σ vs) H9 s9 := (I9.unpinned (pins := [])).weak hl fun j v e => by
        rw [← hw8] at e
        exact (wipe_some e).1
      have pin' : ∀ b ∈ fp, ∀ o, s7.heap.get? b = some o → s9.heap.get? b = some o ∧ H9 b = none := fun b hb o e =>
        let z := I9.pin (b, o) (List.mem_append_right _ (List.mem_append_right _ (mem_pinsAt hb e)))
        ⟨z.1, z.2.1⟩
      refine seg_at (seg_yield rfl rfl rfl ⟨b, H9, rfl, I9', fun hb => ?_, fun hb s' e1 e2 e3 => ?_⟩)
      · subst hb
        simpa using q9
      · subst hb
        simp only [if_true] at q9
        obtain ⟨m', lt, w'⟩ := hNx _ q9
        refine seg_again rfl (ih s' s' (i + 1) m' H9 (by omega) (inv_same I9' e1 e2 e3) ?_ (fun b hb => ?_) w')
        · rw [e1]
          exact T.keep _ _ _ st7 fun b hb o e => (pin' b hb o e).1
        · obtain ⟨o, e, _⟩ := T.obj _ _ st7 b hb
          exact (pin' b hb o e).2
theorem seg_genStartL {A : Around} {s3 : Shared} {H3 : Hp} {cenv : Env} {fp : List Addr} {pn : List (Addr × Obj)} {tg iter elt : Expr} {scope : Scope} {pos : Pos} {J : It} {it : Addr} {tn : Nat → Heap → Prop} {g : TG} {te : TE} {vs : List Nat} {Qt : Bool → Hp → Prop} {W : Nat → Nat → Hp → Prop}
    (T : Turn X.prog X.w X.K tg J fp it tn) (hc : X.calm = true) (hpa : ∀ p ∈ pn, ∀ b ∈ fp, p.1 ≠ b) (pg : PG (Gx X A s3 H3 cenv fp pn) tg g) (pe : PE (Gx X A s3 H3 cenv fp pn) elt te) (hco : cenv.scope.isCoroutine = false) (turn : WalkL J g te vs σ Qt W)
    (n : Nat) (s₀ s : Shared) (m : Nat) (H : Hp) (hm : m < n) (I : Inv (Gx X A s3 H3 cenv fp pn) [] (wipe σ vs) H s) (st : tn 0 s.heap) (nf : ∀ b ∈ fp, H b = none) (w : W 0 m H) :
      Seg (model X.prog X.w) A (RL (Gx X A s3 H3 cenv fp pn) (wipe σ vs) Qt) (YL (Gx X A s3 H3 cenv fp pn) (wipe σ vs) Qt) n s₀
        (.compStart (.GeneratorExp elt [⟨tg, iter, [], 0⟩] scope pos) 0 (.ref it) .none cenv) ((model X.prog X.w).den (.compStart (.GeneratorExp elt [⟨tg, iter, [], 0⟩] scope pos) 0 (.ref it) .none cenv)) [] s := by
  have loop := seg_genLoopL (iter := iter) (scope := scope) (pos := pos) T hc hpa pg pe hco turn n s₀ s 0 m H hm I st nf w
  show Seg _ A _ _ _ s₀ _ ((compStart (.GeneratorExp elt [⟨tg, iter, [], 0⟩] scope pos) 0 (.ref it) .none cenv).onRaise (leaving cenv)) [] s
  unfold compStart
  rw [Sem.onRaise_eq_wrap]
  show Seg _ A _ _ _ s₀ _ ((ask >>= _).wrap _ _ _ _) [] s
  refine seg_bind_wrap (wpAny_askSetting ?_)
  split
  · exact seg_again rfl loop
  · first
      | exact seg_bind_wrap (wpAny_rule (seg_bind_wrap (wpAny_standAt (seg_bind_wrap (T.self _ 0 s _ _ st (seg_again rfl loop))))))
      | (refine seg_bind_wrap (wpAny_rule ?_); show Seg _ A _ _ _ s₀ _ ((standAt iter.pos >>= _).wrap _ _ _ _) [] s; exact seg_bind_wrap (wpAny_standAt (seg_bind_wrap (T.self _ 0 s _ _ st (seg_again rfl loop)))))
end
end LW
namespace LW
open PySem PySem.Spec PyProof.Rows L2 GxR GenW
section
variable {P : Program} {w : World}
/-- all's loop over a generator that hands out bools -/
theorem all_loopL {Y : Cx} {τ : L2.St} {Qt : Bool → Hp → Prop} {A : Around} {a : Addr} {g : Nat} {R : Result → Shared → Prop} (hh : A.handled = none) (hd : A.depth < recursionLimit)
    (hg : ∀ (s : Shared) (H : Hp), Inv Y [] τ H s → s.heap.IsGen a g) (hend : ∀ b H (s' : Shared), Inv Y [] τ H s' → Qt b H → R (.ok (.ret (.bool b))) s') :
    ∀ (n : Nat) (s : Shared), s.heap.IsGen a g → s.heap.NoLimit → (∃ gs, s.gens[g]? = some gs ∧ gs.Goes (model P w) A.in1.in1 (RL Y τ Qt) (YL Y τ Qt) n (.send .none) (s.setGen g .running)) →
      codeAny (model P w) A (.builtin "all.loop" ⟨[.ref a], []⟩) R s := by
  intro n
  induction n with
  | zero =>
    intro s hgen hl ⟨gs, hgs, hgo⟩
    refine codeAny_builtin F.entry_all_loop ?_
    rw [Around.under_plainId F.plain_all_loop _]
    show wpAny _ A.in1 (pyNext (.ref a) >>= _) _ _ s
    refine wpAny_bind (next_genG (A := A.in1) (F := FL Y τ Qt) (Er := fun _ _ => False) hh hl hd hgen hgs hgo (fun v s₁ gs' hbare hv => ?_) (fun s₁ hp h' hk => ?_) fun e s₁ he => he.elim)
    · obtain ⟨b, H1, rfl, I1, hf, ht⟩ := hv
      cases b with
      | true => exact False.elim (ht rfl s₁ rfl rfl I1.bare)
      | false =>
        refine wpAny_bind (wpAny_holding (wpAny_truthy_bool (wpAny_bind (wpAny_letGo ?_))))
        simp only [Bool.false_eq_true, if_false]
        exact wpAny_bind (wpAny_rule (wpAny_pure (hend false H1 _ (inv_same I1 rfl rfl (allBare_setGen I1.bare hbare)) (hf rfl))))
    · obtain ⟨H1, I1, q⟩ := hp
      refine wpAny_bind (wpAny_rule (wpAny_pure (hend true H1 _ ?_ q)))
      exact I1.call' (ch := []) rfl (Un.kept hk) (I1.hok.kept hk) (allBare_setGen I1.bare rfl) fun b hb => by cases hb
  | succ n ih =>
    intro s hgen hl ⟨gs, hgs, hgo⟩
    have hgl : g < s.gens.size := (Array.getElem?_eq_some_iff.mp hgs).1
    refine codeAny_builtin F.entry_all_loop ?_
    rw [Around.under_plainId F.plain_all_loop _]
    show wpAny _ A.in1 (pyNext (.ref a) >>= _) _ _ s
    refine wpAny_bind (wpAny_gsz (n := g + 1) hgl (next_genG (A := A.in1) (F := FL Y τ Qt) (Er := fun _ _ => False) hh hl hd hgen hgs hgo (fun v s₁ gs' hbare hv => ?_) (fun s₁ hp h' hk => ?_) fun e s₁ he => he.elim))
    · intro hsz
      obtain ⟨b, H1, rfl, I1, hf, ht⟩ := hv
      have hsz1 : g < s₁.gens.size := by
        have q : (s₁.setGen g gs').gens.size = s₁.gens.size := setGen_size _ _ _
        have hsz' : g + 1 ≤ (s₁.setGen g gs').gens.size := hsz
        omega
      cases b with
      | true =>
        refine wpAny_bind (wpAny_holding (wpAny_truthy_bool (wpAny_bind (wpAny_letGo ?_))))
        simp only [if_true]
        refine wpAny_pure ⟨plainId_quiet F.plain_all_loop _, ih _ ?_ ?_ ⟨gs', setGen_at hsz1, ?_⟩⟩
        · exact hg s₁ H1 I1
        · exact I1.nolimit
        · exact ht rfl ((s₁.setGen g gs').setGen g .running) rfl rfl (allBare_setGen (s := s₁.setGen g gs') (allBare_setGen I1.bare hbare) rfl)
      | false =>
        refine wpAny_bind (wpAny_holding (wpAny_truthy_bool (wpAny_bind (wpAny_letGo ?_))))
        simp only [Bool.false_eq_true, if_false]
        exact wpAny_bind (wpAny_rule (wpAny_pure (hend false H1 _ (inv_same I1 rfl rfl (allBare_setGen I1.bare hbare)) (hf rfl))))
    · intro hsz
      obtain ⟨H1, I1, q⟩ := hp
      refine wpAny_bind (wpAny_rule (wpAny_pure (hend true H1 _ ?_ q)))
      exact I1.call' (ch := []) rfl (Un.kept hk) (I1.hok.kept hk) (allBare_setGen I1.bare rfl) fun b hb => by cases hb
end
section
variable {X : Cx} {pins : List (Addr × Obj)} {σ : L2.St} {H : Hp} {s : Shared}
def tAllL (T : Addr) (wi : TI) (g : TG) (te : TE) (vs : List Nat) : TE := fun σ H Q => wi σ H fun J H1 => TabG H1 T ∧ ∀ H2, Tabbed T H1 H2 →
  ∃ W : Nat → Nat → Hp → Prop, (∃ m, W 0 m H2) ∧ WalkL J g te vs σ (fun b H => Q (.bl b) H) W
/-- a generator of bools has been made, and is ready to be asked -/
def ReadyL (X : Cx) (k : Nat) (pins : List (Addr × Obj)) (σ τ : L2.St) (Qt : Bool → Hp → Prop) (a : Addr) (s : Shared) : Prop :=
  ∃ g n gs, s.heap.IsGen a g ∧ s.heap.NoLimit ∧ s.gens[g]? = some gs ∧ ∀ A : Around, Room k A → A.frames = some X.stack → ∃ Y : Cx,
    (∀ (s : Shared) (H : Hp), Inv Y [] τ H s → s.heap.IsGen a g) ∧ (∀ (s : Shared) (H : Hp), Inv Y [] τ H s → Inv X pins σ H s) ∧ gs.Goes (model X.prog X.w) A (RL Y τ Qt) (YL Y τ Qt) n (.send .none) (s.setGen g .running)
theorem gen_makeL {c T : Addr} {e iter tg : Expr} {gp : Pos} {sc : Scope} {own : List (Str × Nat)} {wi : TI} {g : TG} {te : TE} {k : Nat} {Q : VK} {Q' : Value → Shared → Prop}
    (hr : Room (k + 1) X.A) (hcm : X.calm = true) (hN : X.N.Nodup) (B : TabB X.base X.mg c T) (hc : X.env.code = .ref c) (ok : GBlk X.N X.env.scope sc own) (hi : PI X tg iter wi)
    (hpg : ∀ A s H C code fp pn, PG (Gx X A s H (gEnv X sc C code) fp pn) tg g) (he : ∀ A s H C code fp pn, Room k (A.deeper (gEnv X sc C code)) → PE (Gx X A s H (gEnv X sc C code) fp pn) e te)
    (hs : ∀ v, genFold iter X.env v = pure v) (I : Inv X pins σ H s) (h : tAllL T wi g te (own.map (·.2)) σ H Q)
    (q : ∀ a s5, ReadyL X (k + 1) pins σ (wipe σ (own.map (·.2))) (fun b H => Q (.bl b) H) a s5 → Q' (.ref a) s5) :
    wpAny (model X.prog X.w) X.A (eval (.GeneratorExp e [⟨tg, iter, [], 0⟩] sc gp) X.env) Q' X.xe s := by
  have room : X.A.depth < recursionLimit := hr.depth
  have hfree : ∀ y ∈ sc.names, y.2 = .free → ∃ c, X.env.cells.lookup y.1 = some c := fun y hy e => (ok.blk.free y hy e).elim (fun k => I.ok.has _ (.inl k)) (fun k => I.ok.has _ (.inr k))
  refine wpAny_GeneratorExp_make ok.co (closure_ok hfree) ok.cell ok.dot ok.blk.kind room (thn (hi.run pins s σ H _ I h) fun xv s1 h1 => thn h1 fun itv s2 h2 => ?_) hs
  obtain ⟨it, fp, tn, J, H2, rfl, I2, Tn, st2, f2, ⟨ps, hT, tr⟩, hw⟩ := h2
  have oT : s2.heap.get? T = some { cls := .none, data := .fields ps } := I2.hok T _ hT
  have ltT := Heap.lt_size oT
  have cd : PySem.W.CodeHd s2.heap c T := B.code.keeps fun b u hb => I2.bk b u hb
  have goG : ∃ og, s2.heap.get? mainGlobals = some og ∧ mainGlobals ≠ T := by
    obtain ⟨og, _, _, eg, _⟩ := I2.mod.glob
    exact ⟨og, I2.bk _ _ eg, B.gP⟩
  obtain ⟨og, gg, gT⟩ := goG
  have nsG : s2.heap.Ns mainGlobals X.mg := I2.mod.glob.keeps I2.bk
  refine ⟨I2.nolimit, ?_⟩
  have rest : ∀ (cv : Value) (h3 : Heap) (tk : Nat) (more : Array Value), Heap.ExtBut T s2.heap h3 → s2.heap.objs.size ≤ h3.objs.size →
      h3.get? T = some { cls := .none, data := .fields (ps ++ more) } → TriplesOk (ps ++ more).toList →
      wpAny (model X.prog X.w) X.A (builtinsFor X.env.globals X.env.builtins) (fun bi s₄ =>
        ∀ h', h'.Ns s₄.heap.objs.size (fun y => if y = (".0" : Str) then some (.ref it) else none) → Heap.SameBut s₄.heap.objs.size (s₄.heap.push { cls := .type "frame", data := .dict #[] }) h' →
          Q' (.ref h'.objs.size) { s₄ with
            gens := s₄.gens.push (.fresh (.compStart (.GeneratorExp e [⟨tg, iter, [], 0⟩] sc gp) 0 (.ref it) .none (genEnv sc (cloFrom X.env.cells sc.names []) s₄.heap.objs.size cv bi X.env))),
            toks := s₄.toks + 1 + 1 + 1,
            heap := h'.push { cls := .type "generator", data := .fields #[.int s₄.gens.size 0, .str "<genexpr>" (s₄.toks + 1), .str (X.env.qual ++ "<genexpr>") (s₄.toks + 1 + 1)] } }) X.xe { s2 with heap := h3, toks := tk } := by
    intro cv h3 tk more ext hz hT3 tr3
    have old : ∀ b u, b ≠ T → s2.heap.get? b = some u → h3.get? b = some u := fun b u n eu => ext b u n eu
    obtain ⟨bm, ob, m1, m2, m3, m4, m5, m6, m7, m8⟩ := B.bm
    have g3 : h3.Ns mainGlobals X.mg := ns_at nsG fun u hu => old _ u gT hu
    refine wpAny_builtinsFor (m := X.mg) (by rw [I2.ok.glob]; exact g3) m1 m2 (old _ _ m4 (I2.bk _ _ m5)) m6 m7 m8 ?_
    have I3 : Inv X pins σ (upd H2 T (.tbl (ps ++ more))) { s2 with heap := h3, toks := tk } := inv_tab (more := more) (h' := h3) (g' := s2.gens) (d' := s2.drawn) (t' := tk) I2 hT old hT3 I2.bare
    generalize e3 : ({ s2 with heap := h3, toks := tk } : Shared) = s3 at I3 ⊢
    have hp3 : s3.heap = h3 := by rw [← e3]
    have tb : Tabbed T H2 (upd H2 T (.tbl (ps ++ more))) := ⟨⟨ps ++ more, upd_same, tr3⟩, fun b n => upd_ne n⟩
    obtain ⟨W, ⟨m0, w0⟩, turn⟩ := hw _ tb
    generalize eH : upd H2 T (.tbl (ps ++ more)) = H3 at I3 tb w0
    have nT : ∀ b ∈ fp, b ≠ T := fun b hb z => by
      have := (f2 b hb).1
      rw [z, hT] at this
      cases this
    have f3 : ∀ b ∈ fp, FpOk X pins H3 b ∧ b < s3.heap.objs.size := fun b hb => by
      obtain ⟨o, eo, _⟩ := Tn.obj _ _ st2 b hb
      refine ⟨⟨?_, (f2 b hb).2⟩, by rw [hp3]; exact Nat.lt_of_lt_of_le (Heap.lt_size eo) hz⟩
      rw [← eH, upd_ne (nT b hb)]
      exact (f2 b hb).1
    have st3 : tn 0 s3.heap := Tn.keep _ _ _ st2 fun b hb o e => by rw [hp3]; exact old b o (nT b hb) e
    intro h' hn' hs'
    have hsz : h'.objs.size = s3.heap.objs.size + 1 := by rw [hs'.1, Heap.size_push]
    have keep' : ∀ b o, s3.heap.get? b = some o → h'.get? b = some o := fun b o e => hs'.extBut b o (Nat.ne_of_lt (Heap.lt_size e)) (Heap.get?_push_of_some _ e)
    obtain ⟨go, hgo⟩ : ∃ go : Obj, go = { cls := .type "generator", data := .fields #[.int s3.gens.size 0, .str "<genexpr>" (s3.toks + 1), .str (X.env.qual ++ "<genexpr>") (s3.toks + 1 + 1)] } := ⟨_, rfl⟩
    rw [← hgo]
    have hgen : ∀ h : Heap, h.get? h'.objs.size = some go → h.IsGen h'.objs.size s3.gens.size := fun h e => ⟨_, _, _, e, by rw [hgo], by rw [hgo], by rw [hgo]⟩
    have hpush : (h'.push go).get? h'.objs.size = some go := Heap.get?_push_size _ (by rw [hgo]; rfl)
    refine q _ _ ⟨s3.gens.size, m0 + 1, _, hgen _ hpush, I3.nolimit.keeps fun b o e => Heap.get?_push_of_some _ (keep' b o e), Array.getElem?_push_size .., fun A hA hfr => ?_⟩
    refine ⟨Gx X A s3 H3 (gEnv X sc s3.heap.objs.size cv) fp [(h'.objs.size, go)], fun s6 H6 I6 => ?_, fun s6 H6 I6 => gen_back I3 (fun b hb => (f3 b hb).1) I6, rfl, ?_⟩
    · exact hgen _ (I6.pin (h'.objs.size, go) (List.mem_append_left _ (List.mem_singleton.mpr rfl))).1
    · refine seg_genStartL Tn hcm (fun p hp b hb => ?_) (hpg A s3 H3 s3.heap.objs.size cv fp _) (he A s3 H3 s3.heap.objs.size cv fp _ (hA.deeper _)) ok.co turn (m0 + 1) _ _ m0 H3 (Nat.lt_succ_self _)
        (gen_start I3 ok hN f3 hA.hd hfr hn' keep' (by rw [hsz]; exact Nat.lt_succ_self _) (fun v z => by rw [hgo] at z; cases z) hpush rfl rfl (allBare_setGen (AllBare.push I3.bare rfl) rfl)) ?_ (fun b hb => (f3 b hb).1.1) w0
      · rw [List.mem_singleton.mp hp]
        have := (f3 b hb).2
        exact Nat.ne_of_gt (by show b < h'.objs.size; rw [hsz]; exact Nat.lt_succ_of_lt this)
      · exact Tn.keep _ _ _ st3 fun b hb o e => Heap.get?_push_of_some _ (keep' b o e)
  cases hf : codeAmong gp ps.toList with
  | some cv =>
    refine wpAny_genexprCode_hit hc (cd.code oT tr) hf ?_
    exact rest cv s2.heap s2.toks #[] (Heap.ExtBut.refl _ _) (Nat.le_refl _) (by rw [oT]; simp) (by simpa using tr)
  | none =>
    refine wpAny_genexprCodeX hc (cd.code oT tr) (cd.tab oT) hf ?_
    intro c' h' tk ext ge lt isC _ htab _
    obtain ⟨o1, vs, f1, tf, fl, tg', inF, tx, tt, op, _, _, _, _, _, _, _, _, _, tr3, _⟩ := isC
    exact rest _ h' tk _ ext (Nat.le_trans ge (Nat.le_of_lt lt)) htab.2 tr3
/-- all(f(x) for x in xs), the elements bools that calls may give -/
theorem pe_allL {c T : Addr} {e iter tg : Expr} {p pos gp : Pos} {sc : Scope} {own : List (Str × Nat)} {wi : TI} {g : TG} {te : TE} {k : Nat}
    (hr : Room (k + 2) X.A) (hcm : X.calm = true) (hN : X.N.Nodup) (hg : Gl X "all") (hm : X.mg "all" = none) (B : TabB X.base X.mg c T) (hc : X.env.code = .ref c) (ok : GBlk X.N X.env.scope sc own) (hi : PI X tg iter wi)
    (hpg : ∀ A s H C code fp pn, PG (Gx X A s H (gEnv X sc C code) fp pn) tg g) (he : ∀ A s H C code fp pn, Room k (A.deeper (gEnv X sc C code)) → PE (Gx X A s H (gEnv X sc C code) fp pn) e te)
    (hs : ∀ v, genFold iter X.env v = pure v := by intro _; rfl)
    (ha : starEach [.GeneratorExp e [⟨tg, iter, [], 0⟩] sc gp] X.env = (false, eval (.GeneratorExp e [⟨tg, iter, [], 0⟩] sc gp) X.env) :: starEach [] X.env := by rfl) :
    PE X (.Call (.Name "all" p) [.GeneratorExp e [⟨tg, iter, [], 0⟩] sc gp] [] pos) (tAllL T wi g te (own.map (·.2))) := by
  constructor
  intro pins s σ H Q I h
  refine wpAny_Call_Name_kw (ld_blt I hg hm (u := .builtin "all") (by decide +kernel) ?_)
  refine PyProof.Rows.callWith_builtin1 ?_ ha (by rfl)
  rw [ha]
  show wpAny _ _ (spliced ((false, eval (.GeneratorExp e [⟨tg, iter, [], 0⟩] sc gp) X.env) :: backTo pos (starEach [] X.env))) _ _ s
  refine Calls.spliced_cons (gen_makeL (hr.mono (Nat.le_succ _)) hcm hN B hc ok hi hpg he hs I h fun a s5 hR => ?_)
  obtain ⟨gn, n, gs, hgen, hl, hgs, wake⟩ := hR
  refine Calls.spliced_nil ?_
  refine call_function_tree F.kind_all F.plain_all F.entry_all (F.args_all1 _) ?_
  unfold Builtin.«all»
  refine wpAny_bind (m := oneArg "all" _) (wpAny_pure ?_)
  refine wpAny_bind (wpAny_pyIter_gen hgen ?_)
  obtain ⟨Y, y1, y2, y3⟩ := wake X.A.in1.in1 ⟨hr.hd, by have := hr.dp; show X.A.depth + 3 * (k + 1) + 5 < _; omega, by have := hr.un; show X.A.units + 1 + 1 + 16 * (k + 1) + 200 < _; omega⟩ I.ok.frames
  exact wpAny_pure ⟨plainId_quiet F.plain_all_loop _, all_loopL hr.hd hr.depth y1 (fun b H1 s' I1 q => ⟨.bl b, H1, y2 _ _ I1, rfl, q⟩) n s5 hgen hl ⟨gs, hgs, y3⟩⟩
end
/-- over a list that the elements leave as it is -/
theorem wl_list {K : PySem.W.Frag} {a : Addr} {xs : List V} {g : TG} {te : TE} {vs : List Nat} {σ : L2.St} {H2 : Hp} {Qt : Bool → Hp → Prop} (Pv : Nat → Hp → Prop) (h0 : Pv 0 H2) (hl : ∀ i H, i ≤ xs.length → Pv i H → SqL K H a xs)
    (hs : ∀ i x H, xs[i]? = some x → Pv i H → g x (wipe σ vs) H fun σ2 H3 => wipe σ2 vs = wipe σ vs ∧ te σ2 H3 fun y H4 => ∃ b, y = .bl b ∧ if b = true then Pv (i + 1) H4 else Qt false H4) (hd : ∀ H, Pv xs.length H → Qt true H) :
    ∃ W : Nat → Nat → Hp → Prop, (∃ m, W 0 m H2) ∧ WalkL (Itl K a) g te vs σ Qt W := by
  refine ⟨fun i m H => m = xs.length - i ∧ i ≤ xs.length ∧ Pv i H, ⟨xs.length, by simp, Nat.zero_le _, h0⟩, ?_⟩
  rintro i m H ⟨rfl, hi, p⟩
  have q := hl i H hi p
  by_cases hlt : i < xs.length
  · refine .inr ⟨⟨xs, xs[i], q, by simp [hlt]⟩, Pv (i + 1), fun H' p' => ⟨xs.length - (i + 1), by omega, rfl, hlt, p'⟩, fun x H' y => ?_⟩
    obtain ⟨e, y⟩ := y
    subst e
    exact hs i x _ (y xs q) p
  · have e : i = xs.length := by omega
    subst e
    exact .inl ⟨⟨xs, q, Nat.le_refl _⟩, hd H p⟩
end LW
namespace LW
open PySem PySem.Spec PyProof.Rows L2 GxR
variable {X : Cx}
/-- sorted(a dict of texts), of any number of keys -/
def rSortedDL : List V → Hp → VK → Prop := fun vs H Q => ∃ (a : Addr) (kvs : List (Key × V)) (ts : List Str), vs = [V.ref a] ∧ H a = some (.dK kvs) ∧ kvs.map (·.1) = ts.map Sum.inr ∧
  ∀ (ys : List Str) (p : Addr), ys.Perm ts → sortedS ys = true → H p = none → Q (.ref p) (L2.upd H p (.lst (ys.map V.str)))
theorem cr_sortedDL (cm : X.calm = true) : CallR X (.builtin "sorted") rSortedDL := by
  intro pins s σ H vs us Q I r h
  obtain ⟨a, kvs, ts, rfl, ha, ek, q⟩ := h
  rw [Vals.ref1 r]
  obtain ⟨kz, lo, ws, rl, dct⟩ := dk_rd I.hok (.inl ha)
  obtain ⟨ep, da⟩ := dct.dictAt
  have wk : ws.map (·.1) = ts.map Sum.inr := rl.keys.symm.trans ek
  have wl : ws.length = ts.length := by simpa using congrArg List.length wk
  have kl : kvs.length = ts.length := by simpa using congrArg List.length ek
  have small : ts.length ≤ sizeLine := by rw [← kl]; exact kz
  refine Calls.call_function_entry kind_sorted plain_sorted entry_sorted (args_sorted1 _) ?_
  unfold Builtin.«sorted»
  refine wpAny_bind (m := checkCount "sorted" 1 1 _) (wpAny_pure (wpAny_bind (PySem.W.kdu_collect (A := X.A.in1) (PySem.W.kdl_dict (knd := mixKind X.prog X.w) (kvs := ws) (ep := ep) lo) (I.ok.hd cm) da (by rw [wl]; exact small) fun g tk out kp it => ?_)))
  have ol : out.toList.length = ts.length := by rw [Array.length_toList, it.1, wl]
  have sa : StrsAre out.toList ts := strs_at ol fun j v e => by
    obtain ⟨k, x, b1, b2⟩ := it.2 j v (by rw [← Array.getElem?_toList]; exact e)
    have b3 : (ws.map (·.1))[j]? = some k := by rw [List.getElem?_map, b1]; rfl
    rw [wk, List.getElem?_map] at b3
    cases c : ts[j]? with
    | none => rw [c] at b3; cases b3
    | some y =>
      rw [c] at b3
      cases b3
      obtain ⟨t, ev⟩ := Value.isStrOf_shape (x := y) (v := v) b2
      exact ⟨y, t, rfl, ev⟩
  have I2 : Inv X pins σ H { s with heap := g, toks := tk } := I.kept kp
  refine wpAny_bind (wpAny_newList ?_ (by rw [ol]; exact small))
  have ob : (g.push (seqObj "list" out.toList.toArray 0)).get? g.objs.size = some (seqObj "list" out.toList.toArray 0) := Heap.get?_push_size _ rfl
  show wpAny _ _ _ _ _ { s with heap := g.push (seqObj "list" out.toList.toArray 0), toks := tk }
  refine wpAny_bind (wpAny_holding (wpAny_call_entry slot_list_sort ⟨_, ob, rfl⟩ entry_list_sort
    (list_sort_treeKAny strKind_oneLt (s := { s with heap := g.push (seqObj "list" out.toList.toArray 0), toks := tk }) ob sa.keysOf (fun v1 v2 rest e => keyKind_strs (by rw [← e]; exact sa)) (by rw [ol]; exact small) fun st p1 p2 => ⟨_, rfl, ?_⟩) (args_list_sort _)))
  obtain ⟨ys, y1, y2, y3⟩ := sorted_out_str sa p1 p2
  obtain ⟨c, hc⟩ := sortedHeap_at (vs := out.toList) (out := (arrOf st).map (·.2)) ob
  refine wpAny_pure ⟨_, rfl, .ref g.objs.size, L2.upd H g.objs.size (.lst (ys.map V.str)), I2.laid (t' := tk) (fun b u e => ?_) (Nat.le_refl _)
    (show ObjOk X.prog X.w _ _ _ (.lst (ys.map V.str)) from ⟨by rw [List.length_map, y2.length_eq]; exact small, ((arrOf st).map (·.2)).toList, c, vals_of_strs y1, by rw [Array.toArray_toList]; exact hc⟩), rfl, q ys _ y2 y3 (I2.hok.fresh (Nat.le_refl _))⟩
  have lt : b < g.objs.size := Heap.lt_size e
  rw [sortedHeap_old (Nat.ne_of_lt lt) (by rw [size_push']; exact Nat.lt_succ_of_lt lt)]
  exact Heap.get?_push_of_some _ e
end LW
namespace LW
open PySem PySem.Spec PyProof.Rows L2 GxR
/-! ### list(text) -/
def signs (z : Str) : List V := z.cps.toList.map fun c => V.str ⟨#[c]⟩
theorem signs_of {z : Str} {acc : Array Value} (h : ItemsOf (SignAt z) acc z.cps.size) : Vals (signs z) acc.toList := by
  have key : ∀ (cs : List Nat) (vs : List Value), cs.length = vs.length → (∀ (j : Nat) (v : Value), vs[j]? = some v → ∃ c u, cs[j]? = some c ∧ v = .str ⟨#[c]⟩ u) → Vals (cs.map fun c => V.str ⟨#[c]⟩) vs := by
    intro cs
    induction cs with
    | nil =>
      intro vs hl _
      cases vs with
      | nil => exact .nil
      | cons v r => cases hl
    | cons c cs ih =>
      intro vs hl hv
      cases vs with
      | nil => cases hl
      | cons v r =>
        obtain ⟨c', u, e1, e2⟩ := hv 0 v rfl
        cases e1
        exact .cons ⟨u, e2⟩ (ih r (by simpa using hl) fun j w hj => hv (j + 1) w hj)
  refine key z.cps.toList acc.toList ?_ fun j v hj => ?_
  · rw [Array.length_toList, Array.length_toList]; exact h.1.symm
  · obtain ⟨c, u, e1, e2⟩ := h.2 j v (by rw [← Array.getElem?_toList]; exact hj)
    exact ⟨c, u, by rw [Array.getElem?_toList]; exact e1, e2⟩
theorem call_listS {X : Cx} (hc : X.calm = true) : CallR X (.type "list") (fun xs H Q => ∃ z, xs = [.str z] ∧ z.length ≤ sizeLine ∧ ∀ l, H l = none → Q (.ref l) (L2.upd H l (.lst (signs z)))) := by
  intro pins s σ H xs us Q I r h
  obtain ⟨z, rfl, hz, q⟩ := h
  obtain ⟨u, rfl, rx⟩ := vals1 r
  obtain ⟨t, rfl⟩ := rx
  refine call_list_str (I.ok.hd hc) z t (fun h' tk acc' c' kp hS hit => ?_) (hn := hz)
  have hlen : (signs z).length ≤ sizeLine := by
    unfold signs
    rw [List.length_map, Array.length_toList]
    exact hz
  exact ⟨.ref s.heap.objs.size, _, I.laid (t' := tk) kp (Nat.le_refl _) (show ObjOk X.prog X.w _ h' _ (.lst (signs z)) from ⟨hlen, acc'.toList, c', signs_of hit, hS⟩), rfl, q _ (I.hok.fresh (Nat.le_refl _))⟩
end LW
namespace LW
open PySem PySem.Spec PyProof.Rows L2 GxR
def topS (i : Nat) : Stmt := PySem.Challenge.pw_layerwharf_k06_registry_answers.main.body.getD i (.Pass ⟨0, 0, 0, 0⟩)
def kinds : List Str := ["layer", "image", "bundle"]
/-! ### what the top holds -/
structure Tx (K : PySem.W.Frag) (mg : Str → Option Value) (cM cR cU : Addr) : Prop where
  len : mg "len" = none
  int : mg "int" = none
  abs : mg "abs" = none
  all : mg "all" = none
  range : mg "range" = none
  isi : mg "isinstance" = none
  str : mg "str" = none
  bool : mg "bool" = none
  list : mg "list" = none
  enum : mg "enumerate" = none
  sup : mg "super" = none
  val : mg "ValueError" = none
  MAL : mg "Malformed" = some (.ref cM)
  REF : mg "Refused" = some (.ref cR)
  STO : mg "Store" = some (.ref cU)
  sC : Cls K cU
  nB : NoAttr K cU "_blobs"
  ord : mg "ord" = none
  rep : mg "repr" = none
  sor : mg "sorted" = none
  KINDS : ∃ kd, mg "KINDS" = some (.ref kd) ∧ ∃ (o : Obj) (its : Array Value) (n : Nat), K.lookup kd = some o ∧ o.cls = .type "tuple" ∧ o.dict = none ∧ o.data = .seq its n ∧ its.size ≤ sizeLine ∧ Vals (kinds.map V.str) its.toList
  FACTOR : ∃ t, mg "_FACTOR" = some (.int 257 t)
  MODULUS : ∃ t, mg "_MODULUS" = some (.int 2305843009213693951 t)
  DIGITS : ∃ t, mg "_DIGITS" = some (.str "0123456789abcdef" t)
  LENGTH : ∃ t, mg "_LENGTH" = some (.int 16 t)
  IMAGE : ∃ t, mg "_IMAGE" = some (.str "image" t)
  BUNDLE : ∃ t, mg "_BUNDLE" = some (.str "bundle" t)
  MOST : ∃ t, mg "_MOST_LINES" = some (.int 50 t)
  LETTERS : ∃ t, mg "_LETTERS" = some (.str "abcdefghijklmnopqrstuvwxyz" t)
  LONGEST : ∃ t, mg "_LONGEST_PLATFORM" = some (.int 10 t)
abbrev s_is_address : Stmt := topS 8
abbrev N_is_address : List Str := ["text"]
abbrev P_is_address : List Str := ["text"]
theorem sc_is_address : FnScope N_is_address P_is_address (defScope s_is_address) := ⟨rfl, rfl, rfl, by decide +kernel, rfl, by decide +kernel, by decide +kernel⟩
abbrev s_is_platform : Stmt := topS 30
abbrev N_is_platform : List Str := ["text"]
abbrev P_is_platform : List Str := ["text"]
theorem sc_is_platform : FnScope N_is_platform P_is_platform (defScope s_is_platform) := ⟨rfl, rfl, rfl, by decide +kernel, rfl, by decide +kernel, by decide +kernel⟩
/-- yes or no; the def's table of code may have grown -/
def spYes (p : Str → Bool) (B : Addr) : Sp := fun vs H Q _ => ∃ t : Str, vs = [.str t] ∧ t.length ≤ sizeLine ∧ TabG H B ∧ ∀ H', Gr H H' → Q (.bl (p t)) H'
abbrev s_init : Stmt := inClass (topS 16) 0
abbrev N_init : List Str := ["self", "line"]
abbrev P_init : List Str := ["self", "line"]
theorem sc_init : SupScope N_init P_init (defScope s_init) := ⟨rfl, rfl, rfl, by decide +kernel, rfl, by decide +kernel, by decide +kernel, by decide +kernel⟩
/-- Malformed.__init__: the exception at a has its line -/
def spInit (C : Addr) : Sp := fun vs H Q _ => ∃ (a : Addr) (n : Nat), vs = [.ref a, .int (n : Int)] ∧ n < 1000000 ∧ H a = some (exo a C none) ∧
  ∀ dx, H dx = none → dx ≠ a → Q .non (upd (upd H dx (exd dx [(("line" : Str), .int (n : Int))])) a (exo a C (some dx)))
section
variable {P : Program} {w : World} {K : PySem.W.Frag} {mg : Str → Option Value} {base : Heap} {cM cR cU : Addr}
theorem len_eq16 (t : Str) : decide (V.int (t.length : Nat) = V.int 16) = decide (t.length = 16) := by
  apply decide_eq_decide.mpr
  constructor
  · intro h; injection h with h; omega
  · intro h; rw [h]; rfl
theorem ok_is_address {f c B : Addr} {fd : FuncData} (F : FunC K "is_address" "is_address" s_is_address f fd c) (T : Tx K mg cM cR cU) (TB : TabB base mg c B) : FnOk P w K mg base CX0 1 f fd P_is_address (spYes isAddr B) := by
  refine F.ok sc_is_address (fun vs H Q E h => ?_) (fun A outer s H vs Q E hr h => ?_)
  · obtain ⟨t, rfl, _⟩ := h
    rfl
  · obtain ⟨t, rfl, hl, hB, q⟩ := h
    obtain ⟨tl, cL⟩ := T.LENGTH
    obtain ⟨td, cD⟩ := T.DIGITS
    refine ⟨_, pss_one (ps_ret (pe_and (pe_cmpR op_eq (pe_callB call_len_str (by rfl) T.len (by decide +kernel) (pa_cons (pv 0) pa_nil)) (pe_glob (v := .int 16) (by rfl) cL ⟨_, rfl⟩) (nomark _))
      (pe_one (pe_allG hr (by rfl) T.all TB rfl ⟨rfl, rfl, by decide +kernel, rfl, rfl, no_free (by decide +kernel)⟩ (pv 0) (elt_inG rfl rfl rfl cD))))), ?_⟩
    refine ⟨_, rfl, t, rfl, hl, rfl, _, rfl, ?_⟩
    rw [len_eq16]
    cases e2 : decide (t.length = 16) with
    | false =>
      rw [if_neg Bool.false_ne_true]
      have := q H (Gr.refl H)
      unfold isAddr at this
      rw [e2] at this
      exact this
    | true =>
      rw [if_pos rfl]
      refine ⟨_, rfl, t, rfl, hB, fun H2 hT => ?_⟩
      have := q H2 (Gr.of_tab hB hT)
      unfold isAddr at this
      rw [e2, Bool.true_and] at this
      rw [digits_eq]
      exact this
theorem ok_is_platform {f c B : Addr} {fd : FuncData} (F : FunC K "_is_platform" "_is_platform" s_is_platform f fd c) (T : Tx K mg cM cR cU) (TB : TabB base mg c B) : FnOk P w K mg base CX0 1 f fd P_is_platform (spYes isPlat B) := by
  refine F.ok sc_is_platform (fun vs H Q E h => ?_) (fun A outer s H vs Q E hr h => ?_)
  · obtain ⟨t, rfl, _⟩ := h
    rfl
  · obtain ⟨t, rfl, hl, hB, q⟩ := h
    obtain ⟨tl, cL⟩ := T.LONGEST
    obtain ⟨td, cD⟩ := T.LETTERS
    refine ⟨_, pss_one (ps_ret (pe_and (pe_chain op_le op_le pe_int (pe_callB call_len_str (by rfl) T.len (by decide +kernel) (pa_cons (pv 0) pa_nil)) (pe_glob (v := .int 10) (by rfl) cL ⟨_, rfl⟩))
      (pe_one (pe_allG hr (by rfl) T.all TB rfl ⟨rfl, rfl, by decide +kernel, rfl, rfl, no_free (by decide +kernel)⟩ (pv 0) (elt_inG rfl rfl rfl cD))))), ?_⟩
    refine ⟨_, rfl, t, rfl, hl, _, _, rfl, rfl, _, rfl, ?_⟩
    have d1 : decide ((1 : Int) ≤ ((t.length : Nat) : Int)) = decide (1 ≤ t.length) := decide_eq_decide.mpr (by omega)
    have d2 : decide (((t.length : Nat) : Int) ≤ 10) = decide (t.length ≤ 10) := decide_eq_decide.mpr (by omega)
    rw [d1]
    cases e1 : decide (1 ≤ t.length) with
    | false =>
      rw [if_neg Bool.false_ne_true]
      refine ⟨_, rfl, ?_⟩
      rw [if_neg Bool.false_ne_true]
      have := q H (Gr.refl H)
      unfold isPlat at this
      rw [e1] at this
      exact this
    | true =>
      rw [if_pos rfl]
      refine ⟨_, _, rfl, rfl, _, rfl, ?_⟩
      rw [d2]
      cases e2 : decide (t.length ≤ 10) with
      | false =>
        rw [if_neg Bool.false_ne_true]
        have := q H (Gr.refl H)
        unfold isPlat at this
        rw [e1, e2] at this
        exact this
      | true =>
        rw [if_pos rfl]
        refine ⟨_, rfl, t, rfl, hB, fun H2 hT => ?_⟩
        have := q H2 (Gr.of_tab hB hT)
        unfold isPlat at this
        rw [e1, e2, Bool.and_self, Bool.true_and] at this
        rw [letters_eq]
        exact this
/-- Malformed.__init__ as it stands -/
structure InitAt (P : Program) (K : PySem.W.Frag) (C f cc cda : Addr) (fd : FuncData) : Prop where
  S : SupAt P K C cc cda
  ex : ∃ (oc : Value) (od : Option Addr) (kV doc pm : Value) (an : Option Addr) (ct : Value) (osl : Array (Option Value)),
    fd = PySem.W.ksFn "__init__" "Malformed.__init__" (defArgs s_init) (defBody s_init) (defScope s_init) .none kV doc pm an (.ref cda) ct cc ∧ K.lookup f = some ⟨oc, od, .func fd, osl⟩ ∧ PySem.W.codeIn K (.ref cda) "Malformed.__init__" = true
  noL : PySem.W.findIn K (.ref C) "line" = some none
theorem ok_init {f cc cda : Addr} {fd : FuncData} (F : InitAt P K cM f cc cda fd) (T : Tx K mg cM cR cU) : FnOk P w K mg base CX0 1 f fd P_init (spInit cM) := by
  obtain ⟨oc, od, kV, doc, pm, an, ct, osl, e, lk, hcd⟩ := F.ex
  subst e
  obtain ⟨cl, cld, csl, hcell⟩ := F.S.cell
  refine fn_sup lk hcd hcell rfl sc_init (fun vs H Q E h => ?_) (fun A outer s H vs Q E s1 hr h I => ?_)
  · obtain ⟨a, n, rfl, _⟩ := h
    rfl
  · obtain ⟨a, n, rfl, hn, ha, q⟩ := h
    refine sup_init (i := 0) (R := fun H1 => H1 = H) F.S I T.sup lk rfl rfl rfl rfl rfl rfl rfl rfl rfl rfl ha (pa_cons (pe_joined (PJ.cons pe_str (PJ.cons (pe_fmt (pv 1)) (PJ.cons pe_str PJ.nil)))) pa_nil) ?_ ?_ rfl
    · have hlog : ((n : Int).natAbs).log2 < 1920 := by
        rw [Int.natAbs_natCast]
        rcases Nat.eq_zero_or_pos n with h0 | h0
        · rw [h0]; decide
        · rw [Nat.log2_lt (by omega)]
          exact Nat.lt_of_lt_of_le hn (Nat.le_trans (show (1000000 : Nat) ≤ 2 ^ 20 by decide) (Nat.pow_le_pow_right (by decide) (by decide)))
      have hnl : (toString (n : Int) : Str).length ≤ 6 := by
        rw [TL.len_tl, TL.tl_num]
        exact TL.numL_len (by decide) hn
      have l1 : ∀ x y : Str, (x ++ y).length = x.length + y.length := fun x y => by rw [TL.len_tl, TL.len_tl, TL.len_tl, TL.tl_append, List.length_append]
      refine ⟨_, rfl, by decide +kernel, _, rfl, .inr ⟨_, rfl, hlog, _, rfl, ?_, _, rfl, ?_, ?_⟩⟩
      · rw [l1, l1]
        have e : (Str.empty : Str).length + (Str.ofString "line ").length = 5 := by decide +kernel
        rw [sizeLine_eq]
        omega
      · rw [l1, l1, l1]
        have e : (Str.empty : Str).length + (Str.ofString "line ").length = 5 := by decide +kernel
        have e2 : (Str.ofString " is malformed").length = 13 := by decide +kernel
        rw [sizeLine_eq]
        omega
      · exact ⟨by show 1 ≤ 1000; decide, ha, rfl⟩
    · rintro H1 s2 I2 rfl ha1
      refine (pss_one (ps_ost (pv 0) (pv 1))).run [] s2 _ _ _ I2 ?_
      exact ⟨_, rfl, _, rfl, a, cM, rfl, F.S.T, F.noL, .inl ⟨ha1, fun dx n1 n2 => q dx n1 n2⟩⟩
end
end LW
namespace LW
open PySem PySem.Spec PyProof.Rows L2
/-- a comprehension over pairs, whose parts make nothing -/
theorem lc_pair {J : It} {n : Nat} {G : Hp → Prop} {Y : Nat → Hp → V → Hp → Prop} {K : PySem.W.Frag} (w : Walk J n G Y) {j1 j2 : Nat} {te : TE} {vs : List Nat} {σ : L2.St} {H1 : Hp} {D : Addr} {Qd : Hp → Prop} (f : Nat → V)
    (hn : n < 16000000) (hG : ∀ H, But D H1 H → G H) (hw : ∀ x y, wipe (((wipe σ vs).set j1 (some x)).set j2 (some y)) vs = wipe σ vs)
    (hs : ∀ i x H H', i < n → But D H1 H → Y i H x H' → ∃ t u v, x = .ref t ∧ H' = H ∧ SqT K H t [u, v] ∧ ∀ Q : VK, Q (f i) H → te (((wipe σ vs).set j1 (some u)).set j2 (some v)) H Q)
    (hd : Qd (upd H1 D (.lst ((List.range n).map f)))) :
    ∃ W : Nat → Nat → Hp → Prop, (∃ m, W 0 m (upd H1 D (.lst []))) ∧ ∀ i m H, W i m H →
      (J.stop i H ∧ Qd H) ∨ (J.go i H ∧ ∃ Nx : Hp → Prop, (∀ H', Nx H' → ∃ m', m' < m ∧ W (i + 1) m' H') ∧ ∀ x H', J.yld i H x H' → gTup K 2 (gCons (gName j1) (gCons (gName j2) gNil)) x (wipe σ vs) H' fun σ2 H2 => wipe σ2 vs = wipe σ vs ∧ tYes σ2 H2 fun b H3 =>
        if b = true then te σ2 H3 fun y H4 => ∃ acc, H4 D = some (.lst acc) ∧ acc.length < sizeLine ∧ Nx (upd H4 D (.lst (acc ++ [y]))) else Nx H3) := by
  refine lc_it w (fun i H => H = upd H1 D (.lst ((List.range i).map f))) rfl (fun i H _ e => hG H (by rw [e]; exact But.upd)) ?_ (fun H e => by rw [e]; exact hd)
  rintro i x H H' hi e hy
  have b1 : But D H1 H := by rw [e]; exact But.upd
  obtain ⟨t, u, v, rfl, e2, hT, he⟩ := hs i x H H' hi b1 hy
  subst e2
  have hD : H' D = some (.lst ((List.range i).map f)) := by rw [e, upd_same]
  refine ⟨t, [u, v], rfl, hT, rfl, u, [v], rfl, v, [], rfl, rfl, hw u v, tyes (he _ ⟨_, hD, ?_, ?_⟩)⟩
  · rw [List.length_map, List.length_range]
    exact Nat.lt_trans hi (Nat.lt_trans hn (by decide))
  · rw [List.range_succ, List.map_append, e, upd_upd]
    rfl
end LW
namespace LW
open PySem PySem.Spec PyProof.Rows L2 GxR
/-- what raise Malformed(n) asks -/
theorem mal_end {C : Addr} {H1 : Hp} {n : Nat} {Q : XK} (hn : n < 1000000) (q : ∀ d H', H1 d = none → Same H1 H' → H' d = some (.xd [(("line" : Str), .int (n : Int))]) → Q (.ref C) (some d) H') :
    [V.int (n : Int)].length ≤ 1000 ∧ ∀ a, H1 a = none → spInit C (.ref a :: ([V.int (n : Int)] ++ [])) (upd H1 a (exo a C none))
      (fun v H2 => v = .non ∧ ∃ (d : Addr) (fs : List (Str × V)), H2 a = some (exo a C (some d)) ∧ H2 d = some (exd d fs) ∧ H1 d = none ∧ Q (.ref C) (some d) (upd (del H2 a) d (.xd fs))) (fun _ _ _ => False) := by
  refine ⟨by show 1 ≤ 1000; decide, fun a na => ⟨a, n, rfl, hn, upd_same, fun dx n1 n2 => ⟨rfl, dx, [(("line" : Str), .int (n : Int))], upd_same, ?_, ?_, ?_⟩⟩⟩
  · rw [upd_ne n2, upd_same]
  · rw [← n1, upd_ne n2]
  · have nd : H1 dx = none := by rw [← n1, upd_ne n2]
    refine q dx _ nd (fun b o e => ?_) upd_same
    rw [upd_ne (ne_of_none e nd), del_ne (ne_of_none e na), upd_ne (ne_of_none e na), upd_ne (ne_of_none e nd), upd_ne (ne_of_none e na)]
    exact e
abbrev s_text_of : Stmt := topS 28
abbrev N_text_of : List Str := ["word", "lines", "line"]
abbrev P_text_of : List Str := ["word", "lines"]
theorem sc_text_of : FnScope N_text_of P_text_of (defScope s_text_of) := ⟨rfl, rfl, rfl, by decide +kernel, rfl, by decide +kernel, by decide +kernel⟩
def spTextOf (K : PySem.W.Frag) : Sp := fun vs H Q _ => ∃ (w0 : Str) (l : Addr) (ls : List Str), vs = [.str w0, .ref l] ∧ SqL K H l (ls.map V.str) ∧ ls.length ≤ 100 ∧ (∀ x ∈ w0 :: ls, x.length ≤ 1000) ∧ ∀ H', Same H H' → Q (.str (textOf (w0 :: ls))) H'
abbrev s_image_text : Stmt := topS 23
abbrev N_image_text : List Str := ["layers"]
abbrev P_image_text : List Str := ["layers"]
theorem sc_image_text : FnScope N_image_text P_image_text (defScope s_image_text) := ⟨rfl, rfl, rfl, by decide +kernel, rfl, by decide +kernel, by decide +kernel⟩
def spImage (K : PySem.W.Frag) : Sp := fun vs H Q _ => ∃ (l : Addr) (ls : List Str), vs = [.ref l] ∧ SqL K H l (ls.map V.str) ∧ ls.length ≤ 100 ∧ (∀ x ∈ ls, x.length ≤ 1000) ∧ ∀ H', Same H H' → Q (.str (textOf (word false :: ls))) H'
abbrev s_bundle_text : Stmt := topS 24
abbrev N_bundle_text : List Str := ["entries", "platform", "address"]
abbrev P_bundle_text : List Str := ["entries"]
theorem sc_bundle_text : FnScope N_bundle_text P_bundle_text (defScope s_bundle_text) := ⟨rfl, rfl, rfl, by decide +kernel, rfl, by decide +kernel, by decide +kernel⟩
/-- a list of pairs -/
def Prs (K : PySem.W.Frag) (H : Hp) (ts : List V) (es : List (Str × Str)) : Prop := Paired (fun (v : V) (p : Str × Str) => ∃ t, v = .ref t ∧ H t = some (.tup [.str p.1, .str p.2])) ts es
theorem Prs.mono {K : PySem.W.Frag} {H H' : Hp} {ts : List V} {es : List (Str × Str)} (h : Prs K H ts es) (g : Gr H H') : Prs K H' ts es := by
  induction h with
  | nil => exact .nil
  | cons r _ ih =>
    obtain ⟨t, e, ht⟩ := r
    exact .cons ⟨t, e, g.tup ht⟩ ih
def spBundle (K : PySem.W.Frag) : Sp := fun vs H Q _ => ∃ (l : Addr) (ts : List V) (es : List (Str × Str)), vs = [.ref l] ∧ SqL K H l ts ∧ Prs K H ts es ∧ es.length ≤ 100 ∧ (∀ x ∈ es, x.1.length ≤ 100 ∧ x.2.length ≤ 100) ∧ ∀ H', Same H H' → Q (.str (textOf (word true :: es.map ent))) H'
theorem tl_one (x : Str) : Str.empty ++ x = x := by
  apply TL.ext_tl
  rw [TL.tl_append]
  rfl
theorem app_len (x y : Str) : (x ++ y).length = x.length + y.length := by rw [TL.len_tl, TL.len_tl, TL.len_tl, TL.tl_append, List.length_append]
section
variable {P : Program} {w : World} {K : PySem.W.Frag} {mg : Str → Option Value} {base : Heap} {cM cR cU : Addr}
theorem ok_text_of {f : Addr} {fd : FuncData} (F : Fun K "_text_of" "_text_of" s_text_of f fd) : FnOk P w K mg base CX0 1 f fd P_text_of (spTextOf K) := by
  refine F.ok sc_text_of (fun vs H Q E h => ?_) (fun cdv A outer s H vs Q E hr h => ?_)
  · obtain ⟨w0, l, ls, rfl, _⟩ := h
    rfl
  · obtain ⟨w0, l, ls, rfl, hS, hl, hw, q⟩ := h
    have nd := sc_text_of.nd
    refine ⟨_, pss_one (ps_ret (pe_join pe_str (pe_lc (own := [("line", 2)]) (g := gName 2) (tt := tYes) rfl nd (pi_list (pe_lst (pa_cons (pv 0) (StX.pa_star (pv 1) pa_nil)))) (blkOk_by (N := N_text_of) (sc := defScope s_text_of) (by decide +kernel)) (fun _ _ _ _ _ => (pg_name (i := 2) nd rfl (Or.inl rfl))) (fun _ _ _ _ _ => pts_nil) (fun _ _ _ _ _ => (pe_joined (PJ.cons (pe_fmt (pv 2)) (PJ.cons pe_str PJ.nil))))))), ?_⟩
    have es : V.str w0 :: (ls.map V.str ++ []) = (w0 :: ls).map V.str := by rw [List.append_nil]; rfl
    refine ⟨⟨_, rfl⟩, .str w0, rfl, .ref l, rfl, l, _, rfl, .inr hS, ?_⟩
    refine ⟨?_, fun p np => ?_⟩
    · show (V.str w0 :: (ls.map V.str ++ [])).length ≤ sizeLine
      rw [es, List.length_map, List.length_cons, sizeLine_eq]; omega
    have sm1 : Same H (upd H p (.lst (V.str w0 :: (ls.map V.str ++ [])))) := same_upd np
    refine ⟨p, rfl, ⟨_, SqL.of upd_same⟩, fun D nD => lc_map (walk_list (K := K) (a := p) (xs := V.str w0 :: (ls.map V.str ++ []))) (vs := [2]) (te := fun σ H Q => tJs [tFmt (tVar 2), tC (.str "\n")] Str.empty σ H fun out H1 => Q (.str out) H1) (fun i => .str (lin ((w0 :: ls).getD i ""))) ?_ ?_ (fun _ => rfl) ?_ ?_⟩
    · rw [es, List.length_map, List.length_cons]; omega
    · intro H2 hb
      exact hb.list nD (SqL.of upd_same)
    · rintro i x H2 H3 hi hb ⟨rfl, hx⟩
      rw [es, List.getElem?_map] at hx
      cases e : (w0 :: ls)[i]? with
      | none => rw [e] at hx; cases hx
      | some z =>
        rw [e] at hx
        cases hx
        have e9 : (w0 :: ls).getD i "" = z := by rw [List.getD_eq_getElem?_getD, e]; rfl
        have hz : z.length ≤ 1000 := hw z (List.mem_of_getElem? e)
        refine ⟨rfl, fun Q2 kk => ⟨_, rfl, .inl ⟨z, rfl, by rw [sizeLine_eq]; omega, _, rfl, ?_, _, rfl, ?_, ?_⟩⟩⟩
        · rw [tl_one, sizeLine_eq]; omega
        · rw [app_len, tl_one, sizeLine_eq]
          have : (Str.ofString "\n").length = 1 := by decide +kernel
          omega
        · rw [e9] at kk
          exact kk
    · have et : ((List.range (V.str w0 :: (ls.map V.str ++ [])).length).map fun i => V.str (lin ((w0 :: ls).getD i ""))) = ((w0 :: ls).map lin).map V.str := by
        rw [es, List.length_map, range_map_get (fun z : Str => V.str (lin z)) ("" : Str) (w0 :: ls), List.map_map]
        rfl
      rw [et]
      refine ⟨_, D, (w0 :: ls).map lin, rfl, rfl, .inl (SqL.of upd_same), ?_, ?_⟩
      · have := sum_le (fun l : Str => l.length) 1001 ((w0 :: ls).map lin) fun x hx => by
          obtain ⟨y, hy, rfl⟩ := List.mem_map.mp hx
          rw [lin_len]
          have := hw y hy
          omega
        have z : (Str.ofString "").length = 0 := by decide +kernel
        rw [z, Nat.mul_zero, Nat.add_zero]
        refine Nat.le_trans this ?_
        rw [List.length_map, List.length_cons]
        omega
      · exact q _ (sm1.trans (same_upd nD))
theorem ok_image_text {f fT : Addr} {fd dT : FuncData} (F : Fun K "image_text" "image_text" s_image_text f fd) (T : Tx K mg cM cR cU) (DT : DefAt K mg "_text_of" s_text_of P_text_of fT dT) : FnOk P w K mg base CX0 2 f fd P_image_text (spImage K) := by
  have GT : FnOk P w K mg base CX0 1 fT dT P_text_of (spTextOf K) := ok_text_of DT.fn
  refine F.ok sc_image_text (fun vs H Q E h => ?_) (fun cdv A outer s H vs Q E hr h => ?_)
  · obtain ⟨l, ls, rfl, _⟩ := h
    rfl
  · obtain ⟨l, ls, rfl, hS, hl, hw, q⟩ := h
    obtain ⟨ti, cI⟩ := T.IMAGE
    refine ⟨_, pss_one (ps_ret (pe_call GT hr rfl DT.at_ DT.fn.kp DT.bd .nil pass0 (pa_cons (pe_glob (v := .str "image") (by rfl) cI ⟨_, rfl⟩) (pa_cons (pv 0) pa_nil)))), ?_⟩
    refine ⟨_, rfl, "image", l, ls, rfl, hS, hl, fun x hx => ?_, q⟩
    rcases List.mem_cons.mp hx with h | h
    · rw [h]; decide +kernel
    · exact hw x h
theorem Prs.get {H : Hp} {ts : List V} {es : List (Str × Str)} (h : Prs K H ts es) : ∀ {i : Nat} {v : V}, ts[i]? = some v → ∃ p t, es[i]? = some p ∧ v = .ref t ∧ H t = some (.tup [.str p.1, .str p.2]) := by
  induction h with
  | nil => intro i v h; cases h
  | @cons v0 p0 _ _ r _ ih =>
    intro i v h
    cases i with
    | zero =>
      cases h
      obtain ⟨t, e, ht⟩ := r
      exact ⟨p0, t, rfl, e, ht⟩
    | succ i => exact ih h
theorem Prs.len {H : Hp} {ts : List V} {es : List (Str × Str)} (h : Prs K H ts es) : ts.length = es.length := by
  induction h with
  | nil => rfl
  | cons _ _ ih => simp [ih]
theorem ok_bundle_text {f fT : Addr} {fd dT : FuncData} (F : Fun K "bundle_text" "bundle_text" s_bundle_text f fd) (T : Tx K mg cM cR cU) (DT : DefAt K mg "_text_of" s_text_of P_text_of fT dT) : FnOk P w K mg base CX0 2 f fd P_bundle_text (spBundle K) := by
  have GT : FnOk P w K mg base CX0 1 fT dT P_text_of (spTextOf K) := ok_text_of DT.fn
  refine F.ok sc_bundle_text (fun vs H Q E h => ?_) (fun cdv A outer s H vs Q E hr h => ?_)
  · obtain ⟨l, ts, es, rfl, _⟩ := h
    rfl
  · obtain ⟨l, ts, es, rfl, hS, hP, hl, hw, q⟩ := h
    have nd := sc_bundle_text.nd
    obtain ⟨ti, cI⟩ := T.BUNDLE
    refine ⟨_, pss_one (ps_ret (pe_call GT hr rfl DT.at_ DT.fn.kp DT.bd .nil pass0 (pa_cons (pe_glob (v := .str "bundle") (by rfl) cI ⟨_, rfl⟩) (pa_cons (pe_lc (own := [("platform", 1), ("address", 2)]) (g := gTup K 2 (gCons (gName 1) (gCons (gName 2) gNil))) (tt := tYes) rfl nd (pi_list (pv 0)) (blkOk_by (N := N_bundle_text) (sc := defScope s_bundle_text) (by decide +kernel)) (fun _ _ _ _ _ => (pg_tup rfl (pgs_cons (pg_name (i := 1) nd rfl (Or.inl rfl)) (pgs_cons (pg_name (i := 2) nd rfl (Or.inl rfl)) pgs_nil)))) (fun _ _ _ _ _ => pts_nil) (fun _ _ _ _ _ => (pe_joined (PJ.cons (pe_fmt (pv 1)) (PJ.cons pe_str (PJ.cons (pe_fmt (pv 2)) PJ.nil)))))) pa_nil)))), ?_⟩
    have ln := hP.len
    refine ⟨.ref l, rfl, l, rfl, ⟨_, hS⟩, fun D nD => lc_pair (walk_list (K := K) (a := l) (xs := ts)) (vs := [1, 2]) (te := fun σ H Q => tJs [tFmt (tVar 1), tC (.str " "), tFmt (tVar 2)] Str.empty σ H fun out H1 => Q (.str out) H1) (fun i => .str (ent (es.getD i ("", "")))) ?_ ?_ (fun _ _ => rfl) ?_ ?_⟩
    · omega
    · intro H2 hb
      exact hb.list nD hS
    · rintro i x H2 H3 hi hb ⟨rfl, hx⟩
      obtain ⟨p, t, ep, rfl, ht⟩ := hP.get hx
      have e9 : es.getD i ("", "") = p := by rw [List.getD_eq_getElem?_getD, ep]; rfl
      have hp := hw p (List.mem_of_getElem? ep)
      have z : (Str.ofString " ").length = 1 := by decide +kernel
      refine ⟨t, .str p.1, .str p.2, rfl, rfl, SqT.of ((hb.same nD) _ _ ht), fun Q2 kk => ⟨_, rfl, .inl ⟨p.1, rfl, by rw [sizeLine_eq]; omega, _, rfl, ?_, _, rfl, ?_, _, rfl, .inl ⟨p.2, rfl, by rw [sizeLine_eq]; omega, _, rfl, ?_, ?_⟩⟩⟩⟩
      · rw [tl_one, sizeLine_eq]; omega
      · rw [app_len, tl_one, sizeLine_eq]; omega
      · rw [app_len, app_len, tl_one, sizeLine_eq]; omega
      · rw [e9] at kk
        exact kk
    · have et : ((List.range ts.length).map fun i => V.str (ent (es.getD i ("", "")))) = (es.map ent).map V.str := by
        rw [ln, range_map_get (fun z : Str × Str => V.str (ent z)) (("" : Str), ("" : Str)) es, List.map_map]
        rfl
      rw [et]
      refine ⟨"bundle", D, es.map ent, rfl, SqL.of upd_same, by rw [List.length_map]; exact hl, fun x hx => ?_, fun H' sm => q H' ((same_upd nD).trans sm)⟩
      rcases List.mem_cons.mp hx with h | h
      · rw [h]; decide +kernel
      · obtain ⟨y, hy, rfl⟩ := List.mem_map.mp h
        have hp := hw y hy
        have z : sp.length = 1 := by decide +kernel
        unfold ent
        rw [app_len, app_len, tl_one]
        omega
end
end LW
namespace LW
open PySem PySem.Spec PyProof.Rows L2 GxR
abbrev s_lines_behind : Stmt := topS 29
abbrev N_lines_behind : List Str := ["word", "text", "lines"]
abbrev P_lines_behind : List Str := ["word", "text"]
theorem sc_lines_behind : FnScope N_lines_behind P_lines_behind (defScope s_lines_behind) := ⟨rfl, rfl, rfl, by decide +kernel, rfl, by decide +kernel, by decide +kernel⟩
/-- the way out: Malformed with the line n -/
def Out (C : Addr) (H : Hp) (E : XK) (n : Nat) : Prop := ∀ d H', H d = none → Gr H H' → H' d = some (.xd [(("line" : Str), .int (n : Int))]) → E (.ref C) (some d) H'
/-- the lines behind the word, or the fault -/
def spBehind (C : Addr) : Sp := fun vs H Q E => ∃ (w0 t : Str), vs = [.str w0, .str t] ∧ w0 ≠ "" ∧ t.length ≤ 5000 ∧
  (∀ k, behN w0 (lns t) = some k → Out C H E k) ∧ (behN w0 (lns t) = none → ∀ p H', H p = none → Same H H' → H' p = some (.lst ((mid (lns t)).map V.str)) → Q (.ref p) H')
/-- the class, its init and the rule to raise -/
structure MalAt (P : Program) (K : PySem.W.Frag) (mg : Str → Option Value) (C f cc cda : Addr) (fd : FuncData) : Prop where
  I : InitAt P K C f cc cda fd
  iC : PySem.W.findIn K (.ref C) "__init__" = some (some (.ref f))
  tI : PySem.W.typeIn K (.ref f) = some (.type "function")
  bI : Binds K fd P_init []
theorem head_at {α : Type} (l : List α) (h : l ≠ []) : ∃ x, l.head? = some x ∧ l[0]? = some x := by
  cases l with
  | nil => exact absurd rfl h
  | cons x r => exact ⟨x, rfl, rfl⟩
theorem last_at {α : Type} (l : List α) (h : l ≠ []) : ∃ x, l.getLast? = some x ∧ l[l.length - 1]? = some x := by
  have e : l.getLast? = l[l.length - 1]? := List.getLast?_eq_getElem?
  have hl : l.length - 1 < l.length := by
    have := List.length_pos_iff.mpr h
    omega
  exact ⟨l[l.length - 1], by rw [e, List.getElem?_eq_getElem hl], List.getElem?_eq_getElem hl⟩
theorem neq_str (x y : Str) : (!decide (V.str x = V.str y)) = decide (x ≠ y) := by
  by_cases h : x = y
  · subst h; simp
  · have : V.str x ≠ V.str y := fun e => h (by injection e)
    simp [h]
theorem drop_last {α : Type} : ∀ l : List α, l.dropLast.drop 1 = (l.drop 1).dropLast
  | [] => rfl
  | [_] => rfl
  | _ :: _ :: _ => rfl
theorem cut1 (xs : List V) : cutV xs (some 1) none = xs.drop 1 := by
  unfold cutV
  have e1 : HT.sIx xs.length 0 (some 1) = min 1 xs.length := by
    exact HT.sIx_nat xs.length 0 1
  have e2 : HT.sIx xs.length xs.length none = xs.length := rfl
  rw [e1, e2]
  rcases Nat.eq_zero_or_pos xs.length with h | h
  · rw [List.length_eq_zero_iff.mp h]; rfl
  · rw [Nat.min_eq_left (by omega), List.take_of_length_le (by simp)]
section
variable {P : Program} {w : World} {K : PySem.W.Frag} {mg : Str → Option Value} {base : Heap} {cM cR cU : Addr}
theorem ok_lines_behind {f fM cc cda : Addr} {fd dM : FuncData} (F : Fun K "_lines_behind" "_lines_behind" s_lines_behind f fd) (T : Tx K mg cM cR cU) (M : MalAt P K mg cM fM cc cda dM) :
    FnOk P w K mg base (L2.CX P w) 3 f fd P_lines_behind (spBehind cM) := by
  have GM : FnOk P w K mg base CX0 1 fM dM P_init (spInit cM) := ok_init M.I T
  refine F.okX sc_lines_behind (fun vs H Q E h => ?_) (fun cdv A outer s H vs Q E hr h => ?_)
  · obtain ⟨w0, t, rfl, _⟩ := h
    rfl
  · obtain ⟨w0, t, rfl, hw, hl, hE, hQ⟩ := h
    have nd := sc_lines_behind.nd
    obtain ⟨tm, cM'⟩ := T.MOST
    refine ⟨_, pss_cons (ps_set (i := 2) nd rfl (Or.inl rfl) (pe_split (pv 1) pe_str))
  (pss_cons (ps_if (pt_cmpR op_ne (pe_ix ix_list (pv 2) pe_int (fun _ _ => rfl)) (pv 0) (nomark _))
    (pss_one (ps_raise rfl (takes_of rfl rfl rfl rfl) (pmk_oex M.I.S.T M.iC M.tI GM hr M.bI .nil pass0 rfl T.MAL (pa_cons pe_int pa_nil))))
    (pss_nil))
  (pss_cons (ps_if (pt_cmpR op_ne (pe_bm0 PySem.F.plainAttrs_list PySem.F.slot_list_pop PySem.F.type_list_pop mt_pop (pv 2)) pe_str (nomark _))
    (pss_one (ps_raise rfl (takes_of rfl rfl rfl rfl) (pmk_oex M.I.S.T M.iC M.tI GM hr M.bI .nil pass0 rfl T.MAL (pa_cons (pe_callB call_len_seq (by rfl) T.len (by decide +kernel) (pa_cons (pv 2) pa_nil)) pa_nil))))
    (pss_nil))
  (pss_cons (ps_if (pt_cmpR op_gt (pe_callB call_len_seq (by rfl) T.len (by decide +kernel) (pa_cons (pv 2) pa_nil)) (pe_op op_add (pe_glob (v := .int 50) (by rfl) cM' ⟨_, rfl⟩) pe_int) (nomark _))
    (pss_one (ps_raise rfl (takes_of rfl rfl rfl rfl) (pmk_oex M.I.S.T M.iC M.tI GM hr M.bI .nil pass0 rfl T.MAL (pa_cons (pe_op op_add (pe_glob (v := .int 50) (by rfl) cM' ⟨_, rfl⟩) pe_int) pa_nil))))
    (pss_nil))
  (pss_one (ps_ret (pe_slice sl_list (pv 2) (po_some pe_int) po_none)))))), ?_⟩
    have hsz : t.length + 2 ≤ sizeLine := by rw [sizeLine_eq]; omega
    have hne := lns_ne t
    have hlen := lns_len t
    obtain ⟨hd, eh, eh0⟩ := head_at _ hne
    obtain ⟨la, el, el0⟩ := last_at _ hne
    refine ⟨.str t, rfl, ⟨t, rfl⟩, t, nl, rfl, rfl, by decide +kernel, hsz, fun p np => ?_⟩
    show _
    have hp : (upd H p (.lst ((lns t).map V.str))) p = some (.lst ((lns t).map V.str)) := upd_same
    have sm : Same H (upd H p (.lst ((lns t).map V.str))) := same_upd np
    refine ⟨.ref p, rfl, p, _, 0, .str hd, rfl, rfl, SqL.of hp, atI_nat (by rw [List.getElem?_map, eh0]; rfl), .str w0, rfl, rfl, _, rfl, ?_⟩
    rw [neq_str]
    refine ite2 (fun e => ?_) (fun e => ?_)
    · have hbe : behN w0 (lns t) = some 0 := by
        unfold behN
        rw [if_pos]
        rw [eh]
        intro z
        exact of_decide_eq_true e (Option.some.inj z)
      refine mal_end (n := 0) (by decide) fun d H' nd1 sm1 hd1 => ?_
      exact hE 0 hbe d H' (sm.free nd1) (.of_same (sm.trans sm1)) hd1
    · have ehw : hd = w0 := by
        have := of_decide_eq_false (eq_false_of_ne_true e)
        exact Classical.not_not.mp this
      have b1 : (lns t).head? = some w0 := by rw [eh, ehw]
      have eml : ((lns t).map V.str).length = (lns t).length := List.length_map _
      have el1 : ((lns t).map V.str)[((lns t).map V.str).length - 1]? = some (V.str la) := by rw [eml, List.getElem?_map, el0]; rfl
      have edl : ((lns t).map V.str).dropLast = ((lns t).dropLast).map V.str := by rw [List.map_dropLast]
      refine ⟨.ref p, rfl, .inl ⟨rfl, _, SqL.of hp⟩, p, _, .str la, rfl, rfl, hp, el1, rfl, _, rfl, ?_⟩
      rw [neq_str, edl, upd_upd]
      have hp2 : (upd H p (.lst (((lns t).dropLast).map V.str))) p = some (.lst (((lns t).dropLast).map V.str)) := upd_same
      have sm2 : Same H (upd H p (.lst (((lns t).dropLast).map V.str))) := same_upd np
      refine ite2 (fun e => ?_) (fun e => ?_)
      · have hbe : behN w0 (lns t) = some ((lns t).length - 1) := by
          unfold behN
          rw [if_neg (by rw [b1]; exact fun z => z rfl), if_pos]
          rw [el]
          intro z
          exact of_decide_eq_true e (Option.some.inj z)
        refine ⟨_, rfl, p, _, rfl, .inl (SqL.of hp2), ?_⟩
        rw [List.length_map, List.length_dropLast]
        refine mal_end (n := (lns t).length - 1) (by omega) fun d H' nd1 sm1 hd1 => ?_
        exact hE _ hbe d H' (sm2.free nd1) (.of_same (sm2.trans sm1)) hd1
      · have ela : la = "" := by
          have := of_decide_eq_false (eq_false_of_ne_true e)
          exact Classical.not_not.mp this
        have b2 : (lns t).getLast? = some ("" : Str) := by rw [el, ela]
        refine ⟨_, rfl, p, _, rfl, .inl (SqL.of hp2), _, _, rfl, rfl, _, _, rfl, rfl, _, rfl, ?_⟩
        rw [List.length_map, List.length_dropLast]
        refine ite2 (fun e => ?_) (fun e => ?_)
        · have h52 : 52 < (lns t).length := by
            have := of_decide_eq_true e
            omega
          have hbe : behN w0 (lns t) = some 51 := by
            unfold behN
            rw [if_neg (by rw [b1]; exact fun z => z rfl), if_neg (by rw [b2]; exact fun z => z rfl), if_pos h52]
          refine ⟨_, _, rfl, rfl, ?_⟩
          refine mal_end (n := 51) (by decide) fun d H' nd1 sm1 hd1 => ?_
          exact hE 51 hbe d H' (sm2.free nd1) (.of_same (sm2.trans sm1)) hd1
        · have h52 : ¬ 52 < (lns t).length := by
            have := of_decide_eq_false (eq_false_of_ne_true e)
            omega
          have hbe : behN w0 (lns t) = none := by
            unfold behN
            rw [if_neg (by rw [b1]; exact fun z => z rfl), if_neg (by rw [b2]; exact fun z => z rfl), if_neg h52]
          refine ⟨.ref p, rfl, 1, rfl, p, _, rfl, SqL.of hp2, fun p2 np2 => ?_⟩
          rw [cut1]
          refine hQ hbe p2 _ (sm2.free np2) (sm2.trans (same_upd np2)) ?_
          rw [upd_same, ← List.map_drop, drop_last]
          rfl
end
end LW
namespace LW
open PySem PySem.Spec PyProof.Rows L2 GxR
abbrev s_read_image : Stmt := topS 25
abbrev N_read_image : List Str := ["text", "layers", "at", "layer"]
abbrev P_read_image : List Str := ["text"]
theorem sc_read_image : FnScope N_read_image P_read_image (defScope s_read_image) := ⟨rfl, rfl, rfl, by decide +kernel, rfl, by decide +kernel, by decide +kernel⟩
def spReadI (C B1 : Addr) : Sp := fun vs H Q E => ∃ t : Str, vs = [.str t] ∧ t.length ≤ 5000 ∧ TabG H B1 ∧
  (∀ k, faultN false (lns t) = some k → Out C H E k) ∧ (faultN false (lns t) = none → ∀ p H', H p = none → Gr H H' → H' p = some (.lst ((mid (lns t)).map V.str)) → Q (.ref p) H')
/-- a def of the module by its name, its code object known -/
structure DefC (K : PySem.W.Frag) (mg : Str → Option Value) (x : Str) (st : Stmt) (ps : List Str) (f : Addr) (fd : FuncData) (c : Addr) : Prop where
  fn : FunC K x x st f fd c
  at_ : mg x = some (.ref f)
  bd : Binds K fd ps []
theorem fault_beh {b : Bool} {ls : List Str} {k : Nat} (h : behN (word b) ls = some k) : faultN b ls = some k := by
  unfold faultN
  rw [h]
theorem fault_mid {b : Bool} {ls : List Str} (h : behN (word b) ls = none) : faultN b ls = if b = true ∧ ls.length = 2 then some 1 else ((List.range (ls.length - 2)).find? (bad b (mid ls))).map (· + 1) := by
  unfold faultN
  rw [h]
theorem mid_mem {ls : List Str} {x : Str} (h : x ∈ mid ls) : x ∈ ls := by
  unfold mid at h
  exact List.mem_of_mem_drop (List.dropLast_subset _ h)
theorem Out.imp {C : Addr} {H H1 : Hp} {E : XK} {k : Nat} (o : Out C H E k) (g : Gr H H1) : Out C H1 E k := fun d H' n g' e => o d H' (g.free d n) (g.trans g') e
section
variable {P : Program} {w : World} {K : PySem.W.Frag} {mg : Str → Option Value} {base : Heap} {cM cR cU : Addr}
theorem ok_read_image {f fM cc cda fB fI cI B1 : Addr} {fd dM dB dI : FuncData} (F : Fun K "read_image" "read_image" s_read_image f fd) (T : Tx K mg cM cR cU) (M : MalAt P K mg cM fM cc cda dM)
    (DB : DefAt K mg "_lines_behind" s_lines_behind P_lines_behind fB dB) (DI : DefC K mg "is_address" s_is_address P_is_address fI dI cI) (TI : TabB base mg cI B1) :
    FnOk P w K mg base (L2.CX P w) 4 f fd P_read_image (spReadI cM B1) := by
  have GM : FnOk P w K mg base CX0 1 fM dM P_init (spInit cM) := ok_init M.I T
  have GB : FnOk P w K mg base (L2.CX P w) 3 fB dB P_lines_behind (spBehind cM) := ok_lines_behind DB.fn T M
  have GI : FnOk P w K mg base CX0 1 fI dI P_is_address (spYes isAddr B1) := ok_is_address DI.fn T TI
  refine F.okX sc_read_image (fun vs H Q E h => ?_) (fun cdv A outer s H vs Q E hr h => ?_)
  · obtain ⟨t, rfl, _⟩ := h
    rfl
  · obtain ⟨t, rfl, hl, hB, hE, hQ⟩ := h
    have nd := sc_read_image.nd
    obtain ⟨tI, cIm⟩ := T.IMAGE
    have hr2 := hr.mono (show 2 ≤ 3 by decide)
    have hr1 := hr.mono (show 1 ≤ 3 by decide)
    refine ⟨_, pss_cons (ps_set (i := 1) nd rfl (Or.inl rfl) (pe_callS GB hr rfl DB.at_ DB.fn.kp DB.bd (fun σ => passAt (takes_of rfl rfl rfl rfl) σ) (pa_cons (pe_glob (v := .str "image") (by rfl) cIm ⟨_, rfl⟩) (pa_cons (pv 0) pa_nil))))
  (pss_cons (ps_for (passes_of rfl) rfl (pi_enumC (by rfl) T.enum (pa_cons (pv 1) pa_nil) (pk_cons pe_int pk_nil)) (pg_tup rfl (pgs_cons (pg_name (i := 2) nd rfl (Or.inl rfl)) (pgs_cons (pg_name (i := 3) nd rfl (Or.inl rfl)) pgs_nil)))
    (pss_one (ps_if (pt_not (pt_val (pe_call GI hr1 rfl DI.at_ DI.fn.kp DI.bd .nil pass0 (pa_cons (pv 3) pa_nil))))
    (pss_one (ps_raise rfl (takes_of rfl rfl rfl rfl) (pmk_oex M.I.S.T M.iC M.tI GM hr2 M.bI .nil pass0 rfl T.MAL (pa_cons (pv 2) pa_nil))))
    (pss_nil))))
  (pss_one (ps_ret (pv 1)))), ?_⟩
    refine ⟨.str t, rfl, "image", t, rfl, by decide +kernel, hl, fun k hk d H' nd1 g1 hd1 => hE k (fault_beh (b := false) hk) d H' nd1 g1 hd1, fun hn p H1 np sm hp => ?_⟩
    have hf := fault_mid (b := false) hn
    have ln := mid_len (lns t)
    have gr1 : Gr H H1 := .of_same sm
    have lm := lns_len t
    have lS : ((mid (lns t)).map V.str).length = (mid (lns t)).length := List.length_map _
    refine ⟨.ref p, rfl, p, 1, _, rfl, rfl, by decide, by decide, SqL.of hp, ?_⟩
    refine for_it (walk_enumC (K := K) (c := 1) (a := p) (xs := (mid (lns t)).map V.str)) (fun i σ H' => Gr H1 H' ∧ (∀ j, j < i → bad false (mid (lns t)) j = false) ∧ ∃ v1 v2, σ = [some (.str t), some (.ref p), v1, v2]) ⟨Gr.refl _, fun j hj => absurd hj (by omega), none, none, rfl⟩
      (fun _ _ _ _ h => SqL.of (h.1.lst hp)) ?_ ?_
    · rintro i x σ H2 H3 hi ⟨g, hno, v1, v2, rfl⟩ ⟨T0, x1, y1, rfl, nT, rfl, hx1, hy1⟩
      cases hx1
      have hy1 : ((mid (lns t)).map V.str)[i]? = some y1 := hy1
      rw [List.getElem?_map] at hy1
      cases e : (mid (lns t))[i]? with
      | none => rw [e] at hy1; cases hy1
      | some z =>
        rw [e] at hy1
        cases hy1
        have e9 : (mid (lns t)).getD i "" = z := by rw [List.getD_eq_getElem?_getD, e]; rfl
        have hz := lns_mem (mid_mem (List.mem_of_getElem? e))
        rw [lS] at hi
        have g2 : Gr H (upd H2 T0 (.tup [.int (1 + (i : Int)), .str z])) := (gr1.trans g).upd nT
        refine ⟨T0, [.int (1 + (i : Int)), .str z], rfl, SqT.of upd_same, rfl, _, _, rfl, _, _, rfl, rfl, ?_⟩
        refine ⟨_, rfl, z, rfl, by rw [sizeLine_eq]; omega, g2.tab _ hB, fun H4 g4 => ⟨_, rfl, ?_⟩⟩
        have g5 : Gr H H4 := g2.trans g4
        cases hbz : isAddr z with
        | false =>
          refine iteT ?_
          have hbad : bad false (mid (lns t)) i = true := by
            show (!isAddr ((mid (lns t)).getD i "")) = true
            rw [e9, hbz]; rfl
          have hfk : faultN false (lns t) = some (i + 1) := by
            rw [hf, if_neg (by simp), ← ln, find_hit hi hno hbad]
            rfl
          have ei : (1 : Int) + (i : Int) = ((i + 1 : Nat) : Int) := by omega
          refine ⟨_, rfl, ?_⟩
          rw [ei]
          refine mal_end (n := i + 1) (by omega) fun d H' nd1 sm1 hd1 => ?_
          exact hE _ hfk d H' (g5.free _ nd1) (g5.trans (.of_same sm1)) hd1
        | true =>
          refine iteF ?_
          refine ⟨(g.upd nT).trans g4, fun j hj => ?_, _, _, rfl⟩
          by_cases hji : j < i
          · exact hno j hji
          · have : j = i := by omega
            subst this
            show (!isAddr ((mid (lns t)).getD j "")) = false
            rw [e9, hbz]; rfl
    · rintro σ H2 ⟨g, hno, v1, v2, rfl⟩
      have hfk : faultN false (lns t) = none := by
        rw [hf, if_neg (by simp), find_miss fun j hj => hno j (by rw [lS, ln]; exact hj)]
        rfl
      exact ⟨_, rfl, hQ hfk p H2 np (gr1.trans g) (g.lst hp)⟩
end
end LW
namespace LW
open PySem PySem.Spec PyProof.Rows L2 GxR
abbrev s_read_bundle : Stmt := topS 26
abbrev N_read_bundle : List Str := ["text", "lines", "found", "at", "line", "platform", "_", "address"]
abbrev P_read_bundle : List Str := ["text"]
theorem sc_read_bundle : FnScope N_read_bundle P_read_bundle (defScope s_read_bundle) := ⟨rfl, rfl, rfl, by decide +kernel, rfl, by decide +kernel, by decide +kernel⟩
def prt (l : Str) : Str × Str := (nam l, adr l)
def spReadB (K : PySem.W.Frag) (C B1 B2 : Addr) : Sp := fun vs H Q E => ∃ t : Str, vs = [.str t] ∧ t.length ≤ 5000 ∧ TabG H B1 ∧ TabG H B2 ∧
  (∀ k, faultN true (lns t) = some k → Out C H E k) ∧ (faultN true (lns t) = none → ∀ p ts H', H p = none → Gr H H' → H' p = some (.lst ts) → Prs K H' ts ((mid (lns t)).map prt) → Q (.ref p) H')
theorem Gr.new {H H' : Hp} {d : Addr} {o : HO} (g : Gr H H') (n : H d = none) : Gr H (L2.upd H' d o) :=
  ⟨fun b u e t => by rw [upd_ne (ne_of_none e n)]; exact g.keep b u e t, fun b t => by
    have t' := g.tab b t
    obtain ⟨ps, e, _⟩ := t
    exact tab_eq t' (upd_ne (ne_of_none e n)), fun b z => by
    by_cases h : b = d
    · rw [h]; exact n
    · rw [upd_ne h] at z; exact g.free b z⟩
theorem beh_two {w0 : Str} {ls : List Str} (h0 : ls ≠ []) (hw : w0 ≠ "") (hn : behN w0 ls = none) : 2 ≤ ls.length := by
  cases ls with
  | nil => exact absurd rfl h0
  | cons x r =>
    cases r with
    | cons _ _ => simp
    | nil =>
      exfalso
      unfold behN at hn
      by_cases h1 : ([x] : List Str).head? = some w0
      · have hx : x = w0 := Option.some.inj h1
        rw [if_neg (by rw [h1]; exact fun z => z rfl), if_pos] at hn
        · cases hn
        · intro z
          rw [hx] at z
          exact hw (Option.some.inj z)
      · rw [if_pos h1] at hn
        cases hn
theorem part_len (z : Str) : (nam z).length ≤ z.length ∧ (adr z).length ≤ z.length := by
  by_cases h : 32 ∈ TL.tl z
  · obtain ⟨a, b, e, ha⟩ := split_at _ h
    have el : z = (⟨a.toArray⟩ : Str) ++ sp ++ (⟨b.toArray⟩ : Str) := by
      apply TL.ext_tl
      rw [TL.tl_append, TL.tl_append, tl_sp]
      show _ = (a ++ [32]) ++ b
      rw [e]
      simp
    have ep : Txt.partition z sp = (⟨a.toArray⟩, sp, ⟨b.toArray⟩) := by
      rw [el]
      exact TL.partition_app tl_sp (by show 32 ∉ a; exact ha)
    have hz : z.length = a.length + 1 + b.length := by rw [TL.len_tl, e]; simp; omega
    have l1 : (⟨a.toArray⟩ : Str).length = a.length := by rw [TL.len_tl]
    have l2 : (⟨b.toArray⟩ : Str).length = b.length := by rw [TL.len_tl]
    unfold nam adr
    rw [ep]
    dsimp only
    omega
  · have ep : Txt.partition z sp = (z, Str.empty, Str.empty) := TL.partition_none tl_sp h
    unfold nam adr
    rw [ep]
    exact ⟨Nat.le_refl _, Nat.zero_le _⟩
/-- the dict behind so many lines -/
def kvsOf (ms : List Str) : List (Key × V) := ms.map fun l => (Sum.inr (nam l), V.str (adr l))
theorem val_kvs (ms : List Str) (x : Str) : (valV (kvsOf ms) (Sum.inr x)).isSome = decide (x ∈ ms.map nam) := by
  induction ms with
  | nil => rfl
  | cons m r ih =>
    unfold valV kvsOf at ih ⊢
    rw [List.map_cons, List.find?_cons]
    by_cases h : nam m = x
    · have e1 : decide ((Sum.inr (nam m) : Key) = Sum.inr x) = true := decide_eq_true (by rw [h])
      dsimp only
      rw [e1]
      have : x ∈ (m :: r).map nam := by rw [List.map_cons, h]; exact List.mem_cons_self
      rw [decide_eq_true this]
      rfl
    · have e1 : decide ((Sum.inr (nam m) : Key) = Sum.inr x) = false := decide_eq_false (fun z => h (by injection z))
      dsimp only
      rw [e1]
      dsimp only
      rw [ih]
      apply decide_eq_decide.mpr
      rw [List.map_cons, List.mem_cons]
      constructor
      · exact fun z => .inr z
      · intro z
        rcases z with z | z
        · exact absurd z.symm h
        · exact z
theorem prs_kvs {K : PySem.W.Frag} {H : Hp} : ∀ {ms : List Str} {ts : List Addr}, Paired (fun (t : Addr) (q : Key × V) => H t = some (.tup [kV q.1, q.2])) ts (kvsOf ms) → Prs K H (ts.map V.ref) (ms.map prt)
  | [], _, h => by
    cases h
    exact .nil
  | m :: r, _, h => by
    cases h with
    | cons h1 h2 => exact .cons ⟨_, rfl, h1⟩ (prs_kvs (K := K) h2)
section
variable {P : Program} {w : World} {K : PySem.W.Frag} {mg : Str → Option Value} {base : Heap} {cM cR cU : Addr}
theorem ok_read_bundle {f fM cc cda fB fI cI fL cL B1 B2 : Addr} {fd dM dB dI dL : FuncData} (F : Fun K "read_bundle" "read_bundle" s_read_bundle f fd) (T : Tx K mg cM cR cU) (M : MalAt P K mg cM fM cc cda dM)
    (DB : DefAt K mg "_lines_behind" s_lines_behind P_lines_behind fB dB) (DI : DefC K mg "is_address" s_is_address P_is_address fI dI cI) (TI : TabB base mg cI B1)
    (DL : DefC K mg "_is_platform" s_is_platform P_is_platform fL dL cL) (TL : TabB base mg cL B2) :
    FnOk P w K mg base (L2.CX P w) 4 f fd P_read_bundle (spReadB K cM B1 B2) := by
  have GM : FnOk P w K mg base CX0 1 fM dM P_init (spInit cM) := ok_init M.I T
  have GB : FnOk P w K mg base (L2.CX P w) 3 fB dB P_lines_behind (spBehind cM) := ok_lines_behind DB.fn T M
  have GI : FnOk P w K mg base CX0 1 fI dI P_is_address (spYes isAddr B1) := ok_is_address DI.fn T TI
  have GL : FnOk P w K mg base CX0 1 fL dL P_is_platform (spYes isPlat B2) := ok_is_platform DL.fn T TL
  refine F.okX sc_read_bundle (fun vs H Q E h => ?_) (fun cdv A outer s H vs Q E hr h => ?_)
  · obtain ⟨t, rfl, _⟩ := h
    rfl
  · obtain ⟨t, rfl, hl, hB1, hB2, hE, hQ⟩ := h
    have nd := sc_read_bundle.nd
    obtain ⟨tI, cBu⟩ := T.BUNDLE
    have hr2 := hr.mono (show 2 ≤ 3 by decide)
    have hr1 := hr.mono (show 1 ≤ 3 by decide)
    have hu : (A.deeper (envOfC "read_bundle" (defScope s_read_bundle) s.heap.objs.size f cdv)).units + 1 < cLine := by have := hr.units; omega
    refine ⟨_, pss_cons (ps_set (i := 1) nd rfl (Or.inl rfl) (pe_callS GB hr rfl DB.at_ DB.fn.kp DB.bd (fun σ => passAt (takes_of rfl rfl rfl rfl) σ) (pa_cons (pe_glob (v := .str "bundle") (by rfl) cBu ⟨_, rfl⟩) (pa_cons (pv 0) pa_nil))))
  (pss_cons (ps_if (pt_not (pt_truth (pv 1) (by intro _; rfl)))
    (pss_one (ps_raise rfl (takes_of rfl rfl rfl rfl) (pmk_oex M.I.S.T M.iC M.tI GM hr2 M.bI .nil pass0 rfl T.MAL (pa_cons pe_int pa_nil))))
    (pss_nil))
  (pss_cons (ps_set (i := 2) nd rfl (Or.inl rfl) pe_dnewK)
  (pss_cons (ps_for (passes_of rfl) rfl (pi_enumC (by rfl) T.enum (pa_cons (pv 1) pa_nil) (pk_cons pe_int pk_nil)) (pg_tup rfl (pgs_cons (pg_name (i := 3) nd rfl (Or.inl rfl)) (pgs_cons (pg_name (i := 4) nd rfl (Or.inl rfl)) pgs_nil)))
    (pss_cons (ps_asg (pe_partition (pv 4) pe_str) (pg_tup rfl (pgs_cons (pg_name (i := 5) nd rfl (Or.inl rfl)) (pgs_cons (pg_name (i := 6) nd rfl (Or.inl rfl)) (pgs_cons (pg_name (i := 7) nd rfl (Or.inl rfl)) pgs_nil)))))
  (pss_cons (ps_if (PW.pt (pw_or (pt_cmp (pc_din hu (pv 5) (pv 2))) (pw_or (pt_not (pt_val (pe_call GL hr1 rfl DL.at_ DL.fn.kp DL.bd .nil pass0 (pa_cons (pv 5) pa_nil)))) (pw_or1 (pt_not (pt_val (pe_call GI hr1 rfl DI.at_ DI.fn.kp DI.bd .nil pass0 (pa_cons (pv 7) pa_nil))))))))
    (pss_one (ps_raise rfl (takes_of rfl rfl rfl rfl) (pmk_oex M.I.S.T M.iC M.tI GM hr2 M.bI .nil pass0 rfl T.MAL (pa_cons (pv 3) pa_nil))))
    (pss_nil))
  (pss_one (ps_dput hu (pv 2) (pv 5) (pv 7) rfl)))))
  (pss_one (ps_ret (LiI.pe_listItems rfl (pv 2) (by rfl) T.list (by decide +kernel))))))), ?_⟩
    refine ⟨.str t, rfl, "bundle", t, rfl, by decide +kernel, hl, fun k hk d H' nd1 g1 hd1 => hE k (fault_beh (b := true) hk) d H' nd1 g1 hd1, fun hn p H1 np sm hp => ?_⟩
    have hf := fault_mid (b := true) hn
    have ln := mid_len (lns t)
    have gr1 : Gr H H1 := .of_same sm
    have lm := lns_len t
    have lS : ((mid (lns t)).map V.str).length = (mid (lns t)).length := List.length_map _
    have l2 : 2 ≤ (lns t).length := beh_two (lns_ne t) (by decide +kernel) hn
    refine ⟨.ref p, rfl, _, .inl ⟨_, SqL.of hp, rfl⟩, ?_⟩
    cases em : mid (lns t) with
    | nil =>
      have e2 : (lns t).length = 2 := by
        rw [em] at ln
        simp at ln
        omega
      have hfk : faultN true (lns t) = some 1 := by rw [hf, if_pos ⟨rfl, e2⟩]
      refine iteT ?_
      refine mal_end (n := 1) (by decide) fun d H' nd1 sm1 hd1 => ?_
      exact hE 1 hfk d H' (gr1.free _ nd1) (gr1.trans (.of_same sm1)) hd1
    | cons m0 mr =>
      have e2 : ¬ (true = true ∧ (lns t).length = 2) := by
        rintro ⟨_, h2⟩
        rw [em] at ln
        simp at ln
        omega
      rw [if_neg e2] at hf
      refine iteF ?_
      refine fun d ndd => ?_
      have ndH : H d = none := gr1.free d ndd
      refine ⟨.ref p, rfl, p, 1, _, rfl, rfl, by decide, by decide, SqL.of (by rw [upd_ne (ne_of_none hp ndd)]; exact hp), ?_⟩
      refine for_it (walk_enumC (K := K) (c := 1) (a := p) (xs := (mid (lns t)).map V.str)) (fun i σ H' => Gr H1 H' ∧ H' d = some (.dK (kvsOf ((mid (lns t)).take i))) ∧ (∀ j, j < i → bad true (mid (lns t)) j = false) ∧ ∃ v1 v2 v3 v4 v5, σ = [some (.str t), some (.ref p), some (.ref d), v1, v2, v3, v4, v5]) ⟨(Gr.refl _).new ndd, upd_same, fun j hj => absurd hj (by omega), none, none, none, none, none, rfl⟩
        (fun _ _ _ _ h => SqL.of (h.1.lst hp)) ?_ ?_
      · rintro i x σ H2 H3 hi ⟨g, hd2, hno, v1, v2, v3, v4, v5, rfl⟩ ⟨T0, x1, y1, rfl, nT, rfl, hx1, hy1⟩
        cases hx1
        have hy1 : ((mid (lns t)).map V.str)[i]? = some y1 := hy1
        rw [List.getElem?_map] at hy1
        cases e : (mid (lns t))[i]? with
        | none => rw [e] at hy1; cases hy1
        | some z =>
          rw [e] at hy1
          cases hy1
          have e9 : (mid (lns t)).getD i "" = z := by rw [List.getD_eq_getElem?_getD, e]; rfl
          have hz := lns_mem (mid_mem (List.mem_of_getElem? e))
          rw [lS] at hi
          have dT0 : d ≠ T0 := ne_of_none hd2 nT
          have g2 : Gr H1 (upd H2 T0 (.tup [.int (1 + (i : Int)), .str z])) := g.upd nT
          have hd3 : (upd H2 T0 (.tup [.int (1 + (i : Int)), .str z])) d = some (.dK (kvsOf ((mid (lns t)).take i))) := by rw [upd_ne dT0]; exact hd2
          refine ⟨T0, [.int (1 + (i : Int)), .str z], rfl, SqT.of upd_same, rfl, _, _, rfl, _, _, rfl, rfl, ?_⟩
          refine ⟨_, rfl, ⟨_, rfl⟩, z, sp, rfl, rfl, by decide +kernel, by rw [sizeLine_eq]; omega, fun q0 nq => ?_⟩
          have dq0 : d ≠ q0 := ne_of_none hd3 nq
          have g3 := g2.upd (o := .tup [.str (nam z), .str (Txt.partition z sp).2.1, .str (adr z)]) nq
          refine ⟨q0, [.str (nam z), .str (Txt.partition z sp).2.1, .str (adr z)], rfl, SqT.of upd_same, rfl, _, _, rfl, _, _, rfl, _, _, rfl, rfl, ?_⟩
          have hd4 : (upd (upd H2 T0 (.tup [.int (1 + (i : Int)), .str z])) q0 (.tup [.str (nam z), .str (Txt.partition z sp).2.1, .str (adr z)])) d = some (.dK (kvsOf ((mid (lns t)).take i))) := by rw [upd_ne dq0]; exact hd3
          have hk4 : valV (kvsOf ((mid (lns t)).take i)) (Sum.inr (nam z)) = valV (kvsOf ((mid (lns t)).take i)) (Sum.inr (nam z)) := rfl
          have hbi : bad true (mid (lns t)) i = (decide (nam z ∈ ((mid (lns t)).take i).map nam) || !isPlat (nam z) || !isAddr (adr z)) := by
            unfold bad
            rw [if_pos rfl, e9]
          have ei : (1 : Int) + (i : Int) = ((i + 1 : Nat) : Int) := by omega
          have hfk : bad true (mid (lns t)) i = true → faultN true (lns t) = some (i + 1) := fun hb => by
            rw [hf, ← ln, find_hit hi hno hb]
            rfl
          have R := fun (H4 : Hp) (g4 : Gr H1 H4) (hb : bad true (mid (lns t)) i = true) => mal_end (C := cM) (H1 := H4) (n := i + 1) (Q := E) (by omega) fun d' H' nd1 sm1 hd1 => hE _ (hfk hb) d' H' ((gr1.trans g4).free _ nd1) ((gr1.trans g4).trans (.of_same sm1)) hd1
          have ln1 : (nam z).length ≤ z.length ∧ (adr z).length ≤ z.length := part_len z
          refine ⟨_, rfl, _, rfl, d, _, rfl, DGet.k (k := Sum.inr (nam z)) hd4, _, rfl, ?_⟩
          rw [val_kvs]
          cases c1 : decide (nam z ∈ ((mid (lns t)).take i).map nam) with
          | true =>
            refine iteT (iteT ⟨_, rfl, ?_⟩)
            have q9 := R _ g3 (by rw [hbi, c1]; rfl)
            rw [← ei] at q9
            exact q9
          | false =>
            refine iteF ⟨_, rfl, nam z, rfl, by rw [sizeLine_eq]; omega, (gr1.trans g3).tab _ hB2, fun H5 g5 => ⟨_, rfl, ?_⟩⟩
            have g6 := g3.trans g5
            cases c2 : isPlat (nam z) with
            | false =>
              refine iteT (iteT ⟨_, rfl, ?_⟩)
              have q9 := R _ g6 (by rw [hbi, c1, c2]; rfl)
              rw [← ei] at q9
              exact q9
            | true =>
              refine iteF ⟨_, rfl, adr z, rfl, by rw [sizeLine_eq]; omega, (gr1.trans g6).tab _ hB1, fun H6 g7 => ⟨_, rfl, ?_⟩⟩
              have g8 := g6.trans g7
              cases c3 : isAddr (adr z) with
              | false =>
                refine iteT ⟨_, rfl, ?_⟩
                have q9 := R _ g8 (by rw [hbi, c1, c2, c3]; rfl)
                rw [← ei] at q9
                exact q9
              | true =>
                refine iteF ?_
                have hd6 : H6 d = some (.dK (kvsOf ((mid (lns t)).take i))) := (g5.trans g7).keep d _ hd4 (fun ps z => nomatch z)
                have et : (mid (lns t)).take (i + 1) = (mid (lns t)).take i ++ [z] := by rw [List.take_add_one, e]; rfl
                have ek : putK (kvsOf ((mid (lns t)).take i)) (Sum.inr (nam z)) (.str (adr z)) = kvsOf ((mid (lns t)).take (i + 1)) := by
                  rw [putK_new _ ?_, et]
                  · unfold kvsOf
                    rw [List.map_append]
                    rfl
                  · cases e0 : valV (kvsOf ((mid (lns t)).take i)) (Sum.inr (nam z)) with
                    | none => rfl
                    | some v =>
                      have := val_kvs ((mid (lns t)).take i) (nam z)
                      rw [e0, c1] at this
                      cases this
                refine ⟨_, rfl, _, rfl, _, rfl, d, _, rfl, DPut.k (k := Sum.inr (nam z)) hd6 ?_, ?_⟩
                · unfold kvsOf
                  rw [List.length_map, List.length_take, sizeLine_eq]
                  omega
                · rw [ek]
                  refine ⟨g8.new ndd, upd_same, fun j hj => ?_, _, _, _, _, _, rfl⟩
                  by_cases hji : j < i
                  · exact hno j hji
                  · have : j = i := by omega
                    subst this
                    rw [hbi, c1, c2, c3]; rfl
      · rintro σ H2 ⟨g, hd2, hno, v1, v2, v3, v4, v5, rfl⟩
        have hfk : faultN true (lns t) = none := by
          rw [hf, find_miss fun j hj => hno j (by rw [lS, ln]; exact hj)]
          rfl
        have e1 : (mid (lns t)).take ((mid (lns t)).map V.str).length = mid (lns t) := List.take_of_length_le (by rw [List.length_map]; exact Nat.le_refl _)
        rw [e1] at hd2
        refine ⟨_, rfl, d, _, rfl, hd2, fun H' q0 ts ks nq nts nin hq0 hpr => ?_⟩
        have g2 : Gr H H' := (gr1.trans g).trans (.of_same ks)
        exact hQ hfk q0 _ H' ((gr1.trans g).free _ nq) g2 hq0 (prs_kvs hpr)
end
end LW
namespace LW
open PySem PySem.Spec PyProof.Rows L2
/-- isinstance(e, c), e the exception that the suite holds, with its dict -/
def rIsD (K : PySem.W.Frag) (D a : Addr) (cls : Value) (d : Option Addr) : List V → Hp → VK → Prop := fun xs H Q => cls = .ref D ∧ ∃ (dd : Addr) (fs : List (Str × V)), d = some dd ∧ H dd = some (.xd fs) ∧
  ∃ (c : V) (cv : Value) (b : Bool), xs = [.ref a, c] ∧ (∀ u, RelV c u → u = cv) ∧ PySem.W.kitOne K (.ref D) cv = some b ∧ Q (.bl b) H
theorem call_isD {X : Cx} {a D : Addr} {oe : Obj} {cls : Value} {d : Option Addr} {pn : List (Addr × Obj)} (C : ExcC X.K D) (hz : Zc cls d oe) (hf : ∃ vs, oe.data = .fields vs) : CallR (X.suite a ((a, oe) :: pn)) (.builtin "isinstance") (rIsD X.K D a cls d) := by
  intro pins s σ H xs us Q I r h
  obtain ⟨rfl, dd, fs, rfl, hdd, c, cv, b, rfl, hcv, e, q⟩ := h
  obtain ⟨cd, hcd, _⟩ := PySem.W.any_some C.hd
  have isc : (PySem.W.clsIn X.K D).isSome = true := by rw [hcd]; rfl
  cases r with
  | cons r1 r2 =>
    cases r2 with
    | cons r3 r4 =>
      cases r4
      cases r1
      have ec := hcv _ r3
      subst ec
      obtain ⟨here, _⟩ := I.pin (a, oe) (List.mem_append_left _ List.mem_cons_self)
      obtain ⟨vs, hv⟩ := hf
      have at_d : ObjOk X.prog X.w H s.heap dd (.xd fs) := I.hok dd _ hdd
      obtain ⟨mA, hns, _⟩ := at_d
      obtain ⟨od, ho, _⟩ := lookIn_ns hns
      have inst : PySem.W.InstAt s.heap a oe D (some od) := by
        refine ⟨here, hz.1, ?_, ?_⟩
        · unfold PySem.W.notCls
          rw [hv]
        · rw [hz.2]
          exact ho
      exact PySem.W.kia_one (PySem.W.kitx_exc isc C.hg C.hk C.hs C.ha C.hn C.ht C.hm) I.kIn inst e (fun z => nomatch z) fun tk => ⟨.bl b, H, I.kept (t' := tk) fun _ _ z => z, rfl, q⟩
end LW
namespace LW
open PySem PySem.Spec PyProof.Rows L2 GxR
abbrev s_references : Stmt := topS 27
abbrev N_references : List Str := ["kind", "text", "_", "address"]
abbrev P_references : List Str := ["kind", "text"]
theorem sc_references : FnScope N_references P_references (defScope s_references) := ⟨rfl, rfl, rfl, by decide +kernel, rfl, by decide +kernel, by decide +kernel⟩
/-- of a text without fault -/
def spRefs (B1 B2 : Addr) : Sp := fun vs H Q _ => ∃ (k t : Str) (ys : List Str), vs = [.str k, .str t] ∧ t.length ≤ 5000 ∧ TabG H B1 ∧ TabG H B2 ∧
  ((k = "image" ∧ faultN false (lns t) = none ∧ ys = mid (lns t)) ∨ (k = "bundle" ∧ faultN true (lns t) = none ∧ ys = (mid (lns t)).map adr) ∨ (k ≠ "image" ∧ k ≠ "bundle" ∧ ys = [])) ∧
  ∀ p H', H p = none → Gr H H' → H' p = some (.lst (ys.map V.str)) → Q (.ref p) H'
def spReadIc (B1 : Addr) : Sp := fun vs H Q _ => ∃ t : Str, vs = [.str t] ∧ t.length ≤ 5000 ∧ TabG H B1 ∧ faultN false (lns t) = none ∧ ∀ p H', H p = none → Gr H H' → H' p = some (.lst ((mid (lns t)).map V.str)) → Q (.ref p) H'
def spReadBc (K : PySem.W.Frag) (B1 B2 : Addr) : Sp := fun vs H Q _ => ∃ t : Str, vs = [.str t] ∧ t.length ≤ 5000 ∧ TabG H B1 ∧ TabG H B2 ∧ faultN true (lns t) = none ∧ ∀ p ts H', H p = none → Gr H H' → H' p = some (.lst ts) → Prs K H' ts ((mid (lns t)).map prt) → Q (.ref p) H'
/-- all that the module's texts give -/
structure Mods (P : Program) (w : World) (K : PySem.W.Frag) (mg : Str → Option Value) (base : Heap) (cM B1 B2 fR fW : Addr) (dR dW : FuncData) : Prop where
  RI : FnOk P w K mg base (L2.CX P w) 4 fR dR P_read_image (spReadI cM B1)
  aI : mg "read_image" = some (.ref fR)
  kI : PySem.W.keepIn K (.ref fR) = true
  bI : Binds K dR P_read_image []
  RB : FnOk P w K mg base (L2.CX P w) 4 fW dW P_read_bundle (spReadB K cM B1 B2)
  aB : mg "read_bundle" = some (.ref fW)
  kB : PySem.W.keepIn K (.ref fW) = true
  bB : Binds K dW P_read_bundle []
section
variable {P : Program} {w : World} {K : PySem.W.Frag} {mg : Str → Option Value} {base : Heap} {cM cR cU : Addr}
theorem eq_str (x y : Str) : decide (V.str x = V.str y) = decide (x = y) := by
  apply decide_eq_decide.mpr
  constructor
  · intro h; injection h
  · intro h; rw [h]
theorem ok_references {f fR fW B1 B2 : Addr} {fd dR dW : FuncData} (F : Fun K "references" "references" s_references f fd) (T : Tx K mg cM cR cU) (M : Mods P w K mg base cM B1 B2 fR fW dR dW) :
    FnOk P w K mg base CX0 5 f fd P_references (spRefs B1 B2) := by
  have GI : FnOk P w K mg base CX0 4 fR dR P_read_image (spReadIc B1) := calm_of M.RI fun vs H Q E h => by
    obtain ⟨t, e, hl, hB, hf, q⟩ := h
    exact ⟨t, e, hl, hB, (fun k hk => by rw [hf] at hk; cases hk), fun _ => q⟩
  have GB : FnOk P w K mg base CX0 4 fW dW P_read_bundle (spReadBc K B1 B2) := calm_of M.RB fun vs H Q E h => by
    obtain ⟨t, e, hl, hB, hB2, hf, q⟩ := h
    exact ⟨t, e, hl, hB, hB2, (fun k hk => by rw [hf] at hk; cases hk), fun _ => q⟩
  refine F.ok sc_references (fun vs H Q E h => ?_) (fun cdv A outer s H vs Q E hr h => ?_)
  · obtain ⟨k, t, ys, rfl, _⟩ := h
    rfl
  · obtain ⟨k, t, ys, rfl, hl, hB1, hB2, hc, q⟩ := h
    have nd := sc_references.nd
    obtain ⟨t1, c1⟩ := T.IMAGE
    obtain ⟨t2, c2⟩ := T.BUNDLE
    refine ⟨_, pss_cons (ps_if (pt_cmpR op_eq (pv 0) (pe_glob (v := .str "image") (by rfl) c1 ⟨_, rfl⟩) (nomark _))
    (pss_one (ps_ret (pe_call GI hr rfl M.aI M.kI M.bI .nil pass0 (pa_cons (pv 1) pa_nil))))
    (pss_nil))
  (pss_cons (ps_if (pt_cmpR op_eq (pv 0) (pe_glob (v := .str "bundle") (by rfl) c2 ⟨_, rfl⟩) (nomark _))
    (pss_one (ps_ret (pe_lc (own := [("_", 2), ("address", 3)]) (g := gTup K 2 (gCons (gName 2) (gCons (gName 3) gNil))) (tt := tYes) rfl nd (pi_list (pe_call GB hr rfl M.aB M.kB M.bB .nil pass0 (pa_cons (pv 1) pa_nil))) (blkOk_by (N := N_references) (sc := defScope s_references) (by decide +kernel)) (fun _ _ _ _ _ => (pg_tup rfl (pgs_cons (pg_name (i := 2) nd rfl (Or.inl rfl)) (pgs_cons (pg_name (i := 3) nd rfl (Or.inl rfl)) pgs_nil)))) (fun _ _ _ _ _ => pts_nil) (fun _ _ _ _ _ => (pv 3)))))
    (pss_nil))
  (pss_one (ps_ret (pe_lst pa_nil)))), ?_⟩
    refine ⟨_, rfl, rfl, _, rfl, ?_⟩
    rw [eq_str]
    rcases hc with ⟨rfl, hf, rfl⟩ | ⟨rfl, hf, rfl⟩ | ⟨n1, n2, rfl⟩
    · refine iteT ?_
      exact ⟨_, rfl, t, rfl, hl, hB1, hf, q⟩
    · refine iteF ⟨_, rfl, rfl, _, rfl, ?_⟩
      rw [eq_str]
      refine iteT ?_
      refine ⟨_, rfl, t, rfl, hl, hB1, hB2, hf, fun p ts H1 np g hp hP => ?_⟩
      have ln := hP.len
      rw [List.length_map, mid_len] at ln
      have lt := lns_len t
      refine ⟨p, rfl, ⟨_, SqL.of hp⟩, fun D nD => lc_pair (walk_list (K := K) (a := p) (xs := ts)) (vs := [2, 3]) (te := tVar 3) (fun i => .str (adr ((mid (lns t)).getD i ""))) ?_ ?_ (fun _ _ => rfl) ?_ ?_⟩
      · omega
      · intro H2 hb
        exact hb.list nD (SqL.of hp)
      · rintro i x H2 H3 hi hb ⟨rfl, hx⟩
        obtain ⟨pr, t0, ep, rfl, ht⟩ := hP.get hx
        rw [List.getElem?_map] at ep
        cases e : (mid (lns t))[i]? with
        | none => rw [e] at ep; cases ep
        | some z =>
          rw [e] at ep
          cases ep
          have e9 : (mid (lns t)).getD i "" = z := by rw [List.getD_eq_getElem?_getD, e]; rfl
          refine ⟨t0, .str (nam z), .str (adr z), rfl, rfl, SqT.of ((hb.same nD) _ _ ht), fun Q2 kk => ⟨_, rfl, ?_⟩⟩
          rw [e9] at kk
          exact kk
      · have et : ((List.range ts.length).map fun i => V.str (adr ((mid (lns t)).getD i ""))) = ((mid (lns t)).map adr).map V.str := by
          rw [ln, ← mid_len, range_map_get (fun z : Str => V.str (adr z)) ("" : Str) (mid (lns t)), List.map_map]
          rfl
        rw [et]
        exact q D _ (g.free _ nD) (g.upd nD) upd_same
    · rw [decide_eq_false n1]
      refine iteF ⟨_, rfl, rfl, _, rfl, ?_⟩
      rw [eq_str, decide_eq_false n2]
      refine iteF ⟨by show 0 ≤ sizeLine; decide, fun p np => q p _ np ((Gr.refl _).upd np) upd_same⟩
end
end LW
namespace LW
open PySem PySem.Spec PyProof.Rows L2 GxR
abbrev s_law_state : Stmt := topS 40
abbrev N_law_state : List Str := ["script", "cells", "cell"]
abbrev P_law_state : List Str := ["script"]
theorem sc_law_state : FnScope N_law_state P_law_state (defScope s_law_state) := ⟨rfl, rfl, rfl, by decide +kernel, rfl, by decide +kernel, by decide +kernel⟩
abbrev s_law_take : Stmt := topS 41
abbrev N_law_take : List Str := ["state", "most", "cells", "at", "cell", "mixed"]
abbrev P_law_take : List Str := ["state", "most"]
theorem sc_law_take : FnScope N_law_take P_law_take (defScope s_law_take) := ⟨rfl, rfl, rfl, by decide +kernel, rfl, by decide +kernel, by decide +kernel⟩
section
variable {P : Program} {w : World} {K : PySem.W.Frag} {mg : Str → Option Value} {base : Heap} {cM cR cU : Addr}
theorem ok_state {f : Addr} {fd : FuncData} (F : Fun K "_law_state" "_law_state" s_law_state f fd) (T : Tx K mg cM cR cU) : FnOk P w K mg base CX0 1 f fd P_law_state (spState K) := by
  refine F.ok sc_law_state (fun vs H Q E h => ?_) (fun cdv A outer s H vs Q E hr h => ?_)
  · obtain ⟨l, ns, rfl, _⟩ := h
    rfl
  · obtain ⟨l, ns, rfl, hS, hl, q⟩ := h
    have nd := sc_law_state.nd
    refine ⟨_, pss_cons (ps_setLc (i := 1) (own := [("cell", 2)]) (g := gName 2) (tt := tYes) rfl nd rfl rfl (sw_true rfl rfl rfl (by decide +kernel)) (pi_list (pe_slice sl_list (pv 0) po_none (po_some pe_int))) (blkOk_by (N := N_law_state) (sc := defScope s_law_state) (by decide +kernel)) (fun _ _ _ _ _ => (pg_name (i := 2) nd rfl (Or.inl rfl))) (fun _ _ _ _ _ => pts_nil) (fun _ _ _ _ _ => (pe_callB call_abs (by rfl) T.abs (by decide +kernel) (pa_cons (pv 2) pa_nil))))
  (pss_cons (ps_if (pt_cmpR op_eq (pe_callB call_len_seq (by rfl) T.len (by decide +kernel) (pa_cons (pv 1) pa_nil)) pe_int (nomark _))
    (pss_one (ps_set (i := 1) nd rfl (.inl rfl) (pe_lst (pa_cons pe_int pa_nil))))
    (pss_nil))
  (pss_one (ps_ret (pe_lst (pa_cons pe_int (pa_cons (pv 1) pa_nil)))))), ?_⟩
    obtain ⟨zs, ez, lz, _⟩ := cutV_map V.int ns none (some 63)
    refine ⟨.ref l, rfl, 63, rfl, l, _, rfl, hS, fun p np => ?_⟩
    rw [ez]
    have s1 : Same H (upd H p (.lst (zs.map V.int))) := same_upd np
    refine ⟨p, rfl, ⟨_, SqL.of upd_same⟩, fun D nD => lc_map (walk_list (K := K) (a := p) (xs := zs.map V.int)) (σ := [some (.ref l), none, none]) (vs := [2])
      (fun i => .int (if zs.getD i 0 < 0 then -zs.getD i 0 else zs.getD i 0)) ?_ ?_ (fun _ => rfl) ?_ ?_⟩
    · rw [List.length_map]
      exact Nat.lt_of_le_of_lt (Nat.le_trans lz hl) (by decide)
    · intro H2 hb
      exact hb.list nD (SqL.of upd_same)
    · rintro i x H2 H3 hi hb ⟨rfl, hx⟩
      rw [List.getElem?_map] at hx
      cases e : zs[i]? with
      | none => rw [e] at hx; cases hx
      | some z =>
        rw [e] at hx
        cases hx
        refine ⟨rfl, fun Q2 k => ⟨_, rfl, z, rfl, ?_⟩⟩
        have : zs.getD i 0 = z := by rw [List.getD_eq_getElem?_getD, e]; rfl
        rw [this] at k
        exact k
    · rw [List.length_map]
      have em : ((List.range zs.length).map fun i => V.int (if zs.getD i 0 < 0 then -zs.getD i 0 else zs.getD i 0)) = (zs.map fun z => if z < 0 then -z else z).map V.int := by
        rw [range_map_get (fun z : Int => V.int (if z < 0 then -z else z)) 0 zs, List.map_map]
        rfl
      rw [em]
      have s2 : Same H (upd (upd H p (.lst (zs.map V.int))) D (.lst ((zs.map fun z => if z < 0 then -z else z).map V.int))) := s1.trans (same_upd nD)
      have fin : ∀ (c : Addr) (cs : List Int) (H2 : Hp), Same H H2 → H c = none → H2 c = some (.lst (cs.map V.int)) → 0 < cs.length → cs.length ≤ 63 → (∀ z ∈ cs, 0 ≤ z) →
          ∀ x, H2 x = none → Q (.ref x) (upd H2 x (.lst [.int 0, .ref c])) := by
        intro c cs H2 sm nc hc h0 h63 hnn x nx
        have ncx : c ≠ x := ne_of_none hc nx
        refine q x c _ (sm.free nx) nc (sm.trans (same_upd nx)) ⟨0, cs, upd_same, ?_, ncx.symm, h0, h63, hnn, by omega⟩
        rw [upd_ne ncx]
        exact hc
      refine ⟨_, rfl, D, _, rfl, .inl (SqL.of upd_same), rfl, _, rfl, ite2 (fun e => ?_) (fun e => ?_)⟩
      · refine ⟨by show 1 ≤ sizeLine; decide, fun c nc => ?_⟩
        refine ⟨_, rfl, by show 2 ≤ sizeLine; decide, ?_⟩
        exact fin c [0] _ (s2.trans (same_upd nc)) (s2.free nc) upd_same (by decide) (by decide) (by decide)
      · refine ⟨_, rfl, by show 2 ≤ sizeLine; decide, ?_⟩
        refine fin D (zs.map fun z => if z < 0 then -z else z) _ s2 (s1.free nD) upd_same ?_ ?_ ?_
        · have e' := of_decide_eq_false (eq_false_of_ne_true e)
          rw [List.length_map]
          rw [List.length_map, List.length_map] at e'
          rcases Nat.eq_zero_or_pos zs.length with h | h
          · exact absurd (by rw [h]; rfl) e'
          · exact h
        · rw [List.length_map]
          omega
        · intro z hz
          obtain ⟨y, _, rfl⟩ := List.mem_map.mp hz
          split <;> omega
theorem ok_take {f : Addr} {fd : FuncData} (F : Fun K "_law_take" "_law_take" s_law_take f fd) (z_len : mg "len" = none) (z_int : mg "int" = none) : FnOk P w K mg base CX0 1 f fd P_law_take spTake := by
  refine F.ok sc_law_take (fun vs H Q E h => ?_) (fun cdv A outer s H vs Q E hr h => ?_)
  · obtain ⟨a, c, m, rfl, _⟩ := h
    rfl
  · obtain ⟨a, c, m, rfl, ⟨n, cs, ha, hc, hac, h0, h63, hnn, hn⟩, hm1, hm2, q⟩ := h
    have nd := sc_law_take.nd
    refine ⟨_, pss_cons (ps_set (i := 2) nd rfl (.inl rfl) (pe_ix ix_list (pv 0) pe_int (fun _ _ => rfl)))
  (pss_cons (ps_set (i := 3) nd rfl (.inl rfl) (pe_op op_mod (pe_ix ix_list (pv 0) pe_int (fun _ _ => rfl)) (pe_callB call_len_seq (by rfl) z_len (by decide +kernel) (pa_cons (pv 2) pa_nil))))
  (pss_cons (ps_set (i := 4) nd rfl (.inl rfl) (pe_ix ix_list (pv 2) (pv 3) (fun _ _ => rfl)))
  (pss_cons (ps_if (pt_cmpR op_ge (pv 4) pe_int (nomark _))
    (pss_cons (ps_asg (pe_op op_fdiv (pv 4) (pv 1)) (pg_sub (pv 2) (pv 3) set_list))
  (pss_one (ps_ret (pe_op op_mod (pv 4) (pv 1)))))
    (pss_nil))
  (pss_cons (ps_asg (pe_op op_add (pe_ix ix_list (pv 0) pe_int (fun _ _ => rfl)) pe_int) (pg_sub (pv 0) pe_int set_list))
  (pss_cons (ps_set (i := 5) nd rfl (.inl rfl) (pe_op op_mod (pe_callTy call_int1 (by rfl) z_int (by decide +kernel) (pa_cons (pe_op op_add (pe_op op_mul (pv 4) pe_int) (pe_op op_mul (pe_ix ix_list (pv 0) pe_int (fun _ _ => rfl)) pe_int)) pa_nil)) pe_int))
  (pss_cons (ps_set (i := 5) nd rfl (.inl rfl) (pe_op op_mod (pe_callTy call_int1 (by rfl) z_int (by decide +kernel) (pa_cons (pe_op op_add (pe_op op_mul (pv 5) pe_int) (pe_op op_mul (pe_ix ix_list (pv 0) pe_int (fun _ _ => rfl)) pe_int)) pa_nil)) pe_int))
  (pss_one (ps_ret (pe_op op_mod (pe_op op_fdiv (pv 5) pe_int) (pv 1)))))))))), ?_⟩
    have hA : SqL K H a [.int n, .ref c] := SqL.of ha
    have hC : SqL K H c (cs.map V.int) := SqL.of hc
    have hl : (0 : Int) < (((cs.map V.int).length : Nat) : Int) := by rw [List.length_map]; omega
    have e0 : 0 ≤ n % ((cs.map V.int).length : Int) := Int.emod_nonneg _ (by omega)
    have e1 : n % ((cs.map V.int).length : Int) < ((cs.map V.int).length : Int) := Int.emod_lt_of_pos _ hl
    obtain ⟨j, hj⟩ : ∃ j : Nat, n % ((cs.map V.int).length : Int) = (j : Int) := ⟨_, (Int.toNat_of_nonneg e0).symm⟩
    have hjl : j < cs.length := by rw [List.length_map] at e1; rw [List.length_map] at hj; omega
    have gz : (cs.map V.int)[j]? = some (.int cs[j]) := by rw [List.getElem?_map, List.getElem?_eq_getElem hjl]; rfl
    have hz0 : 0 ≤ cs[j] := hnn _ (List.getElem_mem hjl)
    -- cells = state[1]; at = state[0] % len(cells); cell = cells[at]
    refine ⟨.ref a, rfl, a, _, 1, _, rfl, rfl, hA, at2_1, ?_⟩
    refine ⟨.ref a, rfl, a, _, 0, _, rfl, rfl, hA, at2_0, .ref c, rfl, c, _, rfl, .inl hC, _, _, rfl, rfl, hl, ?_⟩
    refine ⟨.ref c, rfl, _, rfl, c, _, _, .int cs[j], rfl, rfl, hC, by rw [hj]; exact atI_nat gz, ?_⟩
    -- if cell >= ..
    refine ⟨_, rfl, _, _, rfl, rfl, _, rfl, ite2 (fun _ => ?_) (fun _ => ?_)⟩
    · refine ⟨_, rfl, _, rfl, cs[j], m, rfl, rfl, ⟨by omega, by omega⟩, .ref c, rfl, _, rfl, c, _, _, j, rfl, rfl, hc, ?_, ?_⟩
      · unfold ixN
        rw [hj, List.length_map, if_pos (by omega), if_pos (by omega)]
        rfl
      · refine ⟨_, rfl, _, rfl, cs[j], m, rfl, rfl, by omega, ?_⟩
        refine q _ _ (Int.emod_nonneg _ (by omega)) (Int.emod_lt_of_pos _ (by omega)) (fun b _ hb => upd_ne hb) ⟨n, cs.set j (cs[j] / m), ?_, ?_, hac, by rw [List.length_set]; exact h0, by rw [List.length_set]; exact h63, ?_, hn⟩
        · rw [upd_ne hac]; exact ha
        · rw [upd_same, List.map_set]
        · intro z hz
          rcases List.mem_or_eq_of_mem_set hz with h | h
          · exact hnn z h
          · rw [h]; exact Int.ediv_nonneg hz0 (by omega)
    · refine ⟨.ref a, rfl, a, _, 0, _, rfl, rfl, hA, at2_0, n, 1, rfl, rfl, .ref a, rfl, a, _, 0, 0, rfl, rfl, ha, rfl, ?_⟩
      have ha' : (upd H a (.lst [.int (n + 1), .ref c])) a = some (.lst [.int (n + 1), .ref c]) := upd_same
      have hA' : SqL K (upd H a (.lst [.int (n + 1), .ref c])) a [.int (n + 1), .ref c] := SqL.of ha'
      refine ⟨_, rfl, cs[j], _, rfl, rfl, .inr ⟨by decide, by decide⟩, .ref a, rfl, a, _, 0, _, rfl, rfl, hA', at2_0, _, _, rfl, rfl, .inr ⟨by decide, by decide⟩, _, _, rfl, rfl, .inl ⟨_, rfl, ?_⟩⟩
      refine ⟨_, _, rfl, rfl, by show (0 : Int) < 2147483647; decide, ?_⟩
      refine ⟨_, rfl, _, _, rfl, rfl, .inr ⟨by decide, by decide⟩, .ref a, rfl, a, _, 0, _, rfl, rfl, hA', at2_0, _, _, rfl, rfl, .inr ⟨by decide, by decide⟩, _, _, rfl, rfl, .inl ⟨_, rfl, ?_⟩⟩
      refine ⟨_, _, rfl, rfl, by show (0 : Int) < 1000000007; decide, ?_⟩
      refine ⟨_, rfl, _, _, rfl, rfl, ⟨by decide, by decide⟩, _, rfl, _, m, rfl, rfl, by omega, ?_⟩
      refine q _ _ (Int.emod_nonneg _ (by omega)) (Int.emod_lt_of_pos _ (by omega)) (fun b hb _ => upd_ne hb) ⟨n + 1, cs, ha', ?_, hac, h0, h63, hnn, by omega⟩
      rw [upd_ne (Ne.symm hac)]
      exact hc
end
abbrev s_law_text : Stmt := topS 43
abbrev N_law_text : List Str := ["state", "most", "k"]
abbrev P_law_text : List Str := ["state", "most"]
theorem sc_law_text : FnScope N_law_text P_law_text (defScope s_law_text) := ⟨rfl, rfl, rfl, by decide +kernel, rfl, by decide +kernel, by decide +kernel⟩
section
variable {P : Program} {w : World} {K : PySem.W.Frag} {mg : Str → Option Value} {base : Heap} {cM cR cU : Addr}
theorem ok_law_text {f : Addr} {fd : FuncData} (F : Fun K "_law_text" "_law_text" s_law_text f fd) (T : Tx K mg cM cR cU)
    (C__law_take : Cal P w K mg base CX0 1 "_law_take" P_law_take spTake) : FnOk P w K mg base CX0 2 f fd P_law_text spText := by
  refine F.ok sc_law_text (fun vs H Q E h => ?_) (fun cdv A outer s H vs Q E hr h => ?_)
  · obtain ⟨_, _, _, rfl, _⟩ := h
    rfl
  · obtain ⟨a, c, m, rfl, s0, hm, q⟩ := h
    have nd := sc_law_text.nd
    refine ⟨_, pss_one (ps_ret (pe_join pe_str (pe_lc (own := [("k", 2)]) (g := gName 2) (tt := tYes) rfl nd (pi_range1 (by rfl) T.range (pa_cons (pe_cal C__law_take hr (pa_cons (pv 0) (pa_cons (pe_op op_add (pv 1) pe_int) pa_nil))) pa_nil)) (blkOk_by (N := N_law_text) (sc := defScope s_law_text) (by decide +kernel)) (fun _ _ _ _ _ => (pg_name (i := 2) nd rfl (Or.inl rfl))) (fun _ _ _ _ _ => pts_nil) (fun _ _ _ _ _ => (pe_ix ix_str pe_str (pe_cal C__law_take hr (pa_cons (pv 0) (pa_cons pe_int pa_nil))) (fun _ _ => rfl)))))), ?_⟩
    refine ⟨⟨_, rfl⟩, .ref a, rfl, _, rfl, _, _, rfl, rfl, a, c, (m : Int) + 1, rfl, s0, by omega, by omega, fun v H1 v0 v1 e1 s1 => ?_⟩
    obtain ⟨n, rfl, hn⟩ := nat_of v0 v1
    refine ⟨_, rfl, by omega, by omega, fun D nD => ?_⟩
    have nDa := s1.ne nD
    have nD0 := (Mv.take s0 s1 e1).free D nD
    show ∃ W : Nat → Nat → Hp → Prop, _
    refine lc_range (lo := 0) (n := n) (fun i H' => ∃ xs : List Nat, xs.length = i ∧ (∀ z ∈ xs, z ∈ drawn) ∧ H' D = some (.lst (xs.map fun c => V.str ⟨#[c]⟩)) ∧ SL H' a c ∧ Mv a c H H')
      ⟨[], rfl, (by simp), upd_same, s1.same (same_upd nD), (Mv.take s0 s1 e1).new nD0⟩ ?_ ?_
    · rintro i H4 hi ⟨xs, lx, hx, hD, s4, m4⟩
      refine ⟨rfl, tyes ⟨_, rfl, a, c, 8, rfl, s4, by decide, by decide, fun v H5 v0 v8 e5 s5 => ?_⟩⟩
      obtain ⟨z, rfl, hz⟩ := nat_of v0 v8
      have hzl : z < drawn.length := by show z < 8; omega
      refine ⟨_, _, drawn[z], rfl, rfl, by decide +kernel, ?_, _, by rw [e5 D nDa.1 nDa.2]; exact hD, ?_, xs ++ [drawn[z]], by simp [lx], ?_, ?_, ?_, ?_⟩
      · rw [drawn_eq]
        exact atI_nat (List.getElem?_eq_getElem hzl)
      · rw [List.length_map, lx]
        exact Nat.lt_of_lt_of_le (show i < 1001 by omega) (by decide)
      · intro y hy
        rcases List.mem_append.mp hy with h | h
        · exact hx y h
        · rw [List.mem_singleton.mp h]
          exact List.getElem_mem hzl
      · rw [upd_same, List.map_append]
        rfl
      · exact s5.eq (upd_ne nDa.1.symm) (upd_ne nDa.2.symm)
      · exact (m4.trans (Mv.take s4 s5 e5)).new nD0
    · rintro H4 ⟨xs, lx, hx, hD, s4, m4⟩
      have et : (xs.map fun c => V.str (⟨#[c]⟩ : Str)) = (xs.map fun c => (⟨#[c]⟩ : Str)).map V.str := by rw [List.map_map]; rfl
      rw [et] at hD
      have tj := join_one xs
      refine ⟨_, D, xs.map fun c => (⟨#[c]⟩ : Str), rfl, rfl, .inl (SqL.of hD), ?_, ?_⟩
      · have := sum_le (fun l : Str => l.length) 1 (xs.map fun c => (⟨#[c]⟩ : Str)) fun x hx => by
          obtain ⟨y, hy, rfl⟩ := List.mem_map.mp hx
          exact Nat.le_refl 1
        have z : (Str.ofString "").length = 0 := by decide +kernel
        rw [z, Nat.mul_zero, Nat.add_zero]
        refine Nat.le_trans this ?_
        rw [List.length_map]
        omega
      · refine q _ H4 ?_ ?_ s4 m4
        · rw [TL.len_tl, tj, lx]; omega
        · intro z hz
          exact hx z (by rw [← tj]; exact hz)
end
def stepN (n c : Nat) : Nat := (n * 257 + c + 1) % 2305843009213693951
def addrNum (j : Nat) (l : List Nat) : Nat := l.foldl stepN (j + 1)
theorem addrNum_lt {j : Nat} (h : j < 3) : ∀ l, addrNum j l < 16 ^ 16 := by
  intro l
  unfold addrNum
  have : ∀ (l : List Nat) (n : Nat), n < 2305843009213693951 → l.foldl stepN n < 2305843009213693951 := by
    intro l
    induction l with
    | nil => intro n h; exact h
    | cons c r ih => intro n h; exact ih _ (Nat.mod_lt _ (by decide))
  exact Nat.lt_trans (this l (j + 1) (by omega)) (by decide)
theorem stepN_int (n c : Nat) : ((n : Int) * 257 + (c : Int) + 1) % 2305843009213693951 = ((stepN n c : Nat) : Int) := by
  unfold stepN
  omega
theorem fold_take {α β : Type} (g : β → α → β) (b : β) (l : List α) (i : Nat) (c : α) (h : l[i]? = some c) : (l.take (i + 1)).foldl g b = g ((l.take i).foldl g b) c := by
  rw [List.take_add_one, h, List.foldl_append]
  rfl
theorem isAddr_hexS (n : Nat) : isAddr (hexS n) = true := by
  unfold isAddr
  rw [Bool.and_eq_true]
  refine ⟨decide_eq_true (hexS_len n), List.all_eq_true.mpr fun c h => decide_eq_true (hx_mem 16 n c ?_)⟩
  simpa [hexS] using h
abbrev s_address_of : Stmt := topS 7
abbrev N_address_of : List Str := ["kind", "text", "number", "character"]
abbrev P_address_of : List Str := ["kind", "text"]
theorem sc_address_of : FnScope N_address_of P_address_of (defScope s_address_of) := ⟨rfl, rfl, rfl, by decide +kernel, rfl, by decide +kernel, by decide +kernel⟩
def spAddr : Sp := fun vs H Q _ => ∃ (k t : Str) (j : Nat), vs = [.str k, .str t] ∧ kinds[j]? = some k ∧ j < 3 ∧ Q (.str (hexS (addrNum j t.cps.toList))) H
theorem kinds_first {j : Nat} {k : Str} (h : kinds[j]? = some k) : ∀ m, m < j → kinds[m]? ≠ some k := by
  have key : ∀ j : Fin 3, ∀ m : Fin 3, m.val < j.val → kinds[m.val]? ≠ kinds[j.val]? := by decide +kernel
  have hj : j < 3 := by
    have := (List.getElem?_eq_some_iff.mp h).1
    simpa [kinds] using this
  intro m hm
  have := key ⟨j, hj⟩ ⟨m, by omega⟩ hm
  rw [← h]
  exact this
section
variable {P : Program} {w : World} {K : PySem.W.Frag} {mg : Str → Option Value} {base : Heap} {cM cR cU : Addr}
theorem ok_address_of {f : Addr} {fd : FuncData} (F : Fun K "address_of" "address_of" s_address_of f fd) (T : Tx K mg cM cR cU) : FnOk P w K mg base CX0 1 f fd P_address_of spAddr := by
  refine F.ok sc_address_of (fun vs H Q E h => ?_) (fun cdv A outer s H vs Q E hr h => ?_)
  · obtain ⟨k, t, j, rfl, _⟩ := h
    rfl
  · obtain ⟨k, t, j, rfl, hj, j3, q⟩ := h
    have nd := sc_address_of.nd
    obtain ⟨kd, cKD, kdo⟩ := T.KINDS
    obtain ⟨tf, cF⟩ := T.FACTOR
    obtain ⟨tm, cM⟩ := T.MODULUS
    refine ⟨_, pss_cons (ps_set (i := 2) nd rfl (.inl rfl) (pe_op op_add (pe_bm PySem.F.plainAttrs_tuple PySem.F.slot_tuple_index PySem.F.type_tuple_index mt_tup_index (pe_glob (v := .ref kd) (by rfl) cKD rfl) (pa_cons (pv 0) pa_nil)) pe_int))
  (pss_cons (ps_for PassesOwn.never rfl (pi_str (pv 1)) (pg_name (i := 3) nd rfl (.inl rfl))
    (pss_one (ps_set (i := 2) nd rfl (.inl rfl) (pe_op op_mod (pe_op op_add (pe_op op_add (pe_op op_mul (pv 2) (pe_glob (v := .int 257) (by rfl) cF ⟨_, rfl⟩)) (pe_callB call_ord (by rfl) T.ord (by decide +kernel) (pa_cons (pv 3) pa_nil))) pe_int) (pe_glob (v := .int 2305843009213693951) (by rfl) cM ⟨_, rfl⟩)))))
  (pss_one (ps_ret (pe_joined1 (pe_hex (pv 2)))))), ?_⟩
    refine ⟨?_, .str k, rfl, kd, kinds, k, j, rfl, rfl, (by obtain ⟨o, its, n, h1, h2, _, h4, h5, h6⟩ := kdo; exact .inr ⟨o, its, n, h1, h2, h4, h5, h6⟩), hj, kinds_first hj, _, _, rfl, rfl, ?_⟩
    · obtain ⟨o, its, n, h1, h2, h3, _⟩ := kdo
      exact .inr (.inl ⟨rfl, o, h1, h2, h3⟩)
    refine ⟨.str t, rfl, t, rfl, ?_⟩
    refine for_it walk_str (fun i σ H' => H' = H ∧ ∃ v, σ = [some (.str k), some (.str t), some (.int (addrNum j (t.cps.toList.take i) : Nat)), v]) ⟨rfl, none, ?_⟩ (fun _ _ _ _ _ => True.intro) ?_ ?_
    · rfl
    · rintro i x σ H1 H2 hi ⟨rfl, v, rfl⟩ ⟨rfl, c, hc, rfl⟩
      refine ⟨_, rfl, _, _, rfl, rfl, .inr ⟨by decide, by decide⟩, _, rfl, ⟨#[c]⟩, rfl, rfl, _, _, rfl, rfl, _, _, rfl, rfl, _, _, rfl, rfl, ?_, rfl, some (.str ⟨#[c]⟩), ?_⟩
      · show (0 : Int) < 2305843009213693951
        decide
      · have hc' : t.cps.toList[i]? = some c := by rw [Array.getElem?_toList]; exact hc
        unfold addrNum
        rw [fold_take stepN _ _ _ _ hc', ← stepN_int]
        rfl
    · rintro σ H1 ⟨rfl, v, rfl⟩
      have e : t.cps.toList.take t.cps.size = t.cps.toList := List.take_of_length_le (by simp)
      rw [e]
      exact ⟨_, rfl, _, rfl, addrNum_lt j3 _, q⟩
end
theorem sl_lst {H : Hp} {a c l : Addr} {xs : List Str} (s : SL H a c) (h : H l = some (.lst (xs.map V.str))) : l ≠ a ∧ l ≠ c := by
  obtain ⟨n, cs, h1, h2, _, h3, _⟩ := s
  constructor
  · refine ne_of h h1 fun z => ?_
    cases xs with
    | nil => cases z
    | cons x r => cases z
  · refine ne_of h h2 fun z => ?_
    cases xs with
    | nil => cases cs with
      | nil => exact absurd h3 (by decide)
      | cons y r' => cases z
    | cons x r => cases cs with
      | nil => exact absurd h3 (by decide)
      | cons y r' => cases z
end LW
namespace LW
open PySem PySem.Spec PyProof.Rows L2 GxR
open TL (tl spl spl_nil spl_hit spl_miss pre)
def Asc (t : Str) : Prop := ∀ c ∈ tl t, c < 1000
theorem spl_sub (c : Nat) : ∀ (l acc : List Nat), ∀ p ∈ spl [c] 0 acc l, ∀ x ∈ p, x ∈ acc ∨ x ∈ l
  | [], acc, p, h, x, hx => by
    rw [spl_nil] at h
    rw [List.mem_singleton.mp h] at hx
    exact .inl hx
  | y :: r, acc, p, h, x, hx => by
    by_cases e : pre [c] (y :: r) = true
    · rw [spl_hit e] at h
      rcases List.mem_cons.mp h with h | h
      · rw [h] at hx; exact .inl hx
      · rcases spl_sub c r [] p h x hx with z | z
        · cases z
        · exact .inr (List.mem_cons_of_mem _ z)
    · rw [spl_miss (eq_false_of_ne_true e)] at h
      rcases spl_sub c r (acc ++ [y]) p h x hx with z | z
      · rcases List.mem_append.mp z with z | z
        · exact .inl z
        · rw [List.mem_singleton.mp z]; exact .inr List.mem_cons_self
      · exact .inr (List.mem_cons_of_mem _ z)
theorem lns_asc {t l : Str} (h : l ∈ lns t) (a : Asc t) : Asc l := fun x hx => by
  have m : tl l ∈ spl [10] 0 [] (tl t) := by rw [← lns_tl]; exact List.mem_map_of_mem h
  rcases spl_sub 10 (tl t) [] _ m x hx with z | z
  · cases z
  · exact a x z
theorem wds_asc {t l : Str} (h : l ∈ wds t) (a : Asc t) : Asc l := fun x hx => by
  have m : tl l ∈ spl [32] 0 [] (tl t) := by rw [← wds_tl]; exact List.mem_map_of_mem h
  rcases spl_sub 32 (tl t) [] _ m x hx with z | z
  · cases z
  · exact a x z
theorem Asc.ok {t : Str} (a : Asc t) : PyData.strOk t = true := by
  unfold PyData.strOk
  rw [← Array.all_toList, List.all_eq_true]
  intro x hx
  have := a x hx
  exact decide_eq_true (by omega)
/-! ### lists as data -/
theorem dp_strs {K : PySem.W.Frag} {H : Hp} : ∀ ls : List Str, DpAll K H (ls.map V.str) (ls.map PyData.str)
  | [] => .nil
  | x :: r => .cons (.str x) (dp_strs r)
theorem lay_strs : ∀ ls : List Str, (∀ x ∈ ls, PyData.strOk x = true) → PyData.canLayAll0 (ls.map PyData.str) = true ∧ PyData.depthAll (ls.map PyData.str) = 0
  | [], _ => ⟨rfl, rfl⟩
  | x :: r, h => by
    have ih := lay_strs r fun y hy => h y (List.mem_cons_of_mem _ hy)
    constructor
    · rw [List.map_cons, PyData.canLayAll0, ih.1, PyData.canLay0, h x List.mem_cons_self]; rfl
    · rw [List.map_cons, PyData.depthAll, ih.2, PyData.depth]; rfl
theorem shaped_strs {ls : List Str} (h : ∀ x ∈ ls, PyData.strOk x = true) : SeqAt.shaped (.list (ls.map PyData.str)) = true := by
  have l := lay_strs ls h
  unfold SeqAt.shaped
  rw [PyData.canLay0, l.1, PyData.depth, l.2]
  rfl
theorem eqv_nil (ls : List Str) : PyData.eqv (.list (ls.map PyData.str)) (.list []) = ls.isEmpty := by
  cases ls with
  | nil => rfl
  | cons x r => rfl
theorem Asc.of_addr {x : Str} (h : isAddr x = true) : Asc x := fun c hc => by
  unfold isAddr at h
  rw [Bool.and_eq_true] at h
  have := of_decide_eq_true (List.all_eq_true.mp h.2 c hc)
  have key : ∀ c ∈ hexDigits, c < 1000 := by decide
  exact key c this
theorem Asc.of_plat {x : Str} (h : isPlat x = true) : Asc x := fun c hc => by
  unfold isPlat at h
  rw [Bool.and_eq_true] at h
  have := of_decide_eq_true (List.all_eq_true.mp h.2 c hc)
  have key : ∀ c ∈ letters, c < 1000 := by decide
  exact key c this
theorem word_asc (b : Bool) : Asc (word b) ∧ (word b).length ≤ 6 ∧ 10 ∉ TL.tl (word b) := by
  cases b
  · exact ⟨show ∀ c ∈ TL.tl (word false), c < 1000 by decide +kernel, by decide +kernel, by decide +kernel⟩
  · exact ⟨show ∀ c ∈ TL.tl (word true), c < 1000 by decide +kernel, by decide +kernel, by decide +kernel⟩
theorem ent_ok {q : Str × Str} (h : isPlat q.1 = true ∧ isAddr q.2 = true) : Asc (ent q) ∧ (ent q).length ≤ 27 ∧ 10 ∉ TL.tl (ent q) := by
  have p := plat_no h.1
  have a := addr_no h.2
  refine ⟨fun c hc => ?_, ?_, fun m => ?_⟩
  · rw [ent_tl] at hc
    rcases List.mem_append.mp hc with z | z
    · exact Asc.of_plat h.1 c z
    · rcases List.mem_cons.mp z with z | z
      · rw [z]; decide
      · exact Asc.of_addr h.2 c z
  · rw [TL.len_tl, ent_tl, List.length_append, List.length_cons, ← TL.len_tl, ← TL.len_tl]
    omega
  · rw [ent_tl] at m
    rcases List.mem_append.mp m with z | z
    · exact p.2.1 z
    · rcases List.mem_cons.mp z with z | z
      · cases z
      · exact a.2.1 z
theorem textOf_asc {ls : List Str} (h : ∀ l ∈ ls, Asc l) : Asc (textOf ls) := fun c hc => by
  rw [textOf_tl] at hc
  obtain ⟨p, hp, hcp⟩ := List.mem_flatten.mp hc
  obtain ⟨r, hr, rfl⟩ := List.mem_map.mp hp
  obtain ⟨l, hl, rfl⟩ := List.mem_map.mp hr
  rcases List.mem_append.mp hcp with z | z
  · exact h l hl c z
  · rw [List.mem_singleton.mp z]; decide

/-! ### blobs -/
abbrev Blb := Str × Str
abbrev Blbs := List (Str × Blb)
def lk : Blbs → Str → Option Blb
  | [], _ => none
  | (b, x) :: r, a => if b = a then some x else lk r a
def setB (B : Blbs) (a : Str) (x : Blb) : Blbs := if a ∈ B.map (·.1) then B.map (fun e => if e.1 = a then (e.1, x) else e) else B ++ [(a, x)]
def dropB (B : Blbs) (a : Str) : Blbs := B.filter fun e => decide (e.1 ≠ a)
theorem lk_mem {B : Blbs} {a : Str} {x : Blb} (h : lk B a = some x) : (a, x) ∈ B := by
  induction B with
  | nil => cases h
  | cons e r ih =>
    obtain ⟨b, y⟩ := e
    unfold lk at h
    by_cases hb : b = a
    · rw [if_pos hb] at h
      cases h
      rw [hb]; exact List.mem_cons_self
    · rw [if_neg hb] at h
      exact List.mem_cons_of_mem _ (ih h)
theorem lk_none {B : Blbs} {a : Str} : lk B a = none ↔ a ∉ B.map (·.1) := by
  induction B with
  | nil => simp [lk]
  | cons e r ih =>
    obtain ⟨b, y⟩ := e
    unfold lk
    by_cases hb : b = a
    · rw [if_pos hb]; simp [hb]
    · rw [if_neg hb, ih, List.map_cons, List.mem_cons, not_or]
      exact ⟨fun h => ⟨fun z => hb z.symm, h⟩, fun h => h.2⟩
/-- the dict at d holds B -/
def EntAt (H : Hp) (kv : Key × V) (e : Str × Blb) : Prop := kv.1 = .inr e.1 ∧ ∃ t, kv.2 = .ref t ∧ H t = some (.tup [.str e.2.1, .str e.2.2])
def DB (H : Hp) (d : Addr) (B : Blbs) : Prop := ∃ kvs, H d = some (.dK kvs) ∧ Paired (EntAt H) kvs B
theorem prd_len {α β : Type} {R : α → β → Prop} {l : List α} {m : List β} (h : Paired R l m) : l.length = m.length := by
  induction h with
  | nil => rfl
  | cons _ _ ih => simp [ih]
theorem prd_imp {α β : Type} {R S : α → β → Prop} (k : ∀ a b, R a b → S a b) {l : List α} {m : List β} (h : Paired R l m) : Paired S l m := by
  induction h with
  | nil => exact .nil
  | cons r _ ih => exact .cons (k _ _ r) ih
theorem EntAt.keep {H H' : Hp} {kv : Key × V} {e : Str × Blb} (h : EntAt H kv e) (k : ∀ t xs, H t = some (.tup xs) → H' t = some (.tup xs)) : EntAt H' kv e := ⟨h.1, let ⟨t, e1, e2⟩ := h.2; ⟨t, e1, k t _ e2⟩⟩
theorem DB.keep {H H' : Hp} {d : Addr} {B : Blbs} (h : DB H d B) (kd : ∀ kvs, H d = some (.dK kvs) → H' d = some (.dK kvs)) (k : ∀ t xs, H t = some (.tup xs) → H' t = some (.tup xs)) : DB H' d B := by
  obtain ⟨kvs, e, p⟩ := h
  exact ⟨kvs, kd _ e, prd_imp (fun _ _ r => r.keep k) p⟩
theorem DB.gr {H H' : Hp} {d : Addr} {B : Blbs} (h : DB H d B) (g : Gr H H') : DB H' d B := h.keep (fun _ e => g.keep d _ e (fun ps z => nomatch z)) fun _ _ e => g.tup e
theorem DB.same {H H' : Hp} {d : Addr} {B : Blbs} (h : DB H d B) (s : Same H H') : DB H' d B := h.gr (.of_same s)
theorem sl_tup {H : Hp} {a c l : Addr} {xs : List V} (s : SL H a c) (h : H l = some (.tup xs)) : l ≠ a ∧ l ≠ c := by
  obtain ⟨n, cs, h1, h2, _, h3, _⟩ := s
  exact ⟨ne_of h h1 (by intro z; cases z), ne_of h h2 (by intro z; cases z)⟩
theorem sl_dk {H : Hp} {a c l : Addr} {kvs : List (Key × V)} (s : SL H a c) (h : H l = some (.dK kvs)) : l ≠ a ∧ l ≠ c := by
  obtain ⟨n, cs, h1, h2, _, h3, _⟩ := s
  exact ⟨ne_of h h1 (by intro z; cases z), ne_of h h2 (by intro z; cases z)⟩
theorem sl_ins {H : Hp} {a c l C dx : Addr} {fs : List (Str × V)} (s : SL H a c) (h : H l = some (.ins C dx fs)) : l ≠ a ∧ l ≠ c := by
  obtain ⟨n, cs, h1, h2, _, h3, _⟩ := s
  exact ⟨ne_of h h1 (by intro z; cases z), ne_of h h2 (by intro z; cases z)⟩
theorem DB.mv {H H' : Hp} {d a c : Addr} {B : Blbs} (h : DB H d B) (s : SL H a c) (m : Mv a c H H') : DB H' d B :=
  h.keep (fun _ e => m.keep d _ (sl_dk s e).1 (sl_dk s e).2 e) fun t _ e => m.keep t _ (sl_tup s e).1 (sl_tup s e).2 e
theorem DB.val {H : Hp} {B : Blbs} {kvs : List (Key × V)} (p : Paired (EntAt H) kvs B) (a : Str) : (lk B a = none ∧ valV kvs (.inr a) = none) ∨ ∃ x t, lk B a = some x ∧ valV kvs (.inr a) = some (.ref t) ∧ H t = some (.tup [.str x.1, .str x.2]) := by
  induction p with
  | nil => exact .inl ⟨rfl, rfl⟩
  | @cons kv e r m h _ ih =>
    obtain ⟨b, x⟩ := e
    obtain ⟨h1, t, h2, h3⟩ := h
    by_cases hb : b = a
    · refine .inr ⟨x, t, ?_, ?_, h3⟩
      · unfold lk; rw [if_pos hb]
      · rw [valV_pos (by rw [h1, hb]), h2]
    · have n1 : ¬ kv.1 = (.inr a : Key) := fun z => hb (by rw [h1] at z; injection z)
      unfold lk
      rw [if_neg hb, valV_neg n1]
      exact ih
theorem keyB_any {H : Hp} {B : Blbs} {kvs : List (Key × V)} (p : Paired (EntAt H) kvs B) (a : Str) : (kvs.any fun kv => decide (kv.1 = (.inr a : Key))) = decide (a ∈ B.map (·.1)) := by
  induction p with
  | nil => rfl
  | @cons kv e r m h _ ih =>
    rw [List.any_cons, ih, h.1, List.map_cons, Bool.eq_iff_iff, Bool.or_eq_true, decide_eq_true_eq, decide_eq_true_eq, decide_eq_true_eq, List.mem_cons]
    exact ⟨fun z => z.elim (fun z => .inl (by injection z with z; exact z.symm)) .inr, fun z => z.elim (fun z => .inl (by rw [z])) .inr⟩
theorem prd_app {α β : Type} {R : α → β → Prop} {l l' : List α} {m m' : List β} (h : Paired R l m) (h' : Paired R l' m') : Paired R (l ++ l') (m ++ m') := by
  induction h with
  | nil => exact h'
  | cons r _ ih => exact .cons r ih
/-- a blob put -/
theorem put_prd {H H' : Hp} {B : Blbs} {kvs : List (Key × V)} {a : Str} {x : Blb} {t : Addr} (p : Paired (EntAt H) kvs B) (k : ∀ t xs, H t = some (.tup xs) → H' t = some (.tup xs)) (ht : H' t = some (.tup [.str x.1, .str x.2])) : Paired (EntAt H') (putK kvs (.inr a) (.ref t)) (setB B a x) := by
  have p' := prd_imp (fun _ _ r => EntAt.keep r k) p
  unfold putK setB
  rw [keyB_any p a]
  by_cases h : a ∈ B.map (·.1)
  · rw [if_pos (decide_eq_true h), if_pos h]
    clear h p
    induction p' with
    | nil => exact .nil
    | @cons kv e r m h _ ih =>
      refine .cons ?_ ih
      dsimp only
      by_cases hb : e.1 = a
      · rw [if_pos (by rw [h.1, hb]), if_pos hb]
        exact ⟨h.1, t, rfl, ht⟩
      · rw [if_neg (fun z => hb (by rw [h.1] at z; injection z)), if_neg hb]
        exact h
  · rw [if_neg (by rw [decide_eq_false h]; exact Bool.false_ne_true), if_neg h]
    exact prd_app p' (.cons ⟨rfl, t, rfl, ht⟩ .nil)
theorem drop_prd {H : Hp} {B : Blbs} {kvs : List (Key × V)} {a : Str} (p : Paired (EntAt H) kvs B) : Paired (EntAt H) (dropK kvs (.inr a)) (dropB B a) := by
  unfold dropK dropB
  induction p with
  | nil => exact .nil
  | @cons kv e r m h _ ih =>
    by_cases hb : e.1 = a
    · rw [List.filter_cons_of_neg (by rw [h.1, hb]; simp), List.filter_cons_of_neg (by simp [hb])]
      exact ih
    · skip
      have c1 : (decide (kv.1 ≠ (Sum.inr a : Key))) = true := by rw [h.1]; exact decide_eq_true fun z => hb (by injection z)
      have c2 : (decide (e.1 ≠ a)) = true := decide_eq_true hb
      rw [List.filter_cons, List.filter_cons, if_pos c1, if_pos c2]
      exact .cons h ih
theorem drop_none {B : Blbs} {a : Str} (h : lk B a = none) : dropB B a = B := by
  unfold dropB
  rw [List.filter_eq_self]
  intro e he
  exact decide_eq_true fun z => lk_none.mp h (List.mem_map.mpr ⟨e, he, z⟩)
theorem keysB {H : Hp} {B : Blbs} {kvs : List (Key × V)} (p : Paired (EntAt H) kvs B) : kvs.map (·.1) = (B.map (·.1)).map Sum.inr := by
  induction p with
  | nil => rfl
  | cons h _ ih => rw [List.map_cons, ih, h.1]; rfl
theorem set_keys {B : Blbs} {a : Str} {x : Blb} : (setB B a x).map (·.1) = if a ∈ B.map (·.1) then B.map (·.1) else B.map (·.1) ++ [a] := by
  unfold setB
  by_cases h : a ∈ B.map (·.1)
  · rw [if_pos h, if_pos h, List.map_map]
    apply List.map_congr_left
    intro e _
    show (if e.1 = a then (e.1, x) else e).1 = e.1
    split <;> rfl
  · rw [if_neg h, if_neg h, List.map_append]; rfl
theorem set_len (B : Blbs) (a : Str) (x : Blb) : (setB B a x).length ≤ B.length + 1 := by
  unfold setB
  split
  · rw [List.length_map]; omega
  · rw [List.length_append]; exact Nat.le_refl _
theorem set_mem {B : Blbs} {a : Str} {x : Blb} {e : Str × Blb} (h : e ∈ setB B a x) : e ∈ B ∨ e = (a, x) := by
  unfold setB at h
  split at h
  · obtain ⟨e0, h0, rfl⟩ := List.mem_map.mp h
    by_cases hb : e0.1 = a
    · rw [if_pos hb]; right; rw [hb]
    · rw [if_neg hb]; exact .inl h0
  · rcases List.mem_append.mp h with h | h
    · exact .inl h
    · exact .inr (List.mem_singleton.mp h)
/-! ### what is below a blob -/
def refsOf (x : Blb) : List Str := if x.1 = "image" then mid (lns x.2) else if x.1 = "bundle" then (mid (lns x.2)).map adr else []
/-- a blob as the law makes them -/
def Good (x : Blb) : Prop := x.2.length ≤ 5000 ∧ Asc x.2 ∧ (x.1 = "layer" ∨ (x.1 = "image" ∧ faultN false (lns x.2) = none) ∨ (x.1 = "bundle" ∧ faultN true (lns x.2) = none))
def due (k : Str) : Str := if k = "image" then "layer" else if k = "bundle" then "image" else ""
def rk (k : Str) : Nat := if k = "image" then 1 else if k = "bundle" then 2 else 0
theorem fault_ok {b : Bool} {ls : List Str} (h : faultN b ls = none) : ls.length ≤ 52 ∧ ∀ i, i < (mid ls).length → bad b (mid ls) i = false := by
  unfold faultN at h
  cases e : behN (word b) ls with
  | some k => rw [e] at h; cases h
  | none =>
    rw [e] at h
    refine ⟨?_, fun i hi => ?_⟩
    · unfold behN at e
      split at e
      · cases e
      · split at e
        · cases e
        · split at e
          · cases e
          · omega
    · dsimp only at h
      split at h
      · cases h
      · rw [Option.map_eq_none_iff, List.find?_eq_none] at h
        have := h i (List.mem_range.mpr (by rw [← mid_len]; exact hi))
        exact eq_false_of_ne_true this
theorem refs_addr {x : Blb} (g : Good x) : (∀ r ∈ refsOf x, isAddr r = true) ∧ (refsOf x).length ≤ 50 := by
  have getD {l : List Str} {r : Str} (h : r ∈ l) : ∃ i, i < l.length ∧ l.getD i "" = r := by
    obtain ⟨i, hi, e⟩ := List.getElem_of_mem h
    exact ⟨i, hi, by rw [List.getD_eq_getElem?_getD, List.getElem?_eq_getElem hi]; exact e⟩
  rcases g.2.2 with e | ⟨e, f⟩ | ⟨e, f⟩
  · have : refsOf x = [] := by
      unfold refsOf
      rw [e, if_neg (by decide), if_neg (by decide)]
    rw [this]
    exact ⟨(fun r h => by cases h), by decide⟩
  · have : refsOf x = mid (lns x.2) := by
      unfold refsOf
      rw [e, if_pos rfl]
    rw [this]
    obtain ⟨h1, h2⟩ := fault_ok f
    refine ⟨fun r hr => ?_, by rw [mid_len]; omega⟩
    obtain ⟨i, hi, er⟩ := getD hr
    have := h2 i hi
    unfold bad at this
    rw [if_neg Bool.false_ne_true, er] at this
    simpa using this
  · have : refsOf x = (mid (lns x.2)).map adr := by
      unfold refsOf
      rw [e, if_neg (by decide), if_pos rfl]
    rw [this]
    obtain ⟨h1, h2⟩ := fault_ok f
    refine ⟨fun r hr => ?_, by rw [List.length_map, mid_len]; omega⟩
    obtain ⟨l, hl, rfl⟩ := List.mem_map.mp hr
    obtain ⟨i, hi, er⟩ := getD hl
    have := h2 i hi
    unfold bad at this
    rw [if_pos rfl, er, Bool.or_eq_false_iff] at this
    simpa using this.2
/-! ### whole -/
def wholeN : Nat → Blbs → Str → Bool
  | 0, _, _ => false
  | n + 1, B, a => match lk B a with
    | none => false
    | some x => (refsOf x).all fun r => match lk B r with
      | none => false
      | some y => decide (y.1 = due x.1) && wholeN n B r
theorem wholeN_none {n : Nat} {B : Blbs} {a : Str} (h : lk B a = none) : wholeN (n + 1) B a = false := by
  unfold wholeN; rw [h]
theorem wholeN_some {n : Nat} {B : Blbs} {a : Str} {x : Blb} (h : lk B a = some x) : wholeN (n + 1) B a = (refsOf x).all fun r => match lk B r with
      | none => false
      | some y => decide (y.1 = due x.1) && wholeN n B r := by
  conv => lhs; unfold wholeN
  rw [h]
theorem refs_layer {x : Blb} (h : rk x.1 = 0) : refsOf x = [] := by
  unfold rk at h
  unfold refsOf
  split at h
  · cases h
  · split at h
    · cases h
    · rename_i h1 h2
      rw [if_neg h1, if_neg h2]
/-! ### what is gathered -/
def gat : Nat → Blbs → Str → List Str → List Str
  | 0, _, _, F => F
  | n + 1, B, a, F => if a ∈ F then F else match lk B a with
    | none => F
    | some x => (refsOf x).foldl (fun F r => gat n B r F) (F ++ [a])
def clo : Nat → Blbs → Str → List Str
  | 0, _, _ => []
  | n + 1, B, a => match lk B a with
    | none => [a]
    | some x => (refsOf x).foldl (fun F r => F ++ (clo n B r).filter fun y => decide (y ∉ F)) [a]
def cap : Nat → Nat
  | 0 => 0
  | n + 1 => 1 + 50 * cap n
end LW
namespace LW
open PySem PySem.Spec PyProof.Rows L2 GxR
/-- a store at o whose dict is d -/
def StO (C : Addr) (H : Hp) (o d : Addr) : Prop := ∃ dx, H o = some (.ins C dx [("_blobs", .ref d)])
theorem look_b (d : Addr) : ([(("_blobs" : Str), V.ref d)] : List (Str × V)).lookup ("_blobs" : Str) = some (V.ref d) := rfl
theorem StO.gr {C : Addr} {H H' : Hp} {o d : Addr} (s : StO C H o d) (g : Gr H H') : StO C H' o d := let ⟨dx, e⟩ := s; ⟨dx, g.keep o _ e (fun ps z => nomatch z)⟩
/-- a store that holds B -/
structure Sto (C : Addr) (H : Hp) (o d : Addr) (B : Blbs) : Prop where
  ob : StO C H o d
  db : DB H d B
theorem Sto.gr {C : Addr} {H H' : Hp} {o d : Addr} {B : Blbs} (s : Sto C H o d B) (g : Gr H H') : Sto C H' o d B := ⟨s.ob.gr g, s.db.gr g⟩
theorem Sto.mv {C : Addr} {H H' : Hp} {o d a c : Addr} {B : Blbs} (s : Sto C H o d B) (l : SL H a c) (m : Mv a c H H') : Sto C H' o d B :=
  ⟨let ⟨dx, e⟩ := s.ob; ⟨dx, m.keep o _ (sl_ins l e).1 (sl_ins l e).2 e⟩, s.db.mv l m⟩
abbrev cStore : Stmt := topS 33
abbrev s_Store___init : Stmt := inClass (topS 33) 0
abbrev N_Store___init : List Str := ["self"]
abbrev P_Store___init : List Str := ["self"]
theorem sc_Store___init : FnScope N_Store___init P_Store___init (defScope s_Store___init) := ⟨rfl, rfl, rfl, by decide +kernel, rfl, by decide +kernel, by decide +kernel⟩
def sp_Store___init (C : Addr) : Sp := fun vs H Q _ => ∃ (o dx : Addr), vs = [.ref o] ∧ H o = some (.ins C dx []) ∧ ∀ d, H d = none → Q .non (L2.upd (L2.upd H d (.dK [])) o (.ins C dx [("_blobs", .ref d)]))
abbrev s_Store_keep : Stmt := inClass (topS 33) 1
abbrev N_Store_keep : List Str := ["self", "kind", "text", "address"]
abbrev P_Store_keep : List Str := ["self", "kind", "text"]
theorem sc_Store_keep : FnScope N_Store_keep P_Store_keep (defScope s_Store_keep) := ⟨rfl, rfl, rfl, by decide +kernel, rfl, by decide +kernel, by decide +kernel⟩
/-- the address of a text of the kind j -/
def adOf (j : Nat) (t : Str) : Str := hexS (addrNum j t.cps.toList)
def sp_Store_keep (C : Addr) : Sp := fun vs H Q _ => ∃ (o d : Addr) (B : Blbs) (k t : Str) (j : Nat), vs = [.ref o, .str k, .str t] ∧ Sto C H o d B ∧ B.length < 1000 ∧ kinds[j]? = some k ∧ j < 3 ∧
  ∀ H', Sto C H' o d (setB B (adOf j t) (k, t)) → Kp (fun b => b = d) H H' → Q (.str (adOf j t)) H'
abbrev s_Store_blob : Stmt := inClass (topS 33) 2
abbrev N_Store_blob : List Str := ["self", "address"]
abbrev P_Store_blob : List Str := ["self", "address"]
theorem sc_Store_blob : FnScope N_Store_blob P_Store_blob (defScope s_Store_blob) := ⟨rfl, rfl, rfl, by decide +kernel, rfl, by decide +kernel, by decide +kernel⟩
/-- what a dict of blobs gives for an address -/
def Got (H : Hp) (B : Blbs) (a : Str) (v : V) : Prop := (lk B a = none ∧ v = .non) ∨ ∃ x t, lk B a = some x ∧ v = .ref t ∧ H t = some (.tup [.str x.1, .str x.2])
def sp_Store_blob (C : Addr) : Sp := fun vs H Q _ => ∃ (o d : Addr) (B : Blbs) (a : Str), vs = [.ref o, .str a] ∧ Sto C H o d B ∧ ∀ v, Got H B a v → Q v H
abbrev N_Store_remove_blob : List Str := ["self", "address"]
abbrev P_Store_remove_blob : List Str := ["self", "address"]
def sp_Store_remove_blob (C : Addr) : Sp := fun vs H Q _ => ∃ (o d : Addr) (B : Blbs) (a : Str), vs = [.ref o, .str a] ∧ Sto C H o d B ∧ ∀ H', Sto C H' o d (dropB B a) → Kp (fun b => b = d) H H' → Q .non H'
abbrev s_Store_addresses : Stmt := inClass (topS 33) 4
abbrev N_Store_addresses : List Str := ["self"]
abbrev P_Store_addresses : List Str := ["self"]
theorem sc_Store_addresses : FnScope N_Store_addresses P_Store_addresses (defScope s_Store_addresses) := ⟨rfl, rfl, rfl, by decide +kernel, rfl, by decide +kernel, by decide +kernel⟩
def sp_Store_addresses (C : Addr) : Sp := fun vs H Q _ => ∃ (o d : Addr) (B : Blbs), vs = [.ref o] ∧ Sto C H o d B ∧ ∀ (ys : List Str) p, ys.Perm (B.map (·.1)) → sortedS ys = true → H p = none → Q (.ref p) (L2.upd H p (.lst (ys.map V.str)))
abbrev s_Store_below : Stmt := inClass (topS 33) 5
abbrev N_Store_below : List Str := ["self", "address", "kind", "text"]
abbrev P_Store_below : List Str := ["self", "address"]
theorem sc_Store_below : FnScope N_Store_below P_Store_below (defScope s_Store_below) := ⟨rfl, rfl, rfl, by decide +kernel, rfl, by decide +kernel, by decide +kernel⟩
def sp_Store_below (C B1 B2 : Addr) : Sp := fun vs H Q _ => ∃ (o d : Addr) (B : Blbs) (a : Str) (x : Blb), vs = [.ref o, .str a] ∧ Sto C H o d B ∧ lk B a = some x ∧ Good x ∧ TabG H B1 ∧ TabG H B2 ∧
  ∀ p H', H p = none → Gr H H' → H' p = some (.lst ((refsOf x).map V.str)) → Q (.ref p) H'
theorem DB.get {H : Hp} {d : Addr} {B : Blbs} (h : DB H d B) {a : Str} {x : Blb} (e : lk B a = some x) : ∃ t, DGet H d (.str a) (some (.ref t)) ∧ H t = some (.tup [.str x.1, .str x.2]) := by
  obtain ⟨kvs, hd, p⟩ := h
  rcases DB.val p a with ⟨n, _⟩ | ⟨y, t, e1, e2, e3⟩
  · rw [e] at n; cases n
  · rw [e] at e1; cases e1
    exact ⟨t, by rw [← e2]; exact DGet.k (k := .inr a) hd, e3⟩
theorem DB.isIn {H : Hp} {d : Addr} {B : Blbs} (h : DB H d B) (a : Str) : ∃ o, DGet H d (.str a) o ∧ o.isSome = (lk B a).isSome := by
  obtain ⟨kvs, hd, p⟩ := h
  refine ⟨_, DGet.k (k := .inr a) hd, ?_⟩
  rcases DB.val p a with ⟨n, n'⟩ | ⟨y, t, e1, e2, e3⟩
  · rw [n, n']; rfl
  · rw [e1, e2]; rfl
theorem DB.got {H : Hp} {d : Addr} {B : Blbs} (h : DB H d B) (a : Str) : ∃ o, DGet H d (.str a) o ∧ Got H B a (o.getD .non) := by
  obtain ⟨kvs, hd, p⟩ := h
  refine ⟨_, DGet.k (k := .inr a) hd, ?_⟩
  rcases DB.val p a with ⟨n, n'⟩ | ⟨y, t, e1, e2, e3⟩
  · rw [n']; exact .inl ⟨n, rfl⟩
  · rw [e2]; exact .inr ⟨y, t, e1, rfl, e3⟩
theorem DB.isD {H : Hp} {d : Addr} {B : Blbs} (h : DB H d B) : IsD H d := by
  obtain ⟨kvs, hd, p⟩ := h
  exact .inl ⟨_, .inl hd⟩
section
variable {P : Program} {w : World} {K : PySem.W.Frag} {mg : Str → Option Value} {base : Heap} {cM cR cU B1 B2 : Addr}
theorem ok_Store___init {f : Addr} {fd : FuncData} (F : Fun K "__init__" "Store.__init__" s_Store___init f fd) (T : Tx K mg cM cR cU) : FnOk P w K mg base CX0 1 f fd P_Store___init (sp_Store___init cU) := by
  refine F.ok sc_Store___init (fun vs H Q E h => ?_) (fun cdv A outer s H vs Q E hr h => ?_)
  · obtain ⟨_, _, rfl, _⟩ := h
    rfl
  · obtain ⟨o, dx, rfl, ho, q⟩ := h
    have nd := sc_Store___init.nd
    refine ⟨_, pss_one (ps_fld (pv 0) pe_dnewK rfl), ?_⟩
    refine fun d nd => ⟨_, rfl, o, cU, dx, [], rfl, ?_, T.sC, T.nB, by decide, q d nd⟩
    rw [upd_ne (ne_of_none ho nd)]; exact ho
theorem ok_Store_keep {f : Addr} {fd : FuncData} (F : Fun K "keep" "Store.keep" s_Store_keep f fd) (T : Tx K mg cM cR cU)
    (C_address_of : Cal P w K mg base CX0 1 "address_of" P_address_of spAddr) : FnOk P w K mg base CX0 2 f fd P_Store_keep (sp_Store_keep cU) := by
  refine F.ok sc_Store_keep (fun vs H Q E h => ?_) (fun cdv A outer s H vs Q E hr h => ?_)
  · obtain ⟨_, _, _, _, _, _, rfl, _⟩ := h
    rfl
  · obtain ⟨o, d, B, k, t, j, rfl, S, hl, hj, j3, q⟩ := h
    have nd := sc_Store_keep.nd
    have hu := hu_of hr
    refine ⟨_, pss_cons (ps_set (i := 3) nd rfl (Or.inl rfl) (pe_cal C_address_of hr (pa_cons (pv 1) (pa_cons (pv 2) pa_nil))))
  (pss_cons (ps_dput hu (pe_fld (pv 0) rfl) (pv 3) (pe_tup (pa_cons (pv 1) (pa_cons (pv 2) pa_nil))) rfl)
  (pss_one (ps_ret (pv 3)))), ?_⟩
    obtain ⟨dx, ho⟩ := S.ob
    obtain ⟨kvs, hd, pr⟩ := S.db
    have od : o ≠ d := ne_of ho hd (by intro z; cases z)
    refine ⟨_, rfl, _, rfl, k, t, j, rfl, hj, j3, _, rfl, _, rfl, (by show 2 ≤ sizeLine; decide), fun p np => ?_⟩
    have ho' : (L2.upd H p (.tup [.str k, .str t])) o = some (.ins cU dx [("_blobs", .ref d)]) := by rw [upd_ne (ne_of_none ho np)]; exact ho
    have hd' : (L2.upd H p (.tup [.str k, .str t])) d = some (.dK kvs) := by rw [upd_ne (ne_of_none hd np)]; exact hd
    have ln := prd_len pr
    refine ⟨_, rfl, o, cU, dx, _, _, rfl, ho', T.sC, T.nB, look_b _, _, rfl, d, _, rfl, DPut.k (k := .inr (adOf j t)) hd' ?_, ?_⟩
    · rw [ln, sizeLine_eq]; omega
    · refine ⟨_, rfl, q _ ⟨⟨dx, ?_⟩, _, upd_same, ?_⟩ (((Kp.refl _ H).new np).put rfl (by rw [hd']; exact fun z => by cases z))⟩
      · rw [upd_ne od]; exact ho'
      · have dp : p ≠ d := (ne_of_none hd np).symm
        refine put_prd pr (fun t0 xs e => ?_) ?_
        · rw [upd_ne (ne_of e hd (by intro z; cases z)), upd_ne (ne_of_none e np)]; exact e
        · rw [upd_ne dp, upd_same]
theorem ok_Store_blob {f : Addr} {fd : FuncData} (F : Fun K "blob" "Store.blob" s_Store_blob f fd) (T : Tx K mg cM cR cU) : FnOk P w K mg base CX0 1 f fd P_Store_blob (sp_Store_blob cU) := by
  refine F.ok sc_Store_blob (fun vs H Q E h => ?_) (fun cdv A outer s H vs Q E hr h => ?_)
  · obtain ⟨_, _, _, _, rfl, _⟩ := h
    rfl
  · obtain ⟨o, d, B, a, rfl, S, q⟩ := h
    have nd := sc_Store_blob.nd
    have hu := hu_of hr
    refine ⟨_, pss_one (ps_ret (pe_dget1 hu (pe_fld (pv 0) rfl) (pv 1) ⟨rfl, rfl, rfl, rfl⟩)), ?_⟩
    obtain ⟨dx, ho⟩ := S.ob
    obtain ⟨ov, g, gv⟩ := S.db.got a
    exact ⟨_, rfl, o, cU, dx, _, _, rfl, ho, T.sC, T.nB, look_b _, d, rfl, S.db.isD, _, rfl, ov, g, q _ gv⟩
theorem ok_Store_addresses {f : Addr} {fd : FuncData} (F : Fun K "addresses" "Store.addresses" s_Store_addresses f fd) (T : Tx K mg cM cR cU) : FnOk P w K mg base CX0 1 f fd P_Store_addresses (sp_Store_addresses cU) := by
  refine F.ok sc_Store_addresses (fun vs H Q E h => ?_) (fun cdv A outer s H vs Q E hr h => ?_)
  · obtain ⟨_, _, _, rfl, _⟩ := h
    rfl
  · obtain ⟨o, d, B, rfl, S, q⟩ := h
    have nd := sc_Store_addresses.nd
    refine ⟨_, pss_one (ps_ret (pe_callB (cr_sortedDL rfl) (by rfl) T.sor (by decide +kernel) (pa_cons (pe_fld (pv 0) rfl) pa_nil))), ?_⟩
    obtain ⟨dx, ho⟩ := S.ob
    obtain ⟨kvs, hd, pr⟩ := S.db
    exact ⟨_, rfl, o, cU, dx, _, _, rfl, ho, T.sC, T.nB, look_b _, d, kvs, B.map (·.1), rfl, hd, keysB pr, q⟩
theorem ok_Store_below {f : Addr} {fd : FuncData} (F : Fun K "below" "Store.below" s_Store_below f fd) (T : Tx K mg cM cR cU)
    (C_references : Cal P w K mg base CX0 5 "references" P_references (spRefs B1 B2)) : FnOk P w K mg base CX0 6 f fd P_Store_below (sp_Store_below cU B1 B2) := by
  refine F.ok sc_Store_below (fun vs H Q E h => ?_) (fun cdv A outer s H vs Q E hr h => ?_)
  · obtain ⟨_, _, _, _, _, rfl, _⟩ := h
    rfl
  · obtain ⟨o, d, B, a, x, rfl, S, hx, hg, t1, t2, q⟩ := h
    have nd := sc_Store_below.nd
    have hu := hu_of hr
    refine ⟨_, pss_cons (ps_asg (pe_dget hu (pe_fld (pv 0) rfl) (pv 1) (fun _ _ => rfl)) (pg_tup rfl (pgs_cons (pg_name (i := 2) nd rfl (Or.inl rfl)) (pgs_cons (pg_name (i := 3) nd rfl (Or.inl rfl)) pgs_nil))))
  (pss_one (ps_ret (pe_cal C_references hr (pa_cons (pv 2) (pa_cons (pv 3) pa_nil))))), ?_⟩
    obtain ⟨dx, ho⟩ := S.ob
    obtain ⟨t, g, ht⟩ := S.db.get hx
    refine ⟨_, rfl, o, cU, dx, _, _, rfl, ho, T.sC, T.nB, look_b _, _, rfl, d, _, rfl, g, t, [.str x.1, .str x.2], rfl, SqT.of ht, rfl, _, _, rfl, _, _, rfl, rfl, ?_⟩
    refine ⟨_, rfl, _, rfl, x.1, x.2, refsOf x, rfl, hg.1, t1, t2, ?_, q⟩
    unfold refsOf
    rcases hg.2.2 with e | ⟨e, f⟩ | ⟨e, f⟩
    · rw [e]
      exact .inr (.inr ⟨by decide, by decide, by rw [if_neg (by decide), if_neg (by decide)]⟩)
    · exact .inl ⟨e, f, by rw [if_pos e]⟩
    · exact .inr (.inl ⟨e, f, by rw [e, if_neg (by decide), if_pos rfl]⟩)
end
end LW
namespace LW
open PySem PySem.Spec PyProof.Rows L2 GxR
/-- the store at o with its dict at d holds good blobs B; the tables of is_address and _is_platform -/
structure At (C B1 B2 : Addr) (H : Hp) (o d : Addr) (B : Blbs) : Prop where
  st : Sto C H o d B
  good : ∀ e ∈ B, Good e.2
  t1 : TabG H B1
  t2 : TabG H B2
theorem At.gr {C B1 B2 : Addr} {H H' : Hp} {o d : Addr} {B : Blbs} (s : At C B1 B2 H o d B) (g : Gr H H') : At C B1 B2 H' o d B := ⟨s.st.gr g, s.good, g.tab _ s.t1, g.tab _ s.t2⟩
theorem At.of {C B1 B2 : Addr} {H : Hp} {o d : Addr} {B : Blbs} (s : At C B1 B2 H o d B) {a : Str} {x : Blb} (h : lk B a = some x) : Good x := s.good _ (lk_mem h)
/-- there, and so is all below it, within n steps -/
def dn : Nat → Blbs → Str → Bool
  | 0, _, _ => false
  | n + 1, B, a => match lk B a with
    | none => false
    | some x => (refsOf x).all fun r => dn n B r
theorem dn_none {n : Nat} {B : Blbs} {a : Str} (h : lk B a = none) : dn (n + 1) B a = false := by
  unfold dn; rw [h]
theorem dn_some {n : Nat} {B : Blbs} {a : Str} {x : Blb} (h : lk B a = some x) : dn (n + 1) B a = (refsOf x).all fun r => dn n B r := by
  conv => lhs; unfold dn
  rw [h]
end LW
namespace LW
open PySem PySem.Spec PyProof.Rows L2 GxR
def inn (ks : List Str) : List (Key × V) := ks.map fun x => (Sum.inr x, V.bl true)
/-- a key put into an inner dict -/
def kadd (ks : List Str) (x : Str) : List Str := if x ∈ ks then ks else ks ++ [x]
theorem inn_put (ks : List Str) (x : Str) : putK (inn ks) (.inr x) (.bl true) = inn (kadd ks x) := by
  have any : ((inn ks).any fun kv => decide (kv.1 = .inr x)) = decide (x ∈ ks) := by
    rw [Bool.eq_iff_iff, List.any_eq_true, decide_eq_true_eq]
    constructor
    · rintro ⟨kv, h, e⟩
      obtain ⟨y, hy, rfl⟩ := List.mem_map.mp h
      have e := of_decide_eq_true e
      have : y = x := by injection e
      rw [← this]; exact hy
    · intro h
      exact ⟨_, List.mem_map.mpr ⟨x, h, rfl⟩, decide_eq_true rfl⟩
  unfold putK kadd
  rw [any]
  by_cases h : x ∈ ks
  · rw [if_pos (decide_eq_true h), if_pos h, inn, List.map_map]
    apply List.map_congr_left
    intro y _
    show (if (Sum.inr y : Key) = Sum.inr x then ((Sum.inr y : Key), V.bl true) else (Sum.inr y, V.bl true)) = _
    split <;> rfl
  · rw [if_neg (by rw [decide_eq_false h]; exact Bool.false_ne_true), if_neg h, inn, inn, List.map_append]
    rfl

theorem inn_val (ks : List Str) (a : Str) : (valV (inn ks) (.inr a)).isSome = decide (a ∈ ks) := by
  rw [← valV_any, Bool.eq_iff_iff, List.any_eq_true, decide_eq_true_eq]
  constructor
  · rintro ⟨kv, h, e⟩
    obtain ⟨y, hy, rfl⟩ := List.mem_map.mp h
    have e := of_decide_eq_true e
    have : y = a := by injection e
    rw [← this]; exact hy
  · intro h
    exact ⟨_, List.mem_map.mpr ⟨a, h, rfl⟩, decide_eq_true rfl⟩
/-- all is kept but tables of code and what stands at f -/
structure GrF (f : Addr) (H H' : Hp) : Prop where
  keep : ∀ b o, b ≠ f → H b = some o → (∀ ps, o ≠ .tbl ps) → H' b = some o
  tab : ∀ b, b ≠ f → TabG H b → TabG H' b
  free : ∀ b, H' b = none → H b = none
theorem GrF.refl (f : Addr) (H : Hp) : GrF f H H := ⟨fun _ _ _ e _ => e, fun _ _ t => t, fun _ n => n⟩
theorem GrF.trans {f : Addr} {H H1 H2 : Hp} (g : GrF f H H1) (h : GrF f H1 H2) : GrF f H H2 := ⟨fun b o n e t => h.keep b o n (g.keep b o n e t) t, fun b n t => h.tab b n (g.tab b n t), fun b n => g.free b (h.free b n)⟩
theorem GrF.of {f : Addr} {H H' : Hp} (g : Gr H H') : GrF f H H' := ⟨fun b o _ e t => g.keep b o e t, fun b _ t => g.tab b t, g.free⟩
theorem GrF.put {f : Addr} {H : Hp} {o u : HO} (h : H f = some u) : GrF f H (L2.upd H f o) := ⟨fun b x n e _ => by rw [upd_ne n]; exact e, fun b n t => tab_eq t (upd_ne n), fun b n => by
  by_cases e : b = f
  · rw [e, upd_same] at n; cases n
  · rw [upd_ne e] at n; exact n⟩
theorem GrF.new {f : Addr} {H H' : Hp} {o : HO} (h : H f = none) (g : GrF f (L2.upd H f o) H') : Gr H H' := ⟨fun b x e t => g.keep b x (ne_of_none e h) (by rw [upd_ne (ne_of_none e h)]; exact e) t, fun b t => by
  have n : b ≠ f := by
    obtain ⟨ps, e, _⟩ := t
    exact ne_of_none e h
  exact g.tab b n (tab_eq t (upd_ne n)), fun b n => by
  have := g.free b n
  by_cases e : b = f
  · rw [e]; exact h
  · rw [upd_ne e] at this; exact this⟩
theorem At.grF {C B1 B2 f : Addr} {H H' : Hp} {o d : Addr} {B : Blbs} {kvs : List (Key × V)} (s : At C B1 B2 H o d B) (hf : H f = some (.dK kvs)) (n : d ≠ f) (g : GrF f H H') : At C B1 B2 H' o d B := by
  have tb : ∀ {b}, TabG H b → TabG H' b := fun {b} t => g.tab b (by
    obtain ⟨ps, e, _⟩ := t
    exact ne_of e hf (by intro z; cases z)) t
  refine ⟨⟨?_, s.st.db.keep (fun kv e => g.keep d _ n e (fun ps z => nomatch z)) fun t xs e => g.keep t _ (ne_of e hf (by intro z; cases z)) e (fun ps z => nomatch z)⟩, s.good, tb s.t1, tb s.t2⟩
  obtain ⟨dx, e⟩ := s.st.ob
  exact ⟨dx, g.keep o _ (ne_of e hf (by intro z; cases z)) e (fun ps z => nomatch z)⟩
theorem gat_len {B : Blbs} (g : ∀ e ∈ B, Good e.2) : ∀ (n : Nat) (a : Str) (F : List Str), (gat n B a F).length ≤ F.length + cap n := by
  intro n
  induction n with
  | zero => intro a F; exact Nat.le_refl _
  | succ n ih =>
    intro a F
    unfold gat
    split
    · omega
    · split
      · omega
      · rename_i x hx
        have hl := (refs_addr (g _ (lk_mem hx))).2
        have : ∀ (l : List Str) (F : List Str), (l.foldl (fun F r => gat n B r F) F).length ≤ F.length + l.length * cap n := by
          intro l
          induction l with
          | nil => intro F; simp
          | cons z r ih2 =>
            intro F
            rw [List.foldl_cons, List.length_cons, Nat.succ_mul]
            have h1 := ih2 (gat n B z F)
            have h2 := ih z F
            omega
        have h1 := this (refsOf x) (F ++ [a])
        rw [List.length_append, List.length_singleton] at h1
        have h2 : (refsOf x).length * cap n ≤ 50 * cap n := Nat.mul_le_mul_right _ hl
        show _ ≤ F.length + (1 + 50 * cap n)
        omega
abbrev s_Store__gather : Stmt := inClass (topS 33) 9
abbrev N_Store__gather : List Str := ["self", "address", "found", "reference"]
abbrev P_Store__gather : List Str := ["self", "address", "found"]
theorem sc_Store__gather : FnScope N_Store__gather P_Store__gather (defScope s_Store__gather) := ⟨rfl, rfl, rfl, by decide +kernel, rfl, by decide +kernel, by decide +kernel⟩
def sp_gather (C B1 B2 : Addr) (r : Nat) : Sp := fun vs H Q _ => ∃ (o d f : Addr) (B : Blbs) (a : Str) (F : List Str), vs = [.ref o, .str a, .ref f] ∧ At C B1 B2 H o d B ∧ H f = some (.dK (inn F)) ∧ d ≠ f ∧ dn r B a = true ∧ F.length + cap r ≤ 200000 ∧
  ∀ H', GrF f H H' → H' f = some (.dK (inn (gat r B a F))) → Q .non H'
abbrev s_Store_closure : Stmt := inClass (topS 33) 8
abbrev N_Store_closure : List Str := ["self", "address", "found"]
abbrev P_Store_closure : List Str := ["self", "address"]
theorem sc_Store_closure : FnScope N_Store_closure P_Store_closure (defScope s_Store_closure) := ⟨rfl, rfl, rfl, by decide +kernel, rfl, by decide +kernel, by decide +kernel⟩
def sp_closure (C B1 B2 : Addr) : Sp := fun vs H Q _ => ∃ (o d : Addr) (B : Blbs) (a : Str), vs = [.ref o, .str a] ∧ At C B1 B2 H o d B ∧ dn 4 B a = true ∧ ∀ p H', H p = none → Gr H H' → H' p = some (.lst ((gat 4 B a []).map V.str)) → Q (.ref p) H'
theorem rk_lt (k : Str) : rk k < 3 := by
  unfold rk
  split
  · decide
  · split <;> decide
section
variable {P : Program} {w : World} {K : PySem.W.Frag} {mg : Str → Option Value} {base : Heap} {cM cR cU B1 B2 : Addr}
theorem ok_Store__gather {f : Addr} {fd : FuncData} {r L : Nat} (F : Fun K "_gather" "Store._gather" s_Store__gather f fd) (T : Tx K mg cM cR cU)
    (C_below : CalM P w K mg base CX0 6 cU "below" P_Store_below (sp_Store_below cU B1 B2))
    (C_gather : CalM P w K mg base CX0 L cU "_gather" P_Store__gather (sp_gather cU B1 B2 r)) : FnOk P w K mg base CX0 (L + 7) f fd P_Store__gather (sp_gather cU B1 B2 (r + 1)) := by
  refine F.ok sc_Store__gather (fun vs H Q E h => ?_) (fun cdv A outer s H vs Q E hr h => ?_)
  · obtain ⟨_, _, _, _, _, _, rfl, _⟩ := h
    rfl
  · obtain ⟨o, d, f, B, a, F, rfl, S, hf, hdf, hw, hl, q⟩ := h
    have nd := sc_Store__gather.nd
    have hu := hu_of hr
    refine ⟨_, pss_cons (ps_if (pt_cmp (pc_din hu (pv 1) (pv 2)))
    (pss_one (ps_retN))
    (pss_nil))
  (pss_cons (ps_dput hu (pv 2) (pv 1) pe_bl rfl)
  (pss_one (ps_for PassesOwn.never rfl (pi_list (pe_calM (pv 0) C_below hr (pa_cons (pv 1) pa_nil) (by omega))) (pg_name (i := 3) nd rfl (Or.inl rfl))
    (pss_one (ps_expr (pe_calM (pv 0) C_gather hr (pa_cons (pv 3) (pa_cons (pv 2) pa_nil)) (by omega))))))), ?_⟩
    refine ⟨_, rfl, _, rfl, f, _, rfl, DGet.k (k := .inr a) hf, ?_⟩
    rw [inn_val]
    cases ex : lk B a with
    | none => rw [dn_none ex] at hw; cases hw
    | some x =>
    have hg := S.of ex
    rw [dn_some ex] at hw
    have eg : gat (r + 1) B a F = if a ∈ F then F else (refsOf x).foldl (fun F r' => gat r B r' F) (F ++ [a]) := by
      conv => lhs; unfold gat
      rw [ex]
    by_cases ha : a ∈ F
    · refine ⟨_, rfl, ite2 (fun _ => ?_) (fun z => absurd (decide_eq_true ha) z)⟩
      refine q H (GrF.refl f H) ?_
      rw [eg, if_pos ha]; exact hf
    · refine ⟨_, rfl, ite2 (fun z => absurd (of_decide_eq_true z) ha) (fun _ => ?_)⟩
      rw [if_neg ha] at eg
      have ci : cap (r + 1) = 1 + 50 * cap r := rfl
      refine ⟨_, rfl, _, rfl, f, _, rfl, DPut.k (k := .inr a) hf (by rw [inn, List.length_map, sizeLine_eq]; omega), ?_⟩
      rw [inn_put]
      have ek : kadd F a = F ++ [a] := by unfold kadd; rw [if_neg ha]
      rw [ek]
      generalize eH1 : L2.upd H f (.dK (inn (F ++ [a]))) = H1
      have g1 : GrF f H H1 := by rw [← eH1]; exact GrF.put hf
      have hf1 : H1 f = some (.dK (inn (F ++ [a]))) := by rw [← eH1, upd_same]
      have S1 := S.grF hf hdf g1
      obtain ⟨dx, ho⟩ := S1.st.ob
      refine ⟨_, rfl, o, dx, _, rfl, ho, rfl, _, rfl, o, d, B, a, x, rfl, S1.st, ex, hg, S1.t1, S1.t2, fun p H2 np g2 hp => ?_⟩
      have hf2 : H2 f = some (.dK (inn (F ++ [a]))) := g2.keep f _ hf1 (fun ps z => nomatch z)
      have npf : p ≠ f := ne_of hp hf2 (by intro z; cases z)
      have g12 : GrF f H H2 := g1.trans (.of g2)
      have lcap : ∀ i, ((refsOf x).take i).foldl (fun F r' => gat r B r' F) (F ++ [a]) = ((refsOf x).take i).foldl (fun F r' => gat r B r' F) (F ++ [a]) := fun _ => rfl
      have flen : ∀ (l : List Str) (F : List Str), (l.foldl (fun F r' => gat r B r' F) F).length ≤ F.length + l.length * cap r := by
        intro l
        induction l with
        | nil => intro F; simp
        | cons z r' ih2 =>
          intro F
          rw [List.foldl_cons, List.length_cons, Nat.succ_mul]
          have h1 := ih2 (gat r B z F)
          have h2 := gat_len S.good r z F
          omega
      have hl50 := (refs_addr hg).2
      refine ⟨p, rfl, ⟨_, SqL.of hp⟩, ?_⟩
      refine for_it (walk_list (K := K) (a := p) (xs := (refsOf x).map V.str)) (fun i σ H' => GrF f H H' ∧ H' p = some (.lst ((refsOf x).map V.str)) ∧ H' f = some (.dK (inn (((refsOf x).take i).foldl (fun F r' => gat r B r' F) (F ++ [a])))) ∧ ∃ v, σ = [some (.ref o), some (.str a), some (.ref f), v])
        ⟨g12, hp, hf2, none, rfl⟩ (fun _ _ _ _ h => SqL.of h.2.1) ?_ ?_
      · rintro i v σ H3 H4 hi ⟨g, hp3, hf3, v0, rfl⟩ ⟨rfl, hv⟩
        rw [List.getElem?_map] at hv
        cases ez : (refsOf x)[i]? with
        | none => rw [ez] at hv; cases hv
        | some z =>
          rw [ez] at hv
          cases hv
          have hz : z ∈ refsOf x := List.mem_of_getElem? ez
          have hil : i < (refsOf x).length := (List.getElem?_eq_some_iff.mp ez).1
          have ne : refsOf x ≠ [] := fun h => by rw [h] at hz; cases hz
          have hwz := List.all_eq_true.mp hw z hz
          have S3 := S.grF hf hdf g
          obtain ⟨dx3, ho3⟩ := S3.st.ob
          refine ⟨_, rfl, o, dx3, _, rfl, ho3, rfl, _, rfl, _, rfl, o, d, f, B, z, _, rfl, S3, hf3, hdf, hwz, ?_, fun H5 g5 hf5 => ?_⟩
          · have h1 := flen ((refsOf x).take i) (F ++ [a])
            rw [List.length_append, List.length_singleton, List.length_take] at h1
            have h2 : min i (refsOf x).length + 1 ≤ 50 := by omega
            have h3 : (min i (refsOf x).length + 1) * cap r ≤ 50 * cap r := Nat.mul_le_mul_right _ h2
            rw [Nat.succ_mul] at h3
            omega
          · refine ⟨g.trans g5, g5.keep p _ npf hp3 (fun ps z => nomatch z), ?_, _, rfl⟩
            rw [List.take_add_one, ez, List.foldl_append]
            exact hf5
      · rintro σ H3 ⟨g, hp3, hf3, v0, rfl⟩
        refine q H3 g ?_
        rw [eg]
        rw [List.length_map, List.take_length] at hf3
        exact hf3
theorem ok_Store_closure {f : Addr} {fd : FuncData} {L : Nat} (F : Fun K "closure" "Store.closure" s_Store_closure f fd) (T : Tx K mg cM cR cU)
    (C_gather : CalM P w K mg base CX0 L cU "_gather" P_Store__gather (sp_gather cU B1 B2 4)) : FnOk P w K mg base CX0 (L + 1) f fd P_Store_closure (sp_closure cU B1 B2) := by
  refine F.ok sc_Store_closure (fun vs H Q E h => ?_) (fun cdv A outer s H vs Q E hr h => ?_)
  · obtain ⟨_, _, _, _, rfl, _⟩ := h
    rfl
  · obtain ⟨o, d, B, a, rfl, S, hw, q⟩ := h
    have nd := sc_Store_closure.nd
    refine ⟨_, pss_cons (ps_set (i := 2) nd rfl (Or.inl rfl) pe_dnewK)
  (pss_cons (ps_expr (pe_calM (pv 0) C_gather hr (pa_cons (pv 1) (pa_cons (pv 2) pa_nil)) (Nat.le_refl _)))
  (pss_one (ps_ret (pe_callTy (call_listD rfl) (by rfl) T.list (by decide +kernel) (pa_cons (pv 2) pa_nil))))), ?_⟩
    refine fun f nf => ?_
    have g0 : Gr H (L2.upd H f (.dK [])) := (Gr.refl H).upd nf
    have S0 := S.gr g0
    obtain ⟨dx, ho⟩ := S0.st.ob
    have hdf : d ≠ f := by
      obtain ⟨kvs, e, _⟩ := S.st.db
      exact ne_of_none e nf
    refine ⟨_, rfl, o, dx, _, rfl, ho, rfl, _, rfl, _, rfl, o, d, f, B, a, [], rfl, S0, upd_same, hdf, hw, by decide, fun H1 g1 hf1 => ?_⟩
    have g := GrF.new nf g1
    refine ⟨_, rfl, f, _, rfl, .inl hf1, fun p np => q p _ (g.free _ np) (g.upd np) ?_⟩
    rw [upd_same]
    congr 2
    rw [inn, List.map_map]
    rfl
end
end LW
namespace LW
open PySem PySem.Spec PyProof.Rows L2 GxR
structure Tc (K : PySem.W.Frag) (mg : Str → Option Value) (cC : Addr) : Prop where
  IDLE : ∃ u, mg "_IDLE" = some (.str "idle" u)
  set : mg "set" = none
  gC : mg "Collector" = some (.ref cC)
  clC : Cls K cC
  n0 : NoAttr K cC "_store"
  n1 : NoAttr K cC "_waiting"
  n2 : NoAttr K cC "phase"
  n3 : NoAttr K cC "marked"
/-- all is kept but tables of code and what stands at F -/
structure GrS (F : Addr → Prop) (H H' : Hp) : Prop where
  keep : ∀ b o, ¬ F b → H b = some o → (∀ ps, o ≠ .tbl ps) → H' b = some o
  tab : ∀ b, TabG H b → TabG H' b
  free : ∀ b, H' b = none → H b = none
theorem GrS.refl (F : Addr → Prop) (H : Hp) : GrS F H H := ⟨fun _ _ _ e _ => e, fun _ t => t, fun _ n => n⟩
theorem GrS.trans {F : Addr → Prop} {H H1 H2 : Hp} (g : GrS F H H1) (h : GrS F H1 H2) : GrS F H H2 := ⟨fun b o n e t => h.keep b o n (g.keep b o n e t) t, fun b t => h.tab b (g.tab b t), fun b n => g.free b (h.free b n)⟩
theorem GrS.of {F : Addr → Prop} {H H' : Hp} (g : Gr H H') : GrS F H H' := ⟨fun b o _ e t => g.keep b o e t, fun b t => g.tab b t, g.free⟩
theorem GrS.same {F : Addr → Prop} {H H' : Hp} (g : Same H H') : GrS F H H' := .of (.of_same g)
theorem GrS.weak {F G : Addr → Prop} {H H' : Hp} (g : GrS F H H') (h : ∀ b, F b → G b) : GrS G H H' := ⟨fun b o n e t => g.keep b o (fun z => n (h b z)) e t, g.tab, g.free⟩
theorem GrS.put {F : Addr → Prop} {H : Hp} {f : Addr} {o u : HO} (hF : F f) (h : H f = some u) (ht : ∀ ps, u ≠ .tbl ps) : GrS F H (L2.upd H f o) := ⟨fun b x n e _ => by rw [upd_ne (show b ≠ f from fun z => n (z ▸ hF))]; exact e, fun b t => by
  have n : b ≠ f := fun z => by
    obtain ⟨ps, e, _⟩ := t
    rw [z, h] at e
    cases e
    exact ht ps rfl
  exact tab_eq t (upd_ne n), fun b n => by
  by_cases e : b = f
  · rw [e, upd_same] at n; cases n
  · rw [upd_ne e] at n; exact n⟩
theorem GrS.kp {F : Addr → Prop} {H H' : Hp} (k : Kp F H H') (h : ∀ b, F b → ∀ ps, H b ≠ some (.tbl ps)) : GrS F H H' := ⟨fun b o n e _ => k.keep b o n e, fun b t => by
  obtain ⟨ps, e, r⟩ := t
  exact ⟨ps, k.keep b _ (fun z => h b z ps e) e, r⟩, k.free⟩
theorem GrS.mv {a c : Addr} {H H' : Hp} (s : SL H a c) (m : Mv a c H H') : GrS (fun b => b = a ∨ b = c) H H' := ⟨fun b o n e _ => m.keep b o (fun z => n (.inl z)) (fun z => n (.inr z)) e, fun b t => m.tab s t, m.free⟩
/-- the collector: its waiting list, phase, marked dict -/
structure Cs where
  wt : Addr
  mm : Addr
  W : List Str
  ph : Str
  M : List Str
def cfl (o : Addr) (s : Cs) : List (Str × V) := [("_store", .ref o), ("_waiting", .ref s.wt), ("phase", .str s.ph), ("marked", .ref s.mm)]
structure Co (C : Addr) (c o d : Addr) (s : Cs) (H : Hp) : Prop where
  ob : ∃ dx, H c = some (.ins C dx (cfl o s))
  hW : H s.wt = some (.lst (s.W.map V.str))
  hM : H s.mm = some (.dK (inn s.M))
  md : s.mm ≠ d
  len : s.M.length ≤ 100000 ∧ s.W.length ≤ 100000
theorem Co.gr {C c o d : Addr} {s : Cs} {H H' : Hp} (h : Co C c o d s H) (g : Gr H H') : Co C c o d s H' := ⟨let ⟨dx, e⟩ := h.ob; ⟨dx, g.keep _ _ e (fun ps z => nomatch z)⟩, g.lst h.hW, g.keep _ _ h.hM (fun ps z => nomatch z), h.md, h.len⟩
theorem Co.grs {C c o d : Addr} {s : Cs} {H H' : Hp} {F : Addr → Prop} (h : Co C c o d s H) (g : GrS F H H') (n : ¬ F c ∧ ¬ F s.wt ∧ ¬ F s.mm) : Co C c o d s H' := ⟨let ⟨dx, e⟩ := h.ob; ⟨dx, g.keep _ _ n.1 e (fun ps z => nomatch z)⟩, g.keep _ _ n.2.1 h.hW (fun ps z => nomatch z), g.keep _ _ n.2.2 h.hM (fun ps z => nomatch z), h.md, h.len⟩
theorem At.grs {C B1 B2 : Addr} {H H' : Hp} {o d : Addr} {B : Blbs} {F : Addr → Prop} (s : At C B1 B2 H o d B) (g : GrS F H H') (no : ¬ F o) (nd : ¬ F d) (nt : ∀ b xs, H b = some (.tup xs) → ¬ F b) : At C B1 B2 H' o d B := by
  refine ⟨⟨?_, s.st.db.keep (fun kv e => g.keep d _ nd e (fun ps z => nomatch z)) fun t xs e => g.keep t _ (nt t xs e) e (fun ps z => nomatch z)⟩, s.good, g.tab _ s.t1, g.tab _ s.t2⟩
  obtain ⟨dx, e⟩ := s.st.ob
  exact ⟨dx, g.keep o _ no e (fun ps z => nomatch z)⟩
/-- store and collector together -/
structure SC (C U B1 B2 : Addr) (c o d : Addr) (s : Cs) (B : Blbs) (H : Hp) : Prop where
  co : Co C c o d s H
  at_ : At U B1 B2 H o d B
  oc : o ≠ c
def CF (c d : Addr) (s : Cs) (b : Addr) : Prop := b = c ∨ b = s.wt ∨ b = s.mm ∨ b = d
theorem SC.gr {C U B1 B2 c o d : Addr} {s : Cs} {B : Blbs} {H H' : Hp} (h : SC C U B1 B2 c o d s B H) (g : Gr H H') : SC C U B1 B2 c o d s B H' := ⟨h.co.gr g, h.at_.gr g, h.oc⟩
/-- a field of the collector is put -/
theorem SC.fld {C U B1 B2 c o d : Addr} {s s' : Cs} {B : Blbs} {H : Hp} {dx : Addr} (h : SC C U B1 B2 c o d s B H) (hW : H s'.wt = some (.lst (s'.W.map V.str))) (hM : H s'.mm = some (.dK (inn s'.M))) (md : s'.mm ≠ d) (len : s'.M.length ≤ 100000 ∧ s'.W.length ≤ 100000) (F : Addr → Prop) (hF : F c) :
    SC C U B1 B2 c o d s' B (L2.upd H c (.ins C dx (cfl o s'))) ∧ GrS F H (L2.upd H c (.ins C dx (cfl o s'))) := by
  obtain ⟨dx0, e0⟩ := h.co.ob
  have g : GrS F H (L2.upd H c (.ins C dx (cfl o s'))) := .put hF e0 (fun ps z => nomatch z)
  have g1 : GrS (fun b => b = c) H (L2.upd H c (.ins C dx (cfl o s'))) := .put rfl e0 (fun ps z => nomatch z)
  obtain ⟨kvs, hd, _⟩ := h.at_.st.db
  exact ⟨⟨⟨⟨dx, upd_same⟩, by rw [upd_ne (ne_of hW e0 (by intro z; cases z))]; exact hW, by rw [upd_ne (ne_of hM e0 (by intro z; cases z))]; exact hM, md, len⟩,
    h.at_.grs g1 h.oc (ne_of hd e0 (by intro z; cases z)) (fun b xs e => ne_of e e0 (by intro z; cases z)), h.oc⟩, g⟩
abbrev s_Collector_stop : Stmt := inClass (topS 13) 3
abbrev N_Collector_stop : List Str := ["self"]
abbrev P_Collector_stop : List Str := ["self"]
theorem sc_Collector_stop : FnScope N_Collector_stop P_Collector_stop (defScope s_Collector_stop) := ⟨rfl, rfl, rfl, by decide +kernel, rfl, by decide +kernel, by decide +kernel⟩
def sp_Collector_stop (cC cU B1 B2 : Addr) : Sp := fun vs H Q _ => ∃ (c o d : Addr) (s : Cs) (B : Blbs), vs = [.ref c] ∧ SC cC cU B1 B2 c o d s B H ∧ ∀ s' H', SC cC cU B1 B2 c o d s' B H' → s'.W = [] → s'.ph = "idle" → s'.M = [] → GrS (fun b => b = c) H H' → H s'.wt = none → H s'.mm = none → Q .non H'
section
variable {P : Program} {w : World} {K : PySem.W.Frag} {mg : Str → Option Value} {base : Heap} {cM cR cU cC B1 B2 : Addr}
theorem ok_Collector_stop {f : Addr} {fd : FuncData} (F : Fun K "stop" "Collector.stop" s_Collector_stop f fd) (T : Tx K mg cM cR cU) (TC : Tc K mg cC) : FnOk P w K mg base CX0 1 f fd P_Collector_stop (sp_Collector_stop cC cU B1 B2) := by
  refine F.ok sc_Collector_stop (fun vs H Q E h => ?_) (fun cdv A outer s H vs Q E hr h => ?_)
  · obtain ⟨_, _, _, _, _, rfl, _⟩ := h
    rfl
  · obtain ⟨c, o, d, s0, B, rfl, hS, q⟩ := h
    have nd := sc_Collector_stop.nd
    refine ⟨_, pss_cons (ps_fld (pv 0) (pe_gstr TC.IDLE) rfl)
  (pss_cons (ps_fld (pv 0) pe_dnewK rfl)
  (pss_one (ps_fld (pv 0) (pe_lst pa_nil) rfl))), ?_⟩

    obtain ⟨dx, e0⟩ := hS.co.ob
    obtain ⟨S1, g1⟩ := hS.fld (dx := dx) (s' := { s0 with ph := "idle" }) hS.co.hW hS.co.hM hS.co.md hS.co.len (fun b => b = c) rfl
    refine ⟨_, rfl, c, cC, dx, _, rfl, e0, TC.clC, TC.n2, (by show 4 < 1000; decide), ?_⟩
    rw [show putF "phase" (.str "idle") (cfl o s0) = cfl o { s0 with ph := "idle" } from rfl]
    have e1 : (L2.upd H c (.ins cC dx (cfl o { s0 with ph := "idle" }))) c = _ := upd_same
    generalize L2.upd H c (.ins cC dx (cfl o { s0 with ph := "idle" })) = H1 at S1 g1 e1
    refine fun mk nm => ?_
    have S2 := S1.gr (.of_same (same_upd nm (o := .dK [])))
    have e2 := same_upd nm (o := .dK []) _ _ e1
    obtain ⟨kvs, hd, _⟩ := S1.at_.st.db
    obtain ⟨S3, g3⟩ := S2.fld (dx := dx) (s' := { s0 with ph := "idle", mm := mk, M := [] }) S2.co.hW upd_same (ne_of_none hd nm).symm ⟨Nat.zero_le _, hS.co.len.2⟩ (fun b => b = c) rfl
    refine ⟨_, rfl, c, cC, dx, _, rfl, e2, TC.clC, TC.n3, (by show 4 < 1000; decide), ?_⟩
    rw [show putF "marked" (.ref mk) (cfl o { s0 with ph := "idle" }) = cfl o { s0 with ph := "idle", mm := mk, M := [] } from rfl]
    have g03 := (g1.trans (.same (same_upd nm (o := .dK [])))).trans g3
    have e3 : (L2.upd (L2.upd H1 mk (.dK [])) c (.ins cC dx (cfl o { s0 with ph := "idle", mm := mk, M := [] }))) c = _ := upd_same
    generalize L2.upd (L2.upd H1 mk (.dK [])) c (.ins cC dx (cfl o { s0 with ph := "idle", mm := mk, M := [] })) = H3 at S3 g03 e3
    refine ⟨Nat.zero_le _, fun wt nw => ?_⟩
    have S4 := S3.gr (.of_same (same_upd nw (o := .lst [])))
    have e4 := same_upd nw (o := .lst []) _ _ e3
    obtain ⟨S5, g5⟩ := S4.fld (dx := dx) (s' := { s0 with ph := "idle", mm := mk, M := [], wt := wt, W := [] }) upd_same S4.co.hM S4.co.md ⟨Nat.zero_le _, Nat.zero_le _⟩ (fun b => b = c) rfl
    refine ⟨_, rfl, c, cC, dx, _, rfl, e4, TC.clC, TC.n1, (by show 4 < 1000; decide), ?_⟩
    rw [show putF "_waiting" (.ref wt) (cfl o { s0 with ph := "idle", mm := mk, M := [] }) = cfl o { s0 with ph := "idle", mm := mk, M := [], wt := wt, W := [] } from rfl]
    exact q { s0 with ph := "idle", mm := mk, M := [], wt := wt, W := [] } _ S5 rfl rfl rfl ((g03.trans (.same (same_upd nw))).trans g5) (g03.free _ nw) (g1.free _ nm)
end
end LW
namespace LW
open PySem PySem.Spec PyProof.Rows L2 GxR
theorem At.dx {C B1 B2 : Addr} {H : Hp} {o d : Addr} {B : Blbs} (s : At C B1 B2 H o d B) : ∃ dx, H o = some (.ins C dx [("_blobs", .ref d)]) := s.st.ob
theorem seqIx0 (n : Nat) : seqIndex? (0 : Int) (n + 1) = some 0 := seqIndex_of (by decide) (by omega)
def refsAt (B : Blbs) (a : Str) : List Str := match lk B a with
  | none => []
  | some x => refsOf x
theorem refsAt_len {B : Blbs} (g : ∀ e ∈ B, Good e.2) (a : Str) : (refsAt B a).length ≤ 50 := by
  unfold refsAt
  cases h : lk B a with
  | none => exact Nat.zero_le _
  | some x => exact (refs_addr (g _ (lk_mem h))).2
theorem dec_str (x y : Str) : decide (V.str x = V.str y) = decide (x = y) := decide_eq_decide.mpr ⟨fun h => by injection h, fun h => by rw [h]⟩
/-- the marks behind a shading -/
def adds (M L : List Str) : List Str := L.foldl kadd M
abbrev s_Collector___init : Stmt := inClass (topS 13) 0
abbrev N_Collector___init : List Str := ["self", "store"]
abbrev P_Collector___init : List Str := ["self", "store"]
theorem sc_Collector___init : FnScope N_Collector___init P_Collector___init (defScope s_Collector___init) := ⟨rfl, rfl, rfl, by decide +kernel, rfl, by decide +kernel, by decide +kernel⟩
def sp_Collector___init (cC cU B1 B2 : Addr) : Sp := fun vs H Q _ => ∃ (c o d dx : Addr) (B : Blbs), vs = [.ref c, .ref o] ∧ H c = some (.ins cC dx []) ∧ At cU B1 B2 H o d B ∧ o ≠ c ∧ ∀ s' H', SC cC cU B1 B2 c o d s' B H' → s'.W = [] → s'.ph = "idle" → s'.M = [] → GrS (fun b => b = c) H H' → H s'.wt = none → H s'.mm = none → Q .non H'
abbrev s_Collector_shade : Stmt := inClass (topS 13) 2
abbrev N_Collector_shade : List Str := ["self", "address", "reached"]
abbrev P_Collector_shade : List Str := ["self", "address"]
theorem sc_Collector_shade : FnScope N_Collector_shade P_Collector_shade (defScope s_Collector_shade) := ⟨rfl, rfl, rfl, by decide +kernel, rfl, by decide +kernel, by decide +kernel⟩
def sp_Collector_shade (cC cU B1 B2 : Addr) : Sp := fun vs H Q _ => ∃ (c o d : Addr) (s : Cs) (B : Blbs) (a : Str), vs = [.ref c, .str a] ∧ SC cC cU B1 B2 c o d s B H ∧ (s.ph = "idle" → Q .non H) ∧ (s.ph ≠ "idle" → dn 4 B a = true ∧ (∀ i, (adds s.M ((gat 4 B a []).take i)).length ≤ 90000) ∧ ∀ H', SC cC cU B1 B2 c o d { s with M := adds s.M (gat 4 B a []) } B H' → GrS (fun b => b = s.mm) H H' → Q .non H')
section
variable {P : Program} {w : World} {K : PySem.W.Frag} {mg : Str → Option Value} {base : Heap} {cM cR cU cC B1 B2 : Addr}
theorem ok_Collector___init {f : Addr} {fd : FuncData} (F : Fun K "__init__" "Collector.__init__" s_Collector___init f fd) (T : Tx K mg cM cR cU) (TC : Tc K mg cC) : FnOk P w K mg base CX0 1 f fd P_Collector___init (sp_Collector___init cC cU B1 B2) := by
  refine F.ok sc_Collector___init (fun vs H Q E h => ?_) (fun cdv A outer s H vs Q E hr h => ?_)
  · obtain ⟨_, _, _, _, _, rfl, _⟩ := h
    rfl
  · obtain ⟨c, o, d, dx, B, rfl, e0, hA, oc, q⟩ := h
    have nd := sc_Collector___init.nd
    refine ⟨_, pss_cons (ps_fld (pv 0) (pv 1) rfl)
  (pss_cons (ps_fld (pv 0) (pe_lst pa_nil) rfl)
  (pss_cons (ps_fld (pv 0) (pe_gstr TC.IDLE) rfl)
  (pss_one (ps_fld (pv 0) pe_dnewK rfl)))), ?_⟩

    obtain ⟨kvs, hd, _⟩ := hA.st.db
    have dc : d ≠ c := ne_of hd e0 (by intro z; cases z)
    refine ⟨_, rfl, _, rfl, c, cC, dx, [], rfl, e0, TC.clC, TC.n0, by decide, ?_⟩
    have g1 : GrS (fun b => b = c) H (L2.upd H c (.ins cC dx [("_store", .ref o)])) := .put rfl e0 (fun ps z => nomatch z)
    have A1 := hA.grs g1 oc dc (fun b xs e => ne_of e e0 (by intro z; cases z))
    have e1 : (L2.upd H c (.ins cC dx [("_store", .ref o)])) c = some (.ins cC dx [("_store", .ref o)]) := upd_same
    rw [show putF "_store" (.ref o) ([] : List (Str × V)) = ([("_store", .ref o)] : List (Str × V)) from rfl]
    generalize L2.upd H c (.ins cC dx [("_store", .ref o)]) = H1 at g1 A1 e1
    refine ⟨Nat.zero_le _, fun wt nw => ?_⟩
    have s2 : Same H1 _ := same_upd nw (o := .lst [])
    have A2 := A1.gr (.of_same s2)
    have e2 := s2 _ _ e1
    have hw : (L2.upd H1 wt (.lst [])) wt = some (.lst []) := upd_same
    generalize L2.upd H1 wt (.lst []) = H2 at s2 A2 e2 hw
    refine ⟨_, rfl, c, cC, dx, _, rfl, e2, TC.clC, TC.n1, (by show 1 < 1000; decide), ?_⟩
    rw [show putF "_waiting" (.ref wt) ([("_store", .ref o)] : List (Str × V)) = ([("_store", .ref o), ("_waiting", .ref wt)] : List (Str × V)) from rfl]
    have g3 : GrS (fun b => b = c) H2 (L2.upd H2 c (.ins cC dx [("_store", .ref o), ("_waiting", .ref wt)])) := .put rfl e2 (fun ps z => nomatch z)
    have A3 := A2.grs g3 oc dc (fun b xs e => ne_of e e2 (by intro z; cases z))
    have e3 : (L2.upd H2 c (.ins cC dx [("_store", .ref o), ("_waiting", .ref wt)])) c = some (.ins cC dx [("_store", .ref o), ("_waiting", .ref wt)]) := upd_same
    have hw3 : (L2.upd H2 c (.ins cC dx [("_store", .ref o), ("_waiting", .ref wt)])) wt = some (.lst []) := by rw [upd_ne (ne_of hw e2 (by intro z; cases z))]; exact hw
    generalize L2.upd H2 c (.ins cC dx [("_store", .ref o), ("_waiting", .ref wt)]) = H3 at g3 A3 e3 hw3
    refine ⟨_, rfl, c, cC, dx, _, rfl, e3, TC.clC, TC.n2, (by show 2 < 1000; decide), ?_⟩
    rw [show putF "phase" (.str "idle") ([("_store", .ref o), ("_waiting", .ref wt)] : List (Str × V)) = ([("_store", .ref o), ("_waiting", .ref wt), ("phase", .str "idle")] : List (Str × V)) from rfl]
    have g4 : GrS (fun b => b = c) H3 (L2.upd H3 c (.ins cC dx [("_store", .ref o), ("_waiting", .ref wt), ("phase", .str "idle")])) := .put rfl e3 (fun ps z => nomatch z)
    have A4 := A3.grs g4 oc dc (fun b xs e => ne_of e e3 (by intro z; cases z))
    have e4 : (L2.upd H3 c (.ins cC dx [("_store", .ref o), ("_waiting", .ref wt), ("phase", .str "idle")])) c = some (.ins cC dx [("_store", .ref o), ("_waiting", .ref wt), ("phase", .str "idle")]) := upd_same
    have hw4 : (L2.upd H3 c (.ins cC dx [("_store", .ref o), ("_waiting", .ref wt), ("phase", .str "idle")])) wt = some (.lst []) := by rw [upd_ne (ne_of hw3 e3 (by intro z; cases z))]; exact hw3
    generalize L2.upd H3 c (.ins cC dx [("_store", .ref o), ("_waiting", .ref wt), ("phase", .str "idle")]) = H4 at g4 A4 e4 hw4
    refine fun mk nm => ?_
    have s5 : Same H4 _ := same_upd nm (o := .dK [])
    have A5 := A4.gr (.of_same s5)
    have e5 := s5 _ _ e4
    have hw5 := s5 _ _ hw4
    have hm5 : (L2.upd H4 mk (.dK [])) mk = some (.dK []) := upd_same
    obtain ⟨kvs4, hd4, _⟩ := A4.st.db
    have md : mk ≠ d := (ne_of_none hd4 nm).symm
    generalize L2.upd H4 mk (.dK []) = H5 at s5 A5 e5 hw5 hm5
    refine ⟨_, rfl, c, cC, dx, _, rfl, e5, TC.clC, TC.n3, (by show 3 < 1000; decide), ?_⟩
    rw [show putF "marked" (.ref mk) ([("_store", .ref o), ("_waiting", .ref wt), ("phase", .str "idle")] : List (Str × V)) = cfl o ⟨wt, mk, [], "idle", []⟩ from rfl]
    have g6 : GrS (fun b => b = c) H5 (L2.upd H5 c (.ins cC dx (cfl o ⟨wt, mk, [], "idle", []⟩))) := .put rfl e5 (fun ps z => nomatch z)
    refine q ⟨wt, mk, [], "idle", []⟩ _ ⟨⟨⟨dx, upd_same⟩, by rw [upd_ne (ne_of hw5 e5 (by intro z; cases z))]; exact hw5, by rw [upd_ne (ne_of hm5 e5 (by intro z; cases z))]; exact hm5, md, Nat.zero_le _, Nat.zero_le _⟩, A5.grs g6 oc dc (fun b xs e => ne_of e e5 (by intro z; cases z)), oc⟩ rfl rfl rfl ?_ (g1.free _ nw) ((((g1.trans (.same s2)).trans g3).trans g4).free _ nm)
    exact ((((g1.trans (.same s2)).trans g3).trans g4).trans (.same s5)).trans g6
theorem ok_Collector_shade {f : Addr} {fd : FuncData} (F : Fun K "shade" "Collector.shade" s_Collector_shade f fd) (T : Tx K mg cM cR cU) (TC : Tc K mg cC)
    (C_Store_closure : CalM P w K mg base CX0 29 cU "closure" P_Store_closure (sp_closure cU B1 B2)) : FnOk P w K mg base CX0 30 f fd P_Collector_shade (sp_Collector_shade cC cU B1 B2) := by
  refine F.ok sc_Collector_shade (fun vs H Q E h => ?_) (fun cdv A outer s H vs Q E hr h => ?_)
  · obtain ⟨_, _, _, _, _, _, rfl, _⟩ := h
    rfl
  · obtain ⟨c, o, d, s0, B, a, rfl, hS, q1, q2⟩ := h
    have nd := sc_Collector_shade.nd
    have hu := hu_of hr
    refine ⟨_, pss_cons (ps_if (pt_cmpR op_eq (pe_fld (pv 0) rfl) (pe_gstr TC.IDLE) (nomark _))
    (pss_one (ps_retN))
    (pss_nil))
  (pss_one (ps_for PassesOwn.never rfl (pi_list (pe_calM (pe_fld (pv 0) rfl) C_Store_closure hr (pa_cons (pv 1) pa_nil))) (pg_name (i := 2) nd rfl (Or.inl rfl))
    (pss_one (ps_dput hu (pe_fld (pv 0) rfl) (pv 2) pe_bl rfl)))), ?_⟩

    obtain ⟨dx, e0⟩ := hS.co.ob
    refine ⟨_, rfl, c, cC, dx, _, _, rfl, e0, TC.clC, TC.n2, rfl, rfl, _, rfl, ?_⟩
    rw [dec_str]
    by_cases hp : s0.ph = "idle"
    · rw [decide_eq_true hp]
      exact iteT (q1 hp)
    rw [decide_eq_false hp]
    obtain ⟨hdn, hlen, q2⟩ := q2 hp
    obtain ⟨dxo, eo⟩ := hS.at_.dx
    refine iteF ⟨_, rfl, c, cC, dx, _, _, rfl, e0, TC.clC, TC.n0, rfl, o, dxo, _, rfl, eo, rfl, _, rfl, o, d, B, a, rfl, hS.at_, hdn, fun p H2 np g2 hp2 => ?_⟩
    have S2 := hS.gr g2
    refine ⟨p, rfl, ⟨_, SqL.of hp2⟩, ?_⟩
    have pm : p ≠ s0.mm := ne_of hp2 S2.co.hM (by intro z; cases z)
    refine for_it (walk_list (K := K) (a := p) (xs := (gat 4 B a []).map V.str)) (fun i σ H' => SC cC cU B1 B2 c o d { s0 with M := adds s0.M ((gat 4 B a []).take i) } B H' ∧ GrS (fun b => b = s0.mm) H H' ∧ H' p = some (.lst ((gat 4 B a []).map V.str)) ∧ ∃ v, σ = [some (.ref c), some (.str a), v])
      ⟨S2, .of g2, hp2, none, rfl⟩ (fun _ _ _ _ h => SqL.of h.2.2.1) ?_ ?_
    · rintro i v σ H3 H4 hi ⟨S3, g3, hp3, v0, rfl⟩ ⟨rfl, hv⟩
      rw [List.getElem?_map] at hv
      cases ez : (gat 4 B a [])[i]? with
      | none => rw [ez] at hv; cases hv
      | some z =>
        rw [ez] at hv
        cases hv
        obtain ⟨dx3, e3⟩ := S3.co.ob
        have hl := hlen i
        have hl1 := hlen (i + 1)
        refine ⟨_, rfl, c, cC, dx3, _, _, rfl, e3, TC.clC, TC.n3, rfl, _, rfl, s0.mm, _, rfl, DPut.k (k := .inr z) S3.co.hM (by rw [inn, List.length_map, sizeLine_eq]; show (adds s0.M ((gat 4 B a []).take i)).length < _; omega), ?_⟩
        rw [inn_put]
        have tk : adds s0.M ((gat 4 B a []).take (i + 1)) = kadd (adds s0.M ((gat 4 B a []).take i)) z := by
          unfold adds
          rw [List.take_add_one, ez, List.foldl_append]; rfl
        have gm : GrS (fun b => b = s0.mm) H4 (L2.upd H4 s0.mm (.dK (inn (kadd (adds s0.M ((gat 4 B a []).take i)) z)))) := .put rfl S3.co.hM (fun ps z => nomatch z)
        obtain ⟨dxo3, eo3⟩ := S3.at_.dx
        have wm : s0.wt ≠ s0.mm := ne_of S3.co.hW S3.co.hM (by intro z; cases z)
        refine ⟨⟨⟨⟨dx3, ?_⟩, ?_, ?_, hS.co.md, ?_, hS.co.len.2⟩, S3.at_.grs gm (ne_of eo3 S3.co.hM (by intro z; cases z)) hS.co.md.symm (fun b xs e => ne_of e S3.co.hM (by intro z; cases z)), hS.oc⟩, g3.trans gm, by rw [upd_ne pm]; exact hp3, _, rfl⟩
        · rw [upd_ne (ne_of e3 S3.co.hM (by intro z; cases z))]; exact e3
        · rw [upd_ne wm]; exact S3.co.hW
        · rw [tk]; exact upd_same
        · show (adds s0.M ((gat 4 B a []).take (i + 1))).length ≤ 100000
          omega
    · rintro σ H3 ⟨S3, g3, hp3, v0, rfl⟩
      rw [List.length_map, List.take_length] at S3
      exact q2 H3 S3 g3
end
end LW
namespace LW
open PySem PySem.Spec PyProof.Rows L2 GxR
abbrev s_Store_is_whole : Stmt := inClass (topS 33) 6
abbrev N_Store_is_whole : List Str := ["self", "address", "kind", "reference"]
abbrev P_Store_is_whole : List Str := ["self", "address"]
theorem sc_Store_is_whole : FnScope N_Store_is_whole P_Store_is_whole (defScope s_Store_is_whole) := ⟨rfl, rfl, rfl, by decide +kernel, rfl, by decide +kernel, by decide +kernel⟩
abbrev s_Store__is_whole_of : Stmt := inClass (topS 33) 7
abbrev N_Store__is_whole_of : List Str := ["self", "kind", "address"]
abbrev P_Store__is_whole_of : List Str := ["self", "kind", "address"]
theorem sc_Store__is_whole_of : FnScope N_Store__is_whole_of P_Store__is_whole_of (defScope s_Store__is_whole_of) := ⟨rfl, rfl, rfl, by decide +kernel, rfl, by decide +kernel, by decide +kernel⟩
def iwo (r : Nat) (B : Blbs) (kd a : Str) : Bool := match lk B a with
  | none => false
  | some y => decide (y.1 = kd) && wholeN r B a
def sp_iwo (C B1 B2 B3 : Addr) (r : Nat) : Sp := fun vs H Q _ => ∃ (o d : Addr) (B : Blbs) (kd a : Str), vs = [.ref o, .str kd, .str a] ∧ At C B1 B2 H o d B ∧ TabG H B3 ∧ rk kd < r ∧ ∀ H', Gr H H' → Q (.bl (iwo r B kd a)) H'
def sp_isw (C B1 B2 B3 : Addr) (r : Nat) : Sp := fun vs H Q _ => ∃ (o d : Addr) (B : Blbs) (a : Str), vs = [.ref o, .str a] ∧ At C B1 B2 H o d B ∧ TabG H B3 ∧ (∀ x, lk B a = some x → rk x.1 ≤ r) ∧ ∀ H', Gr H H' → Q (.bl (wholeN (r + 1) B a)) H'
/-- the dict BELOW -/
def BelAt (K : PySem.W.Frag) (w : World) (mg : Str → Option Value) : Prop := ∃ bd, mg "BELOW" = some (.ref bd) ∧ KDct K w bd "image" (.str "layer") ∧ KDct K w bd "bundle" (.str "image")
theorem whole_iwo {r : Nat} {B : Blbs} {a : Str} {x : Blb} (h : lk B a = some x) : wholeN (r + 1) B a = (refsOf x).all fun z => iwo r B (due x.1) z := wholeN_some h
theorem rk_due {x : Blb} {r : Nat} (h : rk x.1 ≤ r) (n : refsOf x ≠ []) : rk (due x.1) < r := by
  unfold rk at h
  unfold refsOf at n
  unfold due
  by_cases h1 : x.1 = "image"
  · rw [if_pos h1] at h ⊢
    have : rk "layer" = 0 := by decide +kernel
    omega
  · rw [if_neg h1] at h ⊢ n
    by_cases h2 : x.1 = "bundle"
    · rw [if_pos h2] at h ⊢
      have : rk "image" = 1 := by decide +kernel
      omega
    · rw [if_neg h2] at n
      exact absurd rfl n
theorem due_bel {K : PySem.W.Frag} {w : World} {bd : Addr} {x : Blb} (b1 : KDct K w bd "image" (.str "layer")) (b2 : KDct K w bd "bundle" (.str "image")) (n : refsOf x ≠ []) : KDct K w bd x.1 (.str (due x.1)) := by
  unfold refsOf at n
  unfold due
  by_cases h1 : x.1 = "image"
  · rw [if_pos h1, h1]; exact b1
  · rw [if_neg h1] at n ⊢
    by_cases h2 : x.1 = "bundle"
    · rw [if_pos h2, h2]; exact b2
    · rw [if_neg h2] at n
      exact absurd rfl n
section
variable {P : Program} {w : World} {K : PySem.W.Frag} {mg : Str → Option Value} {base : Heap} {cM cR cU B1 B2 B3 : Addr}
theorem ok_Store__is_whole_of {f : Addr} {fd : FuncData} {r L : Nat} (F : Fun K "is_whole_of" "Store.is_whole_of" s_Store__is_whole_of f fd) (T : Tx K mg cM cR cU)
    (C_is_whole : CalM P w K mg base CX0 L cU "is_whole" P_Store_is_whole (sp_isw cU B1 B2 B3 r)) : FnOk P w K mg base CX0 (L + 1) f fd P_Store__is_whole_of (sp_iwo cU B1 B2 B3 (r + 1)) := by
  refine F.ok sc_Store__is_whole_of (fun vs H Q E h => ?_) (fun cdv A outer s H vs Q E hr h => ?_)
  · obtain ⟨_, _, _, _, _, rfl, _⟩ := h
    rfl
  · obtain ⟨o, d, B, kd, a, rfl, S, t3, hk, q⟩ := h
    have nd := sc_Store__is_whole_of.nd
    have hu := hu_of hr
    refine ⟨_, pss_one (ps_ret (pe_and (pe_cmp (pc_din hu (pv 2) (pe_fld (pv 0) rfl))) (pe_and (pe_cmpR op_eq (pe_ix ix_tup (pe_dget hu (pe_fld (pv 0) rfl) (pv 2) (fun _ _ => rfl)) pe_int (fun _ _ => rfl)) (pv 1) (nomark _)) (pe_one (pe_calM (pv 0) C_is_whole hr (pa_cons (pv 2) pa_nil) (Nat.le_refl _)))))), ?_⟩
    obtain ⟨dx, ho⟩ := S.st.ob
    obtain ⟨ov, g, eg⟩ := S.st.db.isIn a
    refine ⟨_, rfl, _, rfl, o, cU, dx, _, _, rfl, ho, T.sC, T.nB, look_b _, d, ov, rfl, g, _, rfl, ?_⟩
    rw [eg]
    unfold iwo at q
    cases e : lk B a with
    | none =>
      rw [e] at q
      exact iteF (q H (Gr.refl H))
    | some y =>
      rw [e] at q
      obtain ⟨t, g2, ht⟩ := S.st.db.get e
      refine iteT ⟨_, rfl, o, cU, dx, _, _, rfl, ho, T.sC, T.nB, look_b _, _, rfl, d, _, rfl, g2, t, [.str y.1, .str y.2], 0, .str y.1, rfl, rfl, SqT.of ht, at2_0, _, rfl, rfl, _, rfl, ?_⟩
      rw [eq_str]
      by_cases h1 : y.1 = kd
      · refine ite2 (fun _ => ?_) (fun z => absurd (decide_eq_true h1) z)
        refine ⟨_, rfl, o, dx, _, rfl, ho, rfl, _, rfl, o, d, B, a, rfl, S, t3, fun x hx => ?_, fun H' gr => ?_⟩
        · rw [e] at hx; cases hx
          rw [h1]; omega
        · have := q H' gr
          dsimp only at this
          rw [decide_eq_true h1, Bool.true_and] at this
          exact this
      · have := q H (Gr.refl H)
        dsimp only at this
        rw [decide_eq_false h1, Bool.false_and] at this
        exact ite2 (fun z => absurd (of_decide_eq_true z) h1) (fun _ => this)
theorem ok_Store_is_whole {f c : Addr} {fd : FuncData} {r L : Nat} (F : FunC K "is_whole" "Store.is_whole" s_Store_is_whole f fd c) (T : Tx K mg cM cR cU) (TB : TabB base mg c B3) (bel : BelAt K w mg)
    (C_below : CalM P w K mg base CX0 6 cU "below" P_Store_below (sp_Store_below cU B1 B2))
    (C_iwo : CalM P w K mg base CX0 L cU "is_whole_of" P_Store__is_whole_of (sp_iwo cU B1 B2 B3 r)) : FnOk P w K mg base CX0 (L + 7) f fd P_Store_is_whole (sp_isw cU B1 B2 B3 r) := by
  refine F.ok sc_Store_is_whole (fun vs H Q E h => ?_) (fun A outer s H vs Q E hr h => ?_)
  · obtain ⟨_, _, _, _, rfl, _⟩ := h
    rfl
  · obtain ⟨o, d, B, a, rfl, S, t3, hk, q⟩ := h
    have nd := sc_Store_is_whole.nd
    have hu := hu_of hr
    obtain ⟨bd, aB, b1, b2⟩ := bel
    have hr2 : Room (L + 4 + 2) _ := hr
    refine ⟨_, pss_cons (ps_if (pt_cmp (pc_dnotin hu (pv 1) (pe_fld (pv 0) rfl)))
    (pss_one (ps_ret pe_bl))
    (pss_nil))
  (pss_cons (ps_set (i := 2) nd rfl (Or.inr rfl) (pe_ix ix_tup (pe_dget hu (pe_fld (pv 0) rfl) (pv 1) (fun _ _ => rfl)) pe_int (fun _ _ => rfl)))
  (pss_one (ps_ret (pe_allL (own := [("reference", 3)]) (g := gName 3) (k := L + 4) hr2 rfl nd (by rfl) T.all TB rfl (gblk_by (N := N_Store_is_whole) (sc := defScope s_Store_is_whole) (by decide +kernel)) (pi_list (pe_calM (pv 0) C_below hr (pa_cons (pv 1) pa_nil) (by omega)))
    (fun _ _ _ _ _ _ _ => pg_name (i := 3) nd rfl (Or.inl rfl))
    (fun _ _ _ _ _ _ _ hr' => pe_calM (pv 0) C_iwo hr' (pa_cons (pe_ix (show IxR _ (rIxD K w) from ix_kdict) (pe_glob (v := .ref bd) (by rfl) aB rfl) (pv 2) (fun _ _ => rfl)) (pa_cons (pv 3) pa_nil)) (by omega)))))), ?_⟩
    obtain ⟨dx, ho⟩ := S.st.ob
    obtain ⟨ov, g, eg⟩ := S.st.db.isIn a
    refine ⟨_, rfl, _, rfl, o, cU, dx, _, _, rfl, ho, T.sC, T.nB, look_b _, d, ov, rfl, g, ?_⟩
    rw [eg]
    cases e : lk B a with
    | none =>
      refine ⟨true, rfl, iteT ?_⟩
      have := q H (Gr.refl H)
      rw [wholeN_none e] at this
      exact this
    | some x =>
      refine ⟨false, rfl, iteF ?_⟩
      have hrk := hk x e
      have hg := S.of e
      obtain ⟨t, g2, ht⟩ := S.st.db.get e
      refine ⟨_, rfl, o, cU, dx, _, _, rfl, ho, T.sC, T.nB, look_b _, _, rfl, d, _, rfl, g2, t, [.str x.1, .str x.2], 0, .str x.1, rfl, rfl, SqT.of ht, at2_0, ?_⟩
      refine ⟨_, rfl, o, dx, _, rfl, ho, rfl, _, rfl, o, d, B, a, x, rfl, S.st, e, hg, S.t1, S.t2, fun p H1 np g1 hp => ?_⟩
      refine ⟨p, rfl, ⟨_, SqL.of hp⟩, g1.tab _ t3, fun H2 tb => ?_⟩
      have g12 : Gr H H2 := g1.trans (.of_tab (g1.tab _ t3) tb)
      have hw := whole_iwo (r := r) e
      refine wl_list (K := K) (a := p) (xs := (refsOf x).map V.str) (fun i H' => Gr H H' ∧ H' p = some (.lst ((refsOf x).map V.str)) ∧ ∀ z ∈ (refsOf x).take i, iwo r B (due x.1) z = true) ⟨g12, ?_, by simp⟩ (fun i H' _ h => SqL.of h.2.1) ?_ ?_
      · exact (Gr.of_tab (g1.tab _ t3) tb).lst hp
      · rintro i v H' hv ⟨g, hp', hall⟩
        rw [List.getElem?_map] at hv
        cases ez : (refsOf x)[i]? with
        | none => rw [ez] at hv; cases hv
        | some z =>
          rw [ez] at hv
          cases hv
          have hz : z ∈ refsOf x := List.mem_of_getElem? ez
          have ne : refsOf x ≠ [] := fun h => by rw [h] at hz; cases hz
          have S' := S.gr g
          obtain ⟨dx', ho'⟩ := S'.st.ob
          refine ⟨rfl, _, rfl, o, dx', _, rfl, ho', rfl, _, rfl, bd, x.1, .str (due x.1), rfl, rfl, due_bel b1 b2 ne, _, rfl, o, d, B, due x.1, z, rfl, S', g.tab _ t3, rk_due hrk ne, fun H'' g'' => ⟨_, rfl, ite2 (fun h => ?_) (fun h => ?_)⟩⟩
          · refine ⟨g.trans g'', g''.lst hp', fun z' hz' => ?_⟩
            rw [List.take_add_one, ez] at hz'
            rcases List.mem_append.mp hz' with h1 | h1
            · exact hall z' h1
            · rw [List.mem_singleton.mp h1]; exact h
          · have := q H'' (g.trans g'')
            rw [hw, show ((refsOf x).all fun z => iwo r B (due x.1) z) = false from List.all_eq_false.mpr ⟨z, hz, h⟩] at this
            exact this
      · rintro H' ⟨g, hp', hall⟩
        have := q H' g
        rw [List.length_map, List.take_length] at hall
        rw [hw, show ((refsOf x).all fun z => iwo r B (due x.1) z) = true from List.all_eq_true.mpr hall] at this
        exact this
end
end LW
namespace LW
open PySem PySem.Spec PyProof.Rows L2 GxR
theorem nums_at : ∀ {ks : List Int} {vs : List Value}, vs.length = ks.length → (∀ (j : Nat) (v : Value), vs[j]? = some v → ∃ (x : Int) (t : Tok), ks[j]? = some x ∧ v = Value.int x t) → IntsAre vs ks
  | [], [], _, _ => IntsAre.nil
  | k :: ks, u :: vs, hl, h => by
    obtain ⟨x, t, e1, e2⟩ := h 0 u rfl
    cases e1
    rw [e2]
    exact .cons _ _ (nums_at (by simpa using hl) fun j v e => by
      obtain ⟨x, t, a, b⟩ := h (j + 1) v (by simpa using e)
      exact ⟨x, t, by simpa using a, b⟩)
  | [], _ :: _, hl, _ => by simp at hl
  | _ :: _, [], hl, _ => by simp at hl
variable {X : Cx}
/-- sorted(a dict of numbers), of any number of keys -/
def rSortedDIL : List V → Hp → VK → Prop := fun vs H Q => ∃ (a : Addr) (kvs : List (Key × V)) (ts : List Int), vs = [V.ref a] ∧ H a = some (.dK kvs) ∧ kvs.map (·.1) = ts.map Sum.inl ∧
  ∀ (ys : List Int) (p : Addr), ys.Perm ts → ys.Pairwise (· ≤ ·) → H p = none → Q (.ref p) (L2.upd H p (.lst (ys.map V.int)))
theorem cr_sortedDIL (cm : X.calm = true) : CallR X (.builtin "sorted") rSortedDIL := by
  intro pins s σ H vs us Q I r h
  obtain ⟨a, kvs, ts, rfl, ha, ek, q⟩ := h
  rw [Vals.ref1 r]
  obtain ⟨kz, lo, ws, rl, dct⟩ := dk_rd I.hok (.inl ha)
  obtain ⟨ep, da⟩ := dct.dictAt
  have wk : ws.map (·.1) = ts.map Sum.inl := rl.keys.symm.trans ek
  have wl : ws.length = ts.length := by simpa using congrArg List.length wk
  have kl : kvs.length = ts.length := by simpa using congrArg List.length ek
  have small : ts.length ≤ sizeLine := by rw [← kl]; exact kz
  refine Calls.call_function_entry kind_sorted plain_sorted entry_sorted (args_sorted1 _) ?_
  unfold Builtin.«sorted»
  refine wpAny_bind (m := checkCount "sorted" 1 1 _) (wpAny_pure (wpAny_bind (PySem.W.kdu_collect (A := X.A.in1) (PySem.W.kdl_dict (knd := mixKind X.prog X.w) (kvs := ws) (ep := ep) lo) (I.ok.hd cm) da (by rw [wl]; exact small) fun g tk out kp it => ?_)))
  have ol : out.toList.length = ts.length := by rw [Array.length_toList, it.1, wl]
  have sa : IntsAre out.toList ts := nums_at ol fun j v e => by
    obtain ⟨k, x, b1, b2⟩ := it.2 j v (by rw [← Array.getElem?_toList]; exact e)
    have b3 : (ws.map (·.1))[j]? = some k := by rw [List.getElem?_map, b1]; rfl
    rw [wk, List.getElem?_map] at b3
    cases c : ts[j]? with
    | none => rw [c] at b3; cases b3
    | some y =>
      rw [c] at b3
      have e5 : Sum.inl y = k := Option.some.inj b3
      subst e5
      rcases keyIs_shape (show keyIs (Sum.inl y) v = true from b2) with ⟨i, t, ek, ev⟩ | ⟨z, t, ek, ev⟩
      · cases ek
        exact ⟨y, t, rfl, ev⟩
      · cases ek
  have I2 : Inv X pins σ H { s with heap := g, toks := tk } := I.kept kp
  refine wpAny_bind (wpAny_newList ?_ (by rw [ol]; exact small))
  have ob : (g.push (seqObj "list" out.toList.toArray 0)).get? g.objs.size = some (seqObj "list" out.toList.toArray 0) := Heap.get?_push_size _ rfl
  show wpAny _ _ _ _ _ { s with heap := g.push (seqObj "list" out.toList.toArray 0), toks := tk }
  refine wpAny_bind (wpAny_holding (wpAny_call_entry slot_list_sort ⟨_, ob, rfl⟩ entry_list_sort
    (list_sort_treeKAny intKind_oneLt (s := { s with heap := g.push (seqObj "list" out.toList.toArray 0), toks := tk }) ob sa.keysOfInt (fun v1 v2 rest e => keyKind_ints (by rw [← e]; exact sa)) (by rw [ol]; exact small) fun st p1 p2 => ⟨_, rfl, ?_⟩) (args_list_sort _)))
  obtain ⟨ys, y1, y2, y3⟩ := sorted_out sa p1 (sortedTo_of_int p2)
  obtain ⟨c, hc⟩ := sortedHeap_at (vs := out.toList) (out := (arrOf st).map (·.2)) ob
  refine wpAny_pure ⟨_, rfl, .ref g.objs.size, L2.upd H g.objs.size (.lst (ys.map V.int)), I2.laid (t' := tk) (fun b u e => ?_) (Nat.le_refl _)
    (show ObjOk X.prog X.w _ _ _ (.lst (ys.map V.int)) from ⟨by rw [List.length_map, y2.length_eq]; exact small, ((arrOf st).map (·.2)).toList, c, vals_ints y1, by rw [Array.toArray_toList]; exact hc⟩), rfl, q ys _ y2 y3 (I2.hok.fresh (Nat.le_refl _))⟩
  have lt : b < g.objs.size := Heap.lt_size e
  rw [sortedHeap_old (Nat.ne_of_lt lt) (by rw [size_push']; exact Nat.lt_succ_of_lt lt)]
  exact Heap.get?_push_of_some _ e
end LW
namespace LW
open PySem PySem.Spec PyProof.Rows L2 GxR
structure Tk (K : PySem.W.Frag) (mg : Str → Option Value) (cK cL : Addr) : Prop where
  z_len : mg "len" = none
  z_sorted : mg "sorted" = none
  z_set : mg "set" = none
  gC : mg "Claims" = some (.ref cK)
  gU : mg "Uploads" = some (.ref cL)
  clK : Cls K cK
  clL : Cls K cL
  nCl : NoAttr K cK "_last"
  nCp : NoAttr K cK "_pins"
  nUl : NoAttr K cL "_last"
  nUt : NoAttr K cL "_texts"
/-! ### an object with a number and a dict -/
def flP (n : Int) (d : Addr) : List (Str × V) := [("_last", .int n), ("_pins", .ref d)]
def flT (n : Int) (d : Addr) : List (Str × V) := [("_last", .int n), ("_texts", .ref d)]
theorem look_pl (n : Int) (d : Addr) : (flP n d).lookup ("_last" : Str) = some (V.int n) := rfl
theorem look_pp (n : Int) (d : Addr) : (flP n d).lookup ("_pins" : Str) = some (V.ref d) := rfl
theorem look_tl (n : Int) (d : Addr) : (flT n d).lookup ("_last" : Str) = some (V.int n) := rfl
theorem look_tt (n : Int) (d : Addr) : (flT n d).lookup ("_texts" : Str) = some (V.ref d) := rfl
theorem put_pl (n m : Int) (d : Addr) : putF "_last" (.int m) (flP n d) = flP m d := rfl
theorem put_tl (n m : Int) (d : Addr) : putF "_last" (.int m) (flT n d) = flT m d := rfl
theorem put_tt (n : Int) (d e : Addr) : putF "_texts" (.ref e) (flT n d) = flT n e := by rfl
section
variable {P : Program} {w : World} {K : PySem.W.Frag} {mg : Str → Option Value} {base : Heap} {cK cL : Addr}
/-! ### Claims -/
abbrev s_Claims___init : Stmt := inClass (topS 10) 0
abbrev N_Claims___init : List Str := ["self"]
abbrev P_Claims___init : List Str := ["self"]
theorem sc_Claims___init : FnScope N_Claims___init P_Claims___init (defScope s_Claims___init) := ⟨rfl, rfl, rfl, by decide +kernel, rfl, by decide +kernel, by decide +kernel⟩
def sp_Claims___init (C : Addr) : Sp := fun vs H Q _ => ∃ (o dx : Addr), vs = [.ref o] ∧ H o = some (.ins C dx []) ∧ ∀ d, H d = none → Q .non (L2.upd (L2.upd (L2.upd H o (.ins C dx [("_last", .int 0)])) d (.dK [])) o (.ins C dx (flP 0 d)))
theorem ok_Claims___init {f : Addr} {fd : FuncData} (F : Fun K "__init__" "Claims.__init__" s_Claims___init f fd) (T : Tk K mg cK cL) : FnOk P w K mg base CX0 1 f fd P_Claims___init (sp_Claims___init cK) := by
  refine F.ok sc_Claims___init (fun vs H Q E h => ?_) (fun cdv A outer s H vs Q E hr h => ?_)
  · obtain ⟨_, _, rfl, _⟩ := h
    rfl
  · obtain ⟨o, dx, rfl, ho, q⟩ := h
    have nd := sc_Claims___init.nd
    refine ⟨_, pss_cons (ps_fld (pv 0) pe_int rfl)
  (pss_one (ps_fld (pv 0) pe_dnewK rfl)), ?_⟩
    refine ⟨_, rfl, o, cK, dx, [], rfl, ho, T.clK, T.nCl, by decide, fun d nd => ⟨_, rfl, o, cK, dx, [("_last", .int 0)], rfl, ?_, T.clK, T.nCp, by decide, ?_⟩⟩
    · have : o ≠ d := fun e => by rw [← e, upd_same] at nd; cases nd
      rw [upd_ne this]
      exact upd_same
    · refine q d ?_
      by_cases e : d = o
      · rw [e, upd_same] at nd; cases nd
      · rw [upd_ne e] at nd; exact nd
abbrev s_Claims_begin : Stmt := inClass (topS 10) 1
abbrev N_Claims_begin : List Str := ["self"]
abbrev P_Claims_begin : List Str := ["self"]
theorem sc_Claims_begin : FnScope N_Claims_begin P_Claims_begin (defScope s_Claims_begin) := ⟨rfl, rfl, rfl, by decide +kernel, rfl, by decide +kernel, by decide +kernel⟩
def sp_Claims_begin (C : Addr) : Sp := fun vs H Q _ => ∃ (o dx d : Addr) (n : Nat) (kvs : List (Key × V)), vs = [.ref o] ∧ H o = some (.ins C dx (flP n d)) ∧ H d = some (.dK kvs) ∧ kvs.length < sizeLine ∧
  ∀ p, H p = none → Q (.int ((n + 1 : Nat) : Int)) (L2.upd (L2.upd (L2.upd H o (.ins C dx (flP ((n + 1 : Nat) : Int) d))) p (.dK [])) d (.dK (putK kvs (.inl ((n + 1 : Nat) : Int)) (.ref p))))
theorem ok_Claims_begin {f : Addr} {fd : FuncData} (F : Fun K "begin" "Claims.begin" s_Claims_begin f fd) (T : Tk K mg cK cL) : FnOk P w K mg base CX0 1 f fd P_Claims_begin (sp_Claims_begin cK) := by
  refine F.ok sc_Claims_begin (fun vs H Q E h => ?_) (fun cdv A outer s H vs Q E hr h => ?_)
  · obtain ⟨_, _, _, _, _, rfl, _⟩ := h
    rfl
  · obtain ⟨o, dx, d, n, kvs, rfl, ho, hd, hl, q⟩ := h
    have nd := sc_Claims_begin.nd
    have hu := hu_of hr
    refine ⟨_, pss_cons (ps_fldaug (pv 0) pe_int in_add)
  (pss_cons (ps_dput hu (pe_fld (pv 0) rfl) (pe_fld (pv 0) rfl) pe_dnewK rfl)
  (pss_one (ps_ret (pe_fld (pv 0) rfl)))), ?_⟩
    have e1 : (n : Int) + 1 = ((n + 1 : Nat) : Int) := by omega
    have od : o ≠ d := ne_of ho hd (by intro z; cases z)
    refine ⟨_, rfl, o, cK, dx, flP n d, _, rfl, ho, T.clK, T.nCl, look_pl _ _, _, _, rfl, rfl, dx, flP n d, ho, (by show 2 < 1000; decide), fun p np => ?_⟩
    rw [e1, put_pl]
    rw [e1, put_pl] at np
    have np0 : H p = none := by
      by_cases e : p = o
      · rw [e, upd_same] at np; cases np
      · rw [upd_ne e] at np; exact np
    have hop : o ≠ p := ne_of_none ho np0
    have hdp : d ≠ p := ne_of_none hd np0
    have ho2 : (L2.upd (L2.upd H o (.ins cK dx (flP ((n + 1 : Nat) : Int) d))) p (.dK [])) o = some (.ins cK dx (flP ((n + 1 : Nat) : Int) d)) := by rw [upd_ne hop, upd_same]
    have hd2 : (L2.upd (L2.upd H o (.ins cK dx (flP ((n + 1 : Nat) : Int) d))) p (.dK [])) d = some (.dK kvs) := by rw [upd_ne hdp, upd_ne od.symm]; exact hd
    refine ⟨_, rfl, o, cK, dx, _, _, rfl, ho2, T.clK, T.nCp, look_pp _ _, _, rfl, o, cK, dx, _, _, rfl, ho2, T.clK, T.nCl, look_pl _ _, d, _, rfl, DPut.k (k := .inl ((n + 1 : Nat) : Int)) hd2 hl, ?_⟩
    refine ⟨_, rfl, o, cK, dx, _, _, rfl, ?_, T.clK, T.nCl, look_pl ((n + 1 : Nat) : Int) d, ?_⟩
    · rw [upd_ne od]; exact ho2
    · exact q p np0
abbrev s_Claims_is_open : Stmt := inClass (topS 10) 2
abbrev N_Claims_is_open : List Str := ["self", "claim"]
abbrev P_Claims_is_open : List Str := ["self", "claim"]
theorem sc_Claims_is_open : FnScope N_Claims_is_open P_Claims_is_open (defScope s_Claims_is_open) := ⟨rfl, rfl, rfl, by decide +kernel, rfl, by decide +kernel, by decide +kernel⟩
def sp_Claims_is_open (C : Addr) : Sp := fun vs H Q _ => ∃ (o dx d : Addr) (n c : Int) (kvs : List (Key × V)), vs = [.ref o, .int c] ∧ H o = some (.ins C dx (flP n d)) ∧ H d = some (.dK kvs) ∧ Q (.bl (valV kvs (.inl c)).isSome) H
theorem ok_Claims_is_open {f : Addr} {fd : FuncData} (F : Fun K "is_open" "Claims.is_open" s_Claims_is_open f fd) (T : Tk K mg cK cL) : FnOk P w K mg base CX0 1 f fd P_Claims_is_open (sp_Claims_is_open cK) := by
  refine F.ok sc_Claims_is_open (fun vs H Q E h => ?_) (fun cdv A outer s H vs Q E hr h => ?_)
  · obtain ⟨_, _, _, _, _, _, rfl, _⟩ := h
    rfl
  · obtain ⟨o, dx, d, n, c, kvs, rfl, ho, hd, q⟩ := h
    have nd := sc_Claims_is_open.nd
    have hu := hu_of hr
    refine ⟨_, pss_one (ps_ret (pe_cmp (pc_din hu (pv 1) (pe_fld (pv 0) rfl)))), ?_⟩
    exact ⟨_, rfl, _, rfl, o, cK, dx, _, _, rfl, ho, T.clK, T.nCp, look_pp _ _, d, _, rfl, DGet.k (k := .inl c) hd, q⟩
abbrev s_Claims_pin : Stmt := inClass (topS 10) 3
abbrev N_Claims_pin : List Str := ["self", "claim", "address"]
abbrev P_Claims_pin : List Str := ["self", "claim", "address"]
theorem sc_Claims_pin : FnScope N_Claims_pin P_Claims_pin (defScope s_Claims_pin) := ⟨rfl, rfl, rfl, by decide +kernel, rfl, by decide +kernel, by decide +kernel⟩
def sp_Claims_pin (C : Addr) : Sp := fun vs H Q _ => ∃ (o dx d di : Addr) (n c : Int) (x : Str) (kvs ks : List (Key × V)), vs = [.ref o, .int c, .str x] ∧ H o = some (.ins C dx (flP n d)) ∧ H d = some (.dK kvs) ∧ valV kvs (.inl c) = some (.ref di) ∧ H di = some (.dK ks) ∧ ks.length < sizeLine ∧
  Q .non (L2.upd H di (.dK (putK ks (.inr x) (.bl true))))
theorem ok_Claims_pin {f : Addr} {fd : FuncData} (F : Fun K "pin" "Claims.pin" s_Claims_pin f fd) (T : Tk K mg cK cL) : FnOk P w K mg base CX0 1 f fd P_Claims_pin (sp_Claims_pin cK) := by
  refine F.ok sc_Claims_pin (fun vs H Q E h => ?_) (fun cdv A outer s H vs Q E hr h => ?_)
  · obtain ⟨_, _, _, _, _, _, _, _, _, rfl, _⟩ := h
    rfl
  · obtain ⟨o, dx, d, di, n, c, x, kvs, ks, rfl, ho, hd, hv, hi, hl, q⟩ := h
    have nd := sc_Claims_pin.nd
    have hu := hu_of hr
    refine ⟨_, pss_one (ps_dput hu (pe_dget hu (pe_fld (pv 0) rfl) (pv 1) (fun _ _ => rfl)) (pv 2) pe_bl rfl), ?_⟩
    exact ⟨_, rfl, o, cK, dx, _, _, rfl, ho, T.clK, T.nCp, look_pp _ _, _, rfl, d, _, rfl, by rw [← hv]; exact DGet.k (k := .inl c) hd, _, rfl, di, _, rfl, DPut.k (k := .inr x) hi hl, q⟩
abbrev s_Claims_end : Stmt := inClass (topS 10) 4
abbrev N_Claims_end : List Str := ["self", "claim"]
abbrev P_Claims_end : List Str := ["self", "claim"]
theorem sc_Claims_end : FnScope N_Claims_end P_Claims_end (defScope s_Claims_end) := ⟨rfl, rfl, rfl, by decide +kernel, rfl, by decide +kernel, by decide +kernel⟩
def sp_Claims_end (C : Addr) : Sp := fun vs H Q _ => ∃ (o dx d : Addr) (n c : Int) (kvs : List (Key × V)), vs = [.ref o, .int c] ∧ H o = some (.ins C dx (flP n d)) ∧ H d = some (.dK kvs) ∧
  (∀ v, valV kvs (.inl c) = some v → Q .non (L2.upd H d (.dK (dropK kvs (.inl c))))) ∧ (valV kvs (.inl c) = none → Q .non H)
theorem ok_Claims_end {f : Addr} {fd : FuncData} (F : Fun K "end" "Claims.end" s_Claims_end f fd) (T : Tk K mg cK cL) : FnOk P w K mg base CX0 1 f fd P_Claims_end (sp_Claims_end cK) := by
  refine F.ok sc_Claims_end (fun vs H Q E h => ?_) (fun cdv A outer s H vs Q E hr h => ?_)
  · obtain ⟨_, _, _, _, _, _, rfl, _⟩ := h
    rfl
  · obtain ⟨o, dx, d, n, c, kvs, rfl, ho, hd, q1, q2⟩ := h
    have nd := sc_Claims_end.nd
    refine ⟨_, pss_one (ps_expr (pe_dpop2 (pe_fld (pv 0) rfl) (pv 1) pe_non ⟨rfl, rfl, rfl, rfl⟩)), ?_⟩
    exact ⟨_, rfl, o, cK, dx, _, _, rfl, ho, T.clK, T.nCp, look_pp _ _, d, rfl, .inl ⟨_, .inl hd⟩, _, rfl, kvs, .inl c, hd, rfl, q1, q2⟩
abbrev s_Claims_numbers : Stmt := inClass (topS 10) 5
abbrev N_Claims_numbers : List Str := ["self"]
abbrev P_Claims_numbers : List Str := ["self"]
theorem sc_Claims_numbers : FnScope N_Claims_numbers P_Claims_numbers (defScope s_Claims_numbers) := ⟨rfl, rfl, rfl, by decide +kernel, rfl, by decide +kernel, by decide +kernel⟩
def sp_Claims_numbers (C : Addr) : Sp := fun vs H Q _ => ∃ (o dx d : Addr) (n : Int) (kvs : List (Key × V)) (ks : List Int), vs = [.ref o] ∧ H o = some (.ins C dx (flP n d)) ∧ H d = some (.dK kvs) ∧ kvs.map (·.1) = ks.map Sum.inl ∧
  ∀ (ys : List Int) p, ys.Perm ks → ys.Pairwise (· ≤ ·) → H p = none → Q (.ref p) (L2.upd H p (.lst (ys.map V.int)))
theorem ok_Claims_numbers {f : Addr} {fd : FuncData} (F : Fun K "numbers" "Claims.numbers" s_Claims_numbers f fd) (T : Tk K mg cK cL) : FnOk P w K mg base CX0 1 f fd P_Claims_numbers (sp_Claims_numbers cK) := by
  refine F.ok sc_Claims_numbers (fun vs H Q E h => ?_) (fun cdv A outer s H vs Q E hr h => ?_)
  · obtain ⟨_, _, _, _, _, _, rfl, _⟩ := h
    rfl
  · obtain ⟨o, dx, d, n, kvs, ks, rfl, ho, hd, ek, q⟩ := h
    have nd := sc_Claims_numbers.nd
    refine ⟨_, pss_one (ps_ret (pe_callB (cr_sortedDIL rfl) (by rfl) T.z_sorted (by decide +kernel) (pa_cons (pe_fld (pv 0) rfl) pa_nil))), ?_⟩
    exact ⟨_, rfl, o, cK, dx, _, _, rfl, ho, T.clK, T.nCp, look_pp _ _, d, kvs, ks, rfl, hd, ek, q⟩
/-! ### Uploads -/
abbrev s_Uploads___init : Stmt := inClass (topS 35) 0
abbrev N_Uploads___init : List Str := ["self"]
abbrev P_Uploads___init : List Str := ["self"]
theorem sc_Uploads___init : FnScope N_Uploads___init P_Uploads___init (defScope s_Uploads___init) := ⟨rfl, rfl, rfl, by decide +kernel, rfl, by decide +kernel, by decide +kernel⟩
def sp_Uploads___init (C : Addr) : Sp := fun vs H Q _ => ∃ (o dx : Addr), vs = [.ref o] ∧ H o = some (.ins C dx []) ∧ ∀ d, H d = none → Q .non (L2.upd (L2.upd (L2.upd H o (.ins C dx [("_last", .int 0)])) d (.dK [])) o (.ins C dx (flT 0 d)))
theorem ok_Uploads___init {f : Addr} {fd : FuncData} (F : Fun K "__init__" "Uploads.__init__" s_Uploads___init f fd) (T : Tk K mg cK cL) : FnOk P w K mg base CX0 1 f fd P_Uploads___init (sp_Uploads___init cL) := by
  refine F.ok sc_Uploads___init (fun vs H Q E h => ?_) (fun cdv A outer s H vs Q E hr h => ?_)
  · obtain ⟨_, _, rfl, _⟩ := h
    rfl
  · obtain ⟨o, dx, rfl, ho, q⟩ := h
    have nd := sc_Uploads___init.nd
    refine ⟨_, pss_cons (ps_fld (pv 0) pe_int rfl)
  (pss_one (ps_fld (pv 0) pe_dnewK rfl)), ?_⟩
    refine ⟨_, rfl, o, cL, dx, [], rfl, ho, T.clL, T.nUl, by decide, fun d nd => ⟨_, rfl, o, cL, dx, [("_last", .int 0)], rfl, ?_, T.clL, T.nUt, by decide, ?_⟩⟩
    · have : o ≠ d := fun e => by rw [← e, upd_same] at nd; cases nd
      rw [upd_ne this]
      exact upd_same
    · refine q d ?_
      by_cases e : d = o
      · rw [e, upd_same] at nd; cases nd
      · rw [upd_ne e] at nd; exact nd
abbrev s_Uploads_begin : Stmt := inClass (topS 35) 1
abbrev N_Uploads_begin : List Str := ["self"]
abbrev P_Uploads_begin : List Str := ["self"]
theorem sc_Uploads_begin : FnScope N_Uploads_begin P_Uploads_begin (defScope s_Uploads_begin) := ⟨rfl, rfl, rfl, by decide +kernel, rfl, by decide +kernel, by decide +kernel⟩
def sp_Uploads_begin (C : Addr) : Sp := fun vs H Q _ => ∃ (o dx d : Addr) (n : Nat) (kvs : List (Key × V)), vs = [.ref o] ∧ H o = some (.ins C dx (flT n d)) ∧ H d = some (.dK kvs) ∧ kvs.length < sizeLine ∧
  Q (.int ((n + 1 : Nat) : Int)) (L2.upd (L2.upd H o (.ins C dx (flT ((n + 1 : Nat) : Int) d))) d (.dK (putK kvs (.inl ((n + 1 : Nat) : Int)) (.str ""))))
theorem ok_Uploads_begin {f : Addr} {fd : FuncData} (F : Fun K "begin" "Uploads.begin" s_Uploads_begin f fd) (T : Tk K mg cK cL) : FnOk P w K mg base CX0 1 f fd P_Uploads_begin (sp_Uploads_begin cL) := by
  refine F.ok sc_Uploads_begin (fun vs H Q E h => ?_) (fun cdv A outer s H vs Q E hr h => ?_)
  · obtain ⟨_, _, _, _, _, rfl, _⟩ := h
    rfl
  · obtain ⟨o, dx, d, n, kvs, rfl, ho, hd, hl, q⟩ := h
    have nd := sc_Uploads_begin.nd
    have hu := hu_of hr
    refine ⟨_, pss_cons (ps_fldaug (pv 0) pe_int in_add)
  (pss_cons (ps_dput hu (pe_fld (pv 0) rfl) (pe_fld (pv 0) rfl) pe_str rfl)
  (pss_one (ps_ret (pe_fld (pv 0) rfl)))), ?_⟩
    have e1 : (n : Int) + 1 = ((n + 1 : Nat) : Int) := by omega
    have od : o ≠ d := ne_of ho hd (by intro z; cases z)
    refine ⟨_, rfl, o, cL, dx, flT n d, _, rfl, ho, T.clL, T.nUl, look_tl _ _, _, _, rfl, rfl, dx, flT n d, ho, (by show 2 < 1000; decide), ?_⟩
    rw [e1, put_tl]
    have hd2 : (L2.upd H o (.ins cL dx (flT ((n + 1 : Nat) : Int) d))) d = some (.dK kvs) := by rw [upd_ne od.symm]; exact hd
    refine ⟨_, rfl, o, cL, dx, _, _, rfl, upd_same, T.clL, T.nUt, look_tt _ _, _, rfl, o, cL, dx, _, _, rfl, upd_same, T.clL, T.nUl, look_tl _ _, d, _, rfl, DPut.k (k := .inl ((n + 1 : Nat) : Int)) hd2 hl, ?_⟩
    refine ⟨_, rfl, o, cL, dx, _, _, rfl, ?_, T.clL, T.nUl, look_tl ((n + 1 : Nat) : Int) d, q⟩
    rw [upd_ne od]; exact upd_same
abbrev s_Uploads_add_part : Stmt := inClass (topS 35) 2
abbrev N_Uploads_add_part : List Str := ["self", "upload", "at", "part"]
abbrev P_Uploads_add_part : List Str := ["self", "upload", "at", "part"]
theorem sc_Uploads_add_part : FnScope N_Uploads_add_part P_Uploads_add_part (defScope s_Uploads_add_part) := ⟨rfl, rfl, rfl, by decide +kernel, rfl, by decide +kernel, by decide +kernel⟩
/-- the dict behind a part -/
def parted (kvs : List (Key × V)) (u : Int) (z part : Str) (at_ : Int) : List (Key × V) := if at_ = (z.length : Int) then putK kvs (.inl u) (.str (z ++ part)) else kvs
def sp_Uploads_add_part (C : Addr) : Sp := fun vs H Q _ => ∃ (o dx d : Addr) (n u at_ : Int) (part : Str) (kvs : List (Key × V)), vs = [.ref o, .int u, .int at_, .str part] ∧ H o = some (.ins C dx (flT n d)) ∧ H d = some (.dK kvs) ∧ kvs.length < sizeLine ∧
  (valV kvs (.inl u) = none → Q .non H) ∧ (∀ v, valV kvs (.inl u) = some v → ∃ z : Str, v = .str z ∧ z.length + part.length ≤ sizeLine ∧
    (at_ = (z.length : Int) → Q (.int ((z ++ part).length : Nat)) (L2.upd H d (.dK (putK kvs (.inl u) (.str (z ++ part)))))) ∧ (at_ ≠ (z.length : Int) → Q (.int (z.length : Nat)) H))
theorem ok_Uploads_add_part {f : Addr} {fd : FuncData} (F : Fun K "add_part" "Uploads.add_part" s_Uploads_add_part f fd) (T : Tk K mg cK cL) : FnOk P w K mg base CX0 1 f fd P_Uploads_add_part (sp_Uploads_add_part cL) := by
  refine F.ok sc_Uploads_add_part (fun vs H Q E h => ?_) (fun cdv A outer s H vs Q E hr h => ?_)
  · obtain ⟨_, _, _, _, _, _, _, _, rfl, _⟩ := h
    rfl
  · obtain ⟨o, dx, d, n, u, at_, part, kvs, rfl, ho, hd, hl, q1, q2⟩ := h
    have nd := sc_Uploads_add_part.nd
    have hu := hu_of hr
    refine ⟨_, pss_cons (ps_if (pt_cmp (pc_dnotin hu (pv 1) (pe_fld (pv 0) rfl)))
    (pss_one (ps_ret pe_non))
    (pss_nil))
  (pss_cons (ps_if (pt_cmpR op_eq (pv 2) (pe_callB call_len_str (by rfl) T.z_len (by decide +kernel) (pa_cons (pe_dget hu (pe_fld (pv 0) rfl) (pv 1) (fun _ _ => rfl)) pa_nil)) (nomark _))
    (pss_one (ps_daug hu (pe_fld (pv 0) rfl) (pv 1) (pv 3) in_addS (fun _ _ _ => rfl)))
    (pss_nil))
  (pss_one (ps_ret (pe_callB call_len_str (by rfl) T.z_len (by decide +kernel) (pa_cons (pe_dget hu (pe_fld (pv 0) rfl) (pv 1) (fun _ _ => rfl)) pa_nil))))), ?_⟩
    refine ⟨_, rfl, _, rfl, o, cL, dx, _, _, rfl, ho, T.clL, T.nUt, look_tt _ _, d, _, rfl, DGet.k (k := .inl u) hd, _, rfl, ?_⟩
    cases e : valV kvs (.inl u : Key) with
    | none => exact iteT (q1 e)
    | some v =>
      obtain ⟨z, rfl, hz, qa, qb⟩ := q2 v e
      refine iteF ⟨_, rfl, _, rfl, o, cL, dx, _, _, rfl, ho, T.clL, T.nUt, look_tt _ _, _, rfl, d, .str z, rfl, ?_, z, rfl, ?_, rfl, _, rfl, ?_⟩
      · rw [← e]; exact DGet.k (k := .inl u) hd
      · omega
      · refine ite2 (fun h => ?_) (fun h => ?_)
        · have hat : at_ = (z.length : Int) := by
            have := of_decide_eq_true h
            injection this
          have ne : o ≠ d := ne_of ho hd (by intro z; cases z)
          refine ⟨_, rfl, o, cL, dx, _, _, rfl, ho, T.clL, T.nUt, look_tt _ _, _, rfl, d, .str z, rfl, by rw [← e]; exact DGet.k (k := .inl u) hd, _, rfl, z, part, rfl, rfl, hz, _, DPut.k (k := .inl u) hd hl, ?_⟩
          refine ⟨_, rfl, o, cL, dx, _, _, rfl, by rw [upd_ne ne]; exact ho, T.clL, T.nUt, look_tt _ _, _, rfl, d, .str (z ++ part), rfl, ?_, z ++ part, rfl, ?_, qa hat⟩
          · have := DGet.k (k := .inl u) (show (L2.upd H d (.dK (putK kvs (.inl u) (.str (z ++ part))))) d = some (.dK (putK kvs (.inl u) (.str (z ++ part)))) from upd_same)
            rw [valV_put, if_pos rfl] at this
            exact this
          · rw [TL.len_tl, TL.tl_append, List.length_append, ← TL.len_tl, ← TL.len_tl]; exact hz
        · have hat : at_ ≠ (z.length : Int) := fun e2 => h (decide_eq_true (by rw [e2]))
          refine ⟨_, rfl, o, cL, dx, _, _, rfl, ho, T.clL, T.nUt, look_tt _ _, _, rfl, d, .str z, rfl, ?_, z, rfl, ?_, qb hat⟩
          · rw [← e]; exact DGet.k (k := .inl u) hd
          · omega
abbrev s_Uploads_finish : Stmt := inClass (topS 35) 3
abbrev N_Uploads_finish : List Str := ["self", "upload"]
abbrev P_Uploads_finish : List Str := ["self", "upload"]
theorem sc_Uploads_finish : FnScope N_Uploads_finish P_Uploads_finish (defScope s_Uploads_finish) := ⟨rfl, rfl, rfl, by decide +kernel, rfl, by decide +kernel, by decide +kernel⟩
def sp_Uploads_finish (C : Addr) : Sp := fun vs H Q _ => ∃ (o dx d : Addr) (n u : Int) (kvs : List (Key × V)), vs = [.ref o, .int u] ∧ H o = some (.ins C dx (flT n d)) ∧ H d = some (.dK kvs) ∧
  (∀ v, valV kvs (.inl u) = some v → Q v (L2.upd H d (.dK (dropK kvs (.inl u))))) ∧ (valV kvs (.inl u) = none → Q .non H)
theorem ok_Uploads_finish {f : Addr} {fd : FuncData} (F : Fun K "finish" "Uploads.finish" s_Uploads_finish f fd) (T : Tk K mg cK cL) : FnOk P w K mg base CX0 1 f fd P_Uploads_finish (sp_Uploads_finish cL) := by
  refine F.ok sc_Uploads_finish (fun vs H Q E h => ?_) (fun cdv A outer s H vs Q E hr h => ?_)
  · obtain ⟨_, _, _, _, _, _, rfl, _⟩ := h
    rfl
  · obtain ⟨o, dx, d, n, u, kvs, rfl, ho, hd, q1, q2⟩ := h
    have nd := sc_Uploads_finish.nd
    refine ⟨_, pss_one (ps_ret (pe_dpop2 (pe_fld (pv 0) rfl) (pv 1) pe_non ⟨rfl, rfl, rfl, rfl⟩)), ?_⟩
    exact ⟨_, rfl, o, cL, dx, _, _, rfl, ho, T.clL, T.nUt, look_tt _ _, d, rfl, .inl ⟨_, .inl hd⟩, _, rfl, kvs, .inl u, hd, rfl, q1, q2⟩
abbrev s_Uploads_forget : Stmt := inClass (topS 35) 4
abbrev N_Uploads_forget : List Str := ["self"]
abbrev P_Uploads_forget : List Str := ["self"]
theorem sc_Uploads_forget : FnScope N_Uploads_forget P_Uploads_forget (defScope s_Uploads_forget) := ⟨rfl, rfl, rfl, by decide +kernel, rfl, by decide +kernel, by decide +kernel⟩
def sp_Uploads_forget (C : Addr) : Sp := fun vs H Q _ => ∃ (o dx d : Addr) (n : Int), vs = [.ref o] ∧ H o = some (.ins C dx (flT n d)) ∧ ∀ p, H p = none → Q .non (L2.upd (L2.upd H p (.dK [])) o (.ins C dx (flT n p)))
theorem ok_Uploads_forget {f : Addr} {fd : FuncData} (F : Fun K "forget" "Uploads.forget" s_Uploads_forget f fd) (T : Tk K mg cK cL) : FnOk P w K mg base CX0 1 f fd P_Uploads_forget (sp_Uploads_forget cL) := by
  refine F.ok sc_Uploads_forget (fun vs H Q E h => ?_) (fun cdv A outer s H vs Q E hr h => ?_)
  · obtain ⟨_, _, _, _, rfl, _⟩ := h
    rfl
  · obtain ⟨o, dx, d, n, rfl, ho, q⟩ := h
    have nd := sc_Uploads_forget.nd
    refine ⟨_, pss_one (ps_fld (pv 0) pe_dnewK rfl), ?_⟩
    exact fun p np => ⟨_, rfl, o, cL, dx, flT n d, rfl, by rw [upd_ne (ne_of_none ho np)]; exact ho, T.clL, T.nUt, (by show 2 < 1000; decide), q p np⟩
end
end LW
namespace LW
open PySem PySem.Spec PyProof.Rows L2 GxR
/-- an entry: the claim's number, its inner dict, that dict's keys -/
structure Ent where
  i : Nat
  di : Addr
  ks : List Str
def outD (E : List Ent) : List (Key × V) := E.map fun e => (Sum.inl (e.i : Int), V.ref e.di)
abbrev s_Claims_pinned : Stmt := inClass (topS 10) 6
abbrev N_Claims_pinned : List Str := ["self", "pins", "address"]
abbrev P_Claims_pinned : List Str := ["self"]
theorem sc_Claims_pinned : FnScope N_Claims_pinned P_Claims_pinned (defScope s_Claims_pinned) := ⟨rfl, rfl, rfl, by decide +kernel, rfl, by decide +kernel, by decide +kernel⟩
def sp_Claims_pinned (C : Addr) : Sp := fun vs H Q _ => ∃ (o dx d : Addr) (n : Int) (E : List Ent), vs = [.ref o] ∧ H o = some (.ins C dx (flP n d)) ∧ H d = some (.dK (outD E)) ∧ (∀ e ∈ E, H e.di = some (.dK (inn e.ks))) ∧ (d :: E.map (·.di)).Nodup ∧
  (E.map (·.ks.length)).sum ≤ 2500 ∧ ∀ (ys : List Str) p H', H p = none → Same H H' → H' p = some (.lst (ys.map V.str)) → sortedS ys = true → ys.Nodup → (∀ x, x ∈ ys ↔ ∃ e ∈ E, x ∈ e.ks) → Q (.ref p) H'
theorem But.trans' {D : Addr} {H H1 H2 : Hp} (h : But D H H1) (k : But D H1 H2) : But D H H2 := fun b hb => (k b hb).trans (h b hb)
section
variable {P : Program} {w : World} {K : PySem.W.Frag} {mg : Str → Option Value} {base : Heap} {cK cL : Addr}
theorem ok_Claims_pinned {f : Addr} {fd : FuncData} (F : Fun K "pinned" "Claims.pinned" s_Claims_pinned f fd) (T : Tk K mg cK cL) : FnOk P w K mg base CX0 1 f fd P_Claims_pinned (sp_Claims_pinned cK) := by
  refine F.ok sc_Claims_pinned (fun vs H Q E h => ?_) (fun cdv A outer s H vs Q E hr h => ?_)
  · obtain ⟨_, _, _, _, _, rfl, _⟩ := h
    rfl
  · obtain ⟨o, dx, d, n, E', rfl, ho, hd, hi, ndp, hsum, q⟩ := h
    have nd := sc_Claims_pinned.nd
    refine ⟨_, pss_one (ps_ret (pe_callB (cr_sortedT rfl) (by rfl) T.z_sorted (by decide +kernel) (pa_cons (pe_locks (pe_scT2 (own := [("pins", 1), ("address", 2)]) (g := gName 1) (tt := tYes) (g1 := gName 2) (tt1 := tYes) (vs1 := [2]) rfl nd
      (pi_values (pe_fld (pv 0) rfl)) (blkOk_by (N := N_Claims_pinned) (sc := defScope s_Claims_pinned) (by decide +kernel)) (by decide)
      (fun _ _ _ _ _ => pg_name (i := 1) nd rfl (Or.inl rfl)) (fun _ _ _ _ _ => pts_nil) (fun _ _ _ _ _ => pi_keys (pv 1)) (fun _ _ _ _ _ => pg_name (i := 2) nd rfl (Or.inl rfl)) (fun _ _ _ _ _ => pts_nil) (fun _ _ _ _ _ => pv 2))) pa_nil))), ?_⟩
    have at_i : ∀ {i : Nat} {e : Ent}, E'[i]? = some e → e ∈ E' := fun h => List.mem_of_getElem? h
    refine ⟨d :: E'.map (·.di), lk_all _ H _ ndp (fun b hb => ?_) (fun H2 a1 a2 => ?_)⟩
    · rcases List.mem_cons.mp hb with rfl | hb
      · exact ⟨_, hd⟩
      · obtain ⟨e, he, rfl⟩ := List.mem_map.mp hb
        exact ⟨_, hi e he⟩
    have odn : o ∉ d :: E'.map (·.di) := fun z => by
      rcases List.mem_cons.mp z with rfl | z
      · rw [ho] at hd; cases hd
      · obtain ⟨e, he, rfl⟩ := List.mem_map.mp z
        have := hi e he
        rw [ho] at this; cases this
    have ho2 : H2 o = some (.ins cK dx (flP n d)) := by rw [a1 o odn]; exact ho
    obtain ⟨od, hd2⟩ := a2 d List.mem_cons_self _ hd
    refine ⟨_, rfl, o, cK, dx, _, _, rfl, ho2, T.clK, T.nCp, look_pp n d, d, od, _, rfl, hd2, fun D nD => ?_⟩
    have tr : ∀ b ∈ d :: E'.map (·.di), b ≠ D := fun b hb z => by
      subst z
      rcases List.mem_cons.mp hb with rfl | hb'
      · rw [hd2] at nD; cases nD
      · obtain ⟨e, he, rfl⟩ := List.mem_map.mp hb'
        obtain ⟨_, z⟩ := a2 e.di hb _ (hi e he)
        rw [z] at nD; cases nD
    have Dn : D ∉ d :: E'.map (·.di) := fun z => tr D z rfl
    have lo : (outD E').length = E'.length := List.length_map _
    refine walk_inv (walk_values (d := d) (o := od) (kvs := outD E')) (Body := fun x H' Nx => gName 1 x (wipe (L2.start N_Claims_pinned [V.ref o]) [1, 2]) H' fun σ2 H2 => wipe σ2 [1, 2] = wipe (L2.start N_Claims_pinned [V.ref o]) [1, 2] ∧ _)
      (fun i H' => But D H2 H' ∧ ∃ (S : Str → Bool) (c : Nat), H' D = some (SetTO P w D S c) ∧ c ≤ ((E'.take i).map (·.ks.length)).sum ∧ ∀ x, S x = true ↔ ∃ e ∈ E'.take i, x ∈ e.ks) ⟨But.upd, fun _ => false, 0, upd_same, Nat.zero_le _, by simp⟩ (fun i H' _ h => ?_) (fun i v H4 H' hlt h y => ?_) (fun H' h => ?_)
    · rw [h.1 d (tr d List.mem_cons_self)]; exact hd2
    · obtain ⟨rfl, k0, hk⟩ := y
      obtain ⟨bt, S, c, hD, hc, hS⟩ := h
      rw [outD, List.getElem?_map] at hk
      cases ei : E'[i]? with
      | none => rw [ei] at hk; cases hk
      | some e =>
        rw [ei] at hk
        cases hk
        have he := at_i ei
        obtain ⟨oe, hoe⟩ := a2 e.di (List.mem_cons_of_mem _ (List.mem_map.mpr ⟨e, he, rfl⟩)) _ (hi e he)
        have nde : e.di ≠ D := tr _ (List.mem_cons_of_mem _ (List.mem_map.mpr ⟨e, he, rfl⟩))
        have tk : E'.take (i + 1) = E'.take i ++ [e] := by rw [List.take_add_one, ei]; rfl
        refine ⟨rfl, tyes ⟨_, rfl, e.di, oe, rfl, .inl ⟨inn e.ks, by rw [bt e.di nde]; exact hoe, ?_⟩⟩⟩
        have li : (inn e.ks).length = e.ks.length := List.length_map _
        have stk : ((E'.take (i + 1)).map (·.ks.length)).sum = ((E'.take i).map (·.ks.length)).sum + e.ks.length := by rw [tk, List.map_append, List.sum_append]; simp
        have sle : ((E'.take (i + 1)).map (·.ks.length)).sum ≤ 2500 := Nat.le_trans (by
          conv => rhs; rw [← List.take_append_drop (i + 1) E', List.map_append, List.sum_append]
          exact Nat.le_add_right _ _) hsum
        refine walk_inv (walk_keys (d := e.di) (o := oe) (kvs := inn e.ks))
          (fun j H' => But D H2 H' ∧ ∃ (S : Str → Bool) (c : Nat), H' D = some (SetTO P w D S c) ∧ c ≤ ((E'.take i).map (·.ks.length)).sum + j ∧ ∀ x, S x = true ↔ (∃ e ∈ E'.take i, x ∈ e.ks) ∨ x ∈ e.ks.take j) ⟨bt, S, c, hD, hc, by simp [hS]⟩ (fun j H' _ h => ?_) (fun j v H5 H' hlj h y => ?_) (fun H' h => ?_)
        · rw [h.1 e.di nde]; exact hoe
        · obtain ⟨rfl, k1, v1, hk1, rfl⟩ := y
          obtain ⟨bt1, S1, c1, hD1, hc1, hS1⟩ := h
          rw [inn, List.getElem?_map] at hk1
          cases ej : e.ks[j]? with
          | none => rw [ej] at hk1; cases hk1
          | some x =>
            rw [ej] at hk1
            cases hk1
            have tj : e.ks.take (j + 1) = e.ks.take j ++ [x] := by rw [List.take_add_one, ej]; rfl
            refine ⟨rfl, tyes ⟨_, rfl, x, S1, c1, rfl, hD1, ?_, bt1.trans' But.upd, _, _, upd_same, ?_, fun y => ?_⟩⟩
            · have : (2600 : Nat) + 1 < scanBound := by unfold scanBound; decide
              have : j < e.ks.length := by rw [← li]; exact hlj
              omega
            · split <;> omega
            · rw [tj, List.mem_append, List.mem_singleton, Bool.or_eq_true, decide_eq_true_eq, hS1 y, or_assoc]
        · obtain ⟨bt1, S1, c1, hD1, hc1, hS1⟩ := h
          refine ⟨bt1, S1, c1, hD1, by omega, fun x => ?_⟩
          rw [hS1 x, tk, li, List.take_length]
          constructor
          · rintro (⟨e1, h1, h2⟩ | h1)
            · exact ⟨e1, List.mem_append_left _ h1, h2⟩
            · exact ⟨e, List.mem_append_right _ (List.mem_singleton.mpr rfl), h1⟩
          · rintro ⟨e1, h1, h2⟩
            rcases List.mem_append.mp h1 with h1 | h1
            · exact .inl ⟨e1, h1, h2⟩
            · rw [List.mem_singleton.mp h1] at h2
              exact .inr h2
    · obtain ⟨bt, S, c, hD, hc, hS⟩ := h
      refine ⟨fun b hb => bt b (tr b hb), ?_⟩
      have eb : back (d :: E'.map (·.di)) H H' = L2.upd H D (SetTO P w D S c) := by
        funext b
        unfold back
        by_cases hb : b ∈ d :: E'.map (·.di)
        · rw [if_pos hb, upd_ne (tr b hb)]
        · rw [if_neg hb]
          by_cases hbD : b = D
          · rw [hbD, hD, upd_same]
          · rw [upd_ne hbD, bt b hbD, a1 b hb]
      have nD0 : H D = none := by rw [← a1 D Dn]; exact nD
      rw [eb]
      refine ⟨D, S, c, rfl, upd_same, fun ys p h1 h2 h3 h4 np => ?_⟩
      have np0 : H p = none := by
        by_cases z : p = D
        · rw [z, upd_same] at np; cases np
        · rw [upd_ne z] at np; exact np
      refine q ys p _ np0 ((same_upd nD0).trans (same_upd np)) upd_same h1 h2 fun x => ?_
      rw [h3 x, hS x, lo, List.take_length]
end
end LW
namespace LW
open PySem PySem.Spec PyProof.Rows L2 GxR
theorem SC.move {C U B1 B2 c o d : Addr} {s : Cs} {B : Blbs} {H H' : Hp} {F : Addr → Prop} (h : SC C U B1 B2 c o d s B H) (g : GrS F H H') (n : ¬ F c ∧ ¬ F s.wt ∧ ¬ F s.mm ∧ ¬ F o ∧ ¬ F d) (nt : ∀ b xs, H b = some (.tup xs) → ¬ F b) : SC C U B1 B2 c o d s B H' :=
  ⟨h.co.grs g ⟨n.1, n.2.1, n.2.2.1⟩, h.at_.grs g n.2.2.2.1 n.2.2.2.2 nt, h.oc⟩
/-! ### names, uploads, claims as dicts -/
def nmK (N : List (Str × Str)) : List (Key × V) := N.map fun e => (Sum.inr e.1, V.str e.2)
def lkN : List (Str × Str) → Str → Option Str
  | [], _ => none
  | (b, x) :: r, a => if b = a then some x else lkN r a
def setN (N : List (Str × Str)) (a x : Str) : List (Str × Str) := if a ∈ N.map (·.1) then N.map (fun e => if e.1 = a then (e.1, x) else e) else N ++ [(a, x)]
def dropN (N : List (Str × Str)) (a : Str) : List (Str × Str) := N.filter fun e => decide (e.1 ≠ a)
theorem nm_val (N : List (Str × Str)) (a : Str) : valV (nmK N) (.inr a) = (lkN N a).map V.str := by
  induction N with
  | nil => rfl
  | cons e r ih =>
    obtain ⟨b, x⟩ := e
    rw [nmK, List.map_cons]
    unfold lkN
    by_cases hb : b = a
    · rw [if_pos hb, valV_pos (by rw [hb])]; rfl
    · rw [if_neg hb, valV_neg (fun z => hb (by injection z))]; exact ih
theorem nm_put (N : List (Str × Str)) (a x : Str) : putK (nmK N) (.inr a) (.str x) = nmK (setN N a x) := by
  have any : ((nmK N).any fun kv => decide (kv.1 = (.inr a : Key))) = decide (a ∈ N.map (·.1)) := by
    rw [Bool.eq_iff_iff, List.any_eq_true, decide_eq_true_eq]
    constructor
    · rintro ⟨kv, h, e⟩
      obtain ⟨y, hy, rfl⟩ := List.mem_map.mp h
      have e := of_decide_eq_true e
      exact List.mem_map.mpr ⟨y, hy, by injection e⟩
    · intro h
      obtain ⟨y, hy, e⟩ := List.mem_map.mp h
      exact ⟨_, List.mem_map.mpr ⟨y, hy, rfl⟩, decide_eq_true (by rw [← e])⟩
  unfold putK setN
  rw [any]
  by_cases h : a ∈ N.map (·.1)
  · rw [if_pos (decide_eq_true h), if_pos h, nmK, nmK, List.map_map, List.map_map]
    apply List.map_congr_left
    intro e _
    show (if ((Sum.inr e.1 : Key)) = Sum.inr a then _ else _) = ((Sum.inr (if e.1 = a then (e.1, x) else e : Str × Str).1 : Key), V.str (if e.1 = a then (e.1, x) else e : Str × Str).2)
    by_cases h' : e.1 = a
    · rw [if_pos (by rw [h']), if_pos h']
    · rw [if_neg (fun z => h' (by injection z)), if_neg h']
  · rw [if_neg (by simpa using h), if_neg h, nmK, nmK, List.map_append]; rfl
theorem nm_drop (N : List (Str × Str)) (a : Str) : dropK (nmK N) (.inr a) = nmK (dropN N a) := by
  unfold dropK nmK dropN
  rw [List.filter_map]
  congr 1
  apply List.filter_congr
  intro e _
  show decide ((Sum.inr e.1 : Key) ≠ Sum.inr a) = _
  apply decide_eq_decide.mpr
  constructor
  · intro z h; exact z (by rw [h])
  · intro z h; exact z (by injection h)
theorem nm_drop0 {N : List (Str × Str)} {a : Str} (h : lkN N a = none) : dropN N a = N := by
  unfold dropN
  rw [List.filter_eq_self]
  intro e he
  refine decide_eq_true fun z => ?_
  induction N with
  | nil => cases he
  | cons f r ih =>
    obtain ⟨b, x⟩ := f
    unfold lkN at h
    by_cases hb : b = a
    · rw [if_pos hb] at h; cases h
    · rw [if_neg hb] at h
      rcases List.mem_cons.mp he with e' | he
      · rw [e'] at z; exact hb z
      · exact ih h he
theorem nm_len (N : List (Str × Str)) : (nmK N).length = N.length := List.length_map _
theorem outD_len (E : List Ent) : (outD E).length = E.length := List.length_map _
theorem od_dec {E : List Ent} (nd : (E.map (·.i)).Nodup) (c : Int) : (∃ e ∈ E, (e.i : Int) = c ∧ valV (outD E) (.inl c) = some (.ref e.di)) ∨ ((∀ e ∈ E, (e.i : Int) ≠ c) ∧ valV (outD E) (.inl c) = none) := by
  induction E with
  | nil => exact .inr ⟨fun e h => (nomatch h), rfl⟩
  | cons f r ih =>
    obtain ⟨n1, n2⟩ := List.nodup_cons.mp nd
    rw [outD, List.map_cons]
    by_cases hf : (f.i : Int) = c
    · exact .inl ⟨f, List.mem_cons_self, hf, valV_pos (by rw [hf])⟩
    · rw [valV_neg (fun z => hf (by injection z))]
      rcases ih n2 with ⟨e, he, h1, h2⟩ | ⟨h1, h2⟩
      · exact .inl ⟨e, List.mem_cons_of_mem _ he, h1, h2⟩
      · refine .inr ⟨fun e he => ?_, h2⟩
        rcases List.mem_cons.mp he with rfl | he
        · exact hf
        · exact h1 e he
theorem od_new {E : List Ent} {n : Nat} (h : ∀ e ∈ E, e.i ≤ n) (p : Addr) : putK (outD E) (.inl ((n + 1 : Nat) : Int)) (.ref p) = outD (E ++ [⟨n + 1, p, []⟩]) := by
  have : valV (outD E) (.inl ((n + 1 : Nat) : Int)) = none := by
    induction E with
    | nil => rfl
    | cons f r ih =>
      rw [outD, List.map_cons, valV_neg (fun z => ?_)]
      · exact ih fun e he => h e (List.mem_cons_of_mem _ he)
      · have h1 := h f List.mem_cons_self
        have : (f.i : Int) = ((n + 1 : Nat) : Int) := by injection z
        omega
  rw [putK_new _ this, outD, outD, List.map_append]; rfl
theorem od_drop (E : List Ent) (c : Int) : dropK (outD E) (.inl c) = outD (E.filter fun e => decide ((e.i : Int) ≠ c)) := by
  unfold dropK outD
  rw [List.filter_map]
  congr 1
  apply List.filter_congr
  intro e _
  show decide ((Sum.inl (e.i : Int) : Key) ≠ Sum.inl c) = _
  apply decide_eq_decide.mpr
  constructor
  · intro z h; exact z (by rw [h])
  · intro z h; exact z (by injection h)
def pinE (E : List Ent) (c : Int) (a : Str) : List Ent := E.map fun e => if (e.i : Int) = c then { e with ks := kadd e.ks a } else e
theorem pinE_di (E : List Ent) (c : Int) (a : Str) : (pinE E c a).map (·.di) = E.map (·.di) := by
  rw [pinE, List.map_map]
  apply List.map_congr_left
  intro e _
  show (if (e.i : Int) = c then { e with ks := kadd e.ks a } else e : Ent).di = e.di
  split <;> rfl
theorem pinE_i (E : List Ent) (c : Int) (a : Str) : (pinE E c a).map (·.i) = E.map (·.i) := by
  rw [pinE, List.map_map]
  apply List.map_congr_left
  intro e _
  show (if (e.i : Int) = c then { e with ks := kadd e.ks a } else e : Ent).i = e.i
  split <;> rfl
theorem pinE_out (E : List Ent) (c : Int) (a : Str) : outD (pinE E c a) = outD E := by
  rw [outD, outD, pinE, List.map_map]
  apply List.map_congr_left
  intro e _
  show ((Sum.inl ((if (e.i : Int) = c then { e with ks := kadd e.ks a } else e : Ent).i : Int) : Key), V.ref (if (e.i : Int) = c then { e with ks := kadd e.ks a } else e : Ent).di) = _
  split <;> rfl
/-- the uploads' dict -/
def tx (U : List (Nat × Str)) : List (Key × V) := U.map fun e => (Sum.inl (e.1 : Int), V.str e.2)
theorem tx_len (U : List (Nat × Str)) : (tx U).length = U.length := List.length_map _
theorem tx_none {U : List (Nat × Str)} {i : Int} (h : ∀ e ∈ U, (e.1 : Int) ≠ i) : valV (tx U) (.inl i) = none := by
  induction U with
  | nil => rfl
  | cons e r ih =>
    rw [tx, List.map_cons, valV_neg]
    · exact ih fun e' he => h e' (List.mem_cons_of_mem _ he)
    · intro z
      exact h e List.mem_cons_self (by injection z)
theorem tx_at : ∀ {U : List (Nat × Str)} {e : Nat × Str}, (U.map (·.1)).Nodup → e ∈ U → valV (tx U) (.inl (e.1 : Int)) = some (.str e.2)
  | [], e, _, h => by simp at h
  | x :: U, e, nd, h => by
    obtain ⟨n1, n2⟩ := List.nodup_cons.mp nd
    rw [tx, List.map_cons]
    rcases List.mem_cons.mp h with g | g
    · rw [g]; exact valV_pos rfl
    · rw [valV_neg (fun z => n1 ?_)]
      · exact tx_at n2 g
      · have : (x.1 : Int) = (e.1 : Int) := by injection z
        exact List.mem_map.mpr ⟨e, g, show e.1 = x.1 by omega⟩
theorem tx_dec {U : List (Nat × Str)} (nd : (U.map (·.1)).Nodup) (i : Int) : (∃ e ∈ U, (e.1 : Int) = i ∧ valV (tx U) (.inl i) = some (.str e.2)) ∨ ((∀ e ∈ U, (e.1 : Int) ≠ i) ∧ valV (tx U) (.inl i) = none) := by
  by_cases h : ∃ e ∈ U, (e.1 : Int) = i
  · obtain ⟨e, he, hi⟩ := h
    exact .inl ⟨e, he, hi, by rw [← hi]; exact tx_at nd he⟩
  · have h' : ∀ e ∈ U, (e.1 : Int) ≠ i := fun e he z => h ⟨e, he, z⟩
    exact .inr ⟨h', tx_none h'⟩
theorem tx_drop (U : List (Nat × Str)) (i : Int) : dropK (tx U) (.inl i) = tx (U.filter fun e => decide ((e.1 : Int) ≠ i)) := by
  unfold dropK tx
  rw [List.filter_map]
  congr 1
  apply List.filter_congr
  intro e _
  show decide ((Sum.inl (e.1 : Int) : Key) ≠ Sum.inl i) = _
  apply decide_eq_decide.mpr
  constructor
  · intro z h; exact z (by rw [h])
  · intro z h; exact z (by injection h)
theorem tx_new {U : List (Nat × Str)} {m : Nat} (h : ∀ e ∈ U, e.1 ≤ m) (z : Str) : putK (tx U) (.inl ((m + 1 : Nat) : Int)) (.str z) = tx (U ++ [(m + 1, z)]) := by
  rw [putK_new _ (tx_none fun e he => by have := h e he; omega), tx, tx, List.map_append]; rfl
def setU (U : List (Nat × Str)) (i : Nat) (z : Str) : List (Nat × Str) := U.map fun e => if e.1 = i then (e.1, z) else e
theorem setU_fst (U : List (Nat × Str)) (i : Nat) (z : Str) : (setU U i z).map (·.1) = U.map (·.1) := by
  rw [setU, List.map_map]
  apply List.map_congr_left
  intro e _
  show (if e.1 = i then (e.1, z) else e).1 = e.1
  split <;> rfl
theorem tx_put {U : List (Nat × Str)} {e0 : Nat × Str} (h : e0 ∈ U) (z : Str) : putK (tx U) (.inl (e0.1 : Int)) (.str z) = tx (setU U e0.1 z) := by
  unfold putK
  rw [if_pos, tx, tx, setU, List.map_map, List.map_map]
  · apply List.map_congr_left
    intro e he
    show (if ((Sum.inl (e.1 : Int) : Key)) = Sum.inl (e0.1 : Int) then _ else _) = ((Sum.inl ((if e.1 = e0.1 then (e.1, z) else e : Nat × Str).1 : Int) : Key), V.str (if e.1 = e0.1 then (e.1, z) else e : Nat × Str).2)
    by_cases h' : e.1 = e0.1
    · rw [if_pos (by rw [h']), if_pos h']
    · rw [if_neg (fun z => h' (by have : (e.1 : Int) = (e0.1 : Int) := by injection z
                                  omega)), if_neg h']
  · exact List.any_eq_true.mpr ⟨_, List.mem_map.mpr ⟨e0, h, rfl⟩, decide_eq_true rfl⟩
/-! ### the registry -/
structure Rg where
  o : Addr
  d : Addr
  nm : Addr
  k : Addr
  pd : Addr
  u : Addr
  td : Addr
  co : Addr
  s : Cs
  B : Blbs
  N : List (Str × Str)
  n : Nat
  E : List Ent
  m : Nat
  U : List (Nat × Str)
def gfl (R : Rg) : List (Str × V) := [("store", .ref R.o), ("names", .ref R.nm), ("claims", .ref R.k), ("uploads", .ref R.u), ("collector", .ref R.co)]
def hd (r : Addr) (R : Rg) : List Addr := [r, R.k, R.u, R.nm, R.pd, R.td, R.o, R.d, R.co, R.s.wt, R.s.mm] ++ R.E.map (·.di)
structure CA where
  G : Addr
  U : Addr
  K : Addr
  L : Addr
  C : Addr
  b1 : Addr
  b2 : Addr
  b3 : Addr
  b4 : Addr
structure RI (c : CA) (r : Addr) (R : Rg) (H : Hp) : Prop where
  ob : ∃ dx, H r = some (.ins c.G dx (gfl R))
  kl : ∃ dx, H R.k = some (.ins c.K dx (flP R.n R.pd))
  ul : ∃ dx, H R.u = some (.ins c.L dx (flT R.m R.td))
  hn : H R.nm = some (.dK (nmK R.N))
  hp : H R.pd = some (.dK (outD R.E))
  ht : H R.td = some (.dK (tx R.U))
  sc : SC c.C c.U c.b1 c.b2 R.co R.o R.d R.s R.B H
  t3 : TabG H c.b3
  t4 : TabG H c.b4
  pi : ∀ e ∈ R.E, H e.di = some (.dK (inn e.ks))
  al : (hd r R).Nodup
  nE : (R.E.map (·.i)).Nodup
  lE : ∀ e ∈ R.E, e.i ≤ R.n
  nU : (R.U.map (·.1)).Nodup
  lU : ∀ e ∈ R.U, e.1 ≤ R.m
def RF (r : Addr) (R : Rg) (z : Addr) : Prop := z ∈ hd r R
theorem nd_ne {l : List Addr} (h : l.Nodup) {i j : Nat} {x y : Addr} (hi : l[i]? = some x) (hj : l[j]? = some y) (n : i ≠ j) : x ≠ y := by
  intro e
  obtain ⟨hi1, hi2⟩ := List.getElem?_eq_some_iff.mp hi
  obtain ⟨hj1, hj2⟩ := List.getElem?_eq_some_iff.mp hj
  exact n ((List.getElem_inj h).mp (by rw [hi2, hj2, e]))
theorem nd_in {l m : List Addr} (h : (l ++ m).Nodup) {i : Nat} {x y : Addr} (hi : l[i]? = some x) (hy : y ∈ m) : y ≠ x := fun e => (List.nodup_append.mp h).2.2 x (List.mem_of_getElem? hi) y hy e.symm
theorem RI.di {c : CA} {r : Addr} {R : Rg} {H : Hp} (h : RI c r R H) {e : Ent} (he : e ∈ R.E) {i : Nat} {x : Addr} (hi : ([r, R.k, R.u, R.nm, R.pd, R.td, R.o, R.d, R.co, R.s.wt, R.s.mm] : List Addr)[i]? = some x) : e.di ≠ x := nd_in h.al hi (List.mem_map.mpr ⟨e, he, rfl⟩)
theorem RI.got {c : CA} {r : Addr} {R : Rg} {H : Hp} (h : RI c r R H) : ∀ z, RF r R z → ∃ v, H z = some v ∧ (∀ ps, v ≠ .tbl ps) ∧ ∀ xs, v ≠ .tup xs := by
  intro z hz
  obtain ⟨_, e0⟩ := h.ob; obtain ⟨_, e1⟩ := h.kl; obtain ⟨_, e2⟩ := h.ul
  obtain ⟨_, e6⟩ := h.sc.at_.st.ob; obtain ⟨_, e7, _⟩ := h.sc.at_.st.db; obtain ⟨_, e8⟩ := h.sc.co.ob
  rcases List.mem_append.mp hz with hz | hz
  · simp only [List.mem_cons, List.not_mem_nil, or_false] at hz
    rcases hz with rfl | rfl | rfl | rfl | rfl | rfl | rfl | rfl | rfl | rfl | rfl
    · exact ⟨_, e0, (fun _ q => nomatch q), (fun _ q => nomatch q)⟩
    · exact ⟨_, e1, (fun _ q => nomatch q), (fun _ q => nomatch q)⟩
    · exact ⟨_, e2, (fun _ q => nomatch q), (fun _ q => nomatch q)⟩
    · exact ⟨_, h.hn, (fun _ q => nomatch q), (fun _ q => nomatch q)⟩
    · exact ⟨_, h.hp, (fun _ q => nomatch q), (fun _ q => nomatch q)⟩
    · exact ⟨_, h.ht, (fun _ q => nomatch q), (fun _ q => nomatch q)⟩
    · exact ⟨_, e6, (fun _ q => nomatch q), (fun _ q => nomatch q)⟩
    · exact ⟨_, e7, (fun _ q => nomatch q), (fun _ q => nomatch q)⟩
    · exact ⟨_, e8, (fun _ q => nomatch q), (fun _ q => nomatch q)⟩
    · exact ⟨_, h.sc.co.hW, (fun _ q => nomatch q), (fun _ q => nomatch q)⟩
    · exact ⟨_, h.sc.co.hM, (fun _ q => nomatch q), (fun _ q => nomatch q)⟩
  · obtain ⟨e, he, rfl⟩ := List.mem_map.mp hz
    exact ⟨_, h.pi e he, (fun _ q => nomatch q), (fun _ q => nomatch q)⟩
theorem RI.new {c : CA} {r : Addr} {R : Rg} {H : Hp} (h : RI c r R H) {p : Addr} (n : H p = none) : p ∉ hd r R := fun z => by
  obtain ⟨v, e, _⟩ := h.got p z
  rw [n] at e; cases e
/-- from R to R' -/
structure RStep (c : CA) (r : Addr) (R R' : Rg) (H H' : Hp) : Prop where
  ri : RI c r R' H'
  gr : GrS (RF r R) H H'
  fr : ∀ z, RF r R' z → RF r R z ∨ H z = none
theorem RStep.refl {c : CA} {r : Addr} {R : Rg} {H : Hp} (h : RI c r R H) : RStep c r R R H H := ⟨h, .refl _ _, fun _ z => .inl z⟩
theorem RStep.trans {c : CA} {r : Addr} {R R1 R2 : Rg} {H H1 H2 : Hp} (a : RStep c r R R1 H H1) (b : RStep c r R1 R2 H1 H2) : RStep c r R R2 H H2 := by
  refine ⟨b.ri, ⟨fun z o n e t => b.gr.keep z o (fun q => ?_) (a.gr.keep z o n e t) t, fun z t => b.gr.tab z (a.gr.tab z t), fun z n => a.gr.free z (b.gr.free z n)⟩, fun z q => ?_⟩
  · rcases a.fr z q with q | q
    · exact n q
    · rw [e] at q; cases q
  · rcases b.fr z q with q | q
    · exact a.fr z q
    · exact .inr (a.gr.free z q)
theorem RI.gr {c : CA} {r : Addr} {R : Rg} {H H' : Hp} (h : RI c r R H) (g : Gr H H') : RI c r R H' := by
  obtain ⟨x0, e0⟩ := h.ob; obtain ⟨x1, e1⟩ := h.kl; obtain ⟨x2, e2⟩ := h.ul
  exact ⟨⟨x0, g.keep _ _ e0 (fun _ q => nomatch q)⟩, ⟨x1, g.keep _ _ e1 (fun _ q => nomatch q)⟩, ⟨x2, g.keep _ _ e2 (fun _ q => nomatch q)⟩, g.keep _ _ h.hn (fun _ q => nomatch q), g.keep _ _ h.hp (fun _ q => nomatch q), g.keep _ _ h.ht (fun _ q => nomatch q), h.sc.gr g, g.tab _ h.t3, g.tab _ h.t4, fun e he => g.keep _ _ (h.pi e he) (fun _ q => nomatch q), h.al, h.nE, h.lE, h.nU, h.lU⟩
theorem RStep.of_gr {c : CA} {r : Addr} {R : Rg} {H H' : Hp} (h : RI c r R H) (g : Gr H H') : RStep c r R R H H' := ⟨h.gr g, .of g, fun _ z => .inl z⟩
theorem RStep.same {c : CA} {r : Addr} {R : Rg} {H H' : Hp} (h : RI c r R H) (g : Same H H') : RStep c r R R H H' := .of_gr h (.of_same g)
/-- other addresses of the caller are written -/
theorem RI.move {c : CA} {r : Addr} {R : Rg} {H H' : Hp} {F : Addr → Prop} (h : RI c r R H) (g : GrS F H H') (n : ∀ z, RF r R z → ¬ F z) (nt : ∀ b xs, H b = some (.tup xs) → ¬ F b) : RI c r R H' := by
  obtain ⟨x0, e0⟩ := h.ob; obtain ⟨x1, e1⟩ := h.kl; obtain ⟨x2, e2⟩ := h.ul
  have m : ∀ {i : Nat} {x : Addr}, ([r, R.k, R.u, R.nm, R.pd, R.td, R.o, R.d, R.co, R.s.wt, R.s.mm] : List Addr)[i]? = some x → ¬ F x := fun hi => n _ (List.mem_append_left _ (List.mem_of_getElem? hi))
  exact ⟨⟨x0, g.keep _ _ (m (i := 0) rfl) e0 (fun _ q => nomatch q)⟩, ⟨x1, g.keep _ _ (m (i := 1) rfl) e1 (fun _ q => nomatch q)⟩, ⟨x2, g.keep _ _ (m (i := 2) rfl) e2 (fun _ q => nomatch q)⟩, g.keep _ _ (m (i := 3) rfl) h.hn (fun _ q => nomatch q), g.keep _ _ (m (i := 4) rfl) h.hp (fun _ q => nomatch q), g.keep _ _ (m (i := 5) rfl) h.ht (fun _ q => nomatch q),
    h.sc.move g ⟨m (i := 8) rfl, m (i := 9) rfl, m (i := 10) rfl, m (i := 6) rfl, m (i := 7) rfl⟩ nt, g.tab _ h.t3, g.tab _ h.t4, fun e he => g.keep _ _ (n _ (List.mem_append_right _ (List.mem_map.mpr ⟨e, he, rfl⟩))) (h.pi e he) (fun _ q => nomatch q), h.al, h.nE, h.lE, h.nU, h.lU⟩
section
variable {c : CA} {r : Addr} {R : Rg} {H : Hp}
theorem RI.names (h : RI c r R H) (N' : List (Str × Str)) : RStep c r R { R with N := N' } H (L2.upd H R.nm (.dK (nmK N'))) := by
  obtain ⟨x0, e0⟩ := h.ob; obtain ⟨x1, e1⟩ := h.kl; obtain ⟨x2, e2⟩ := h.ul
  have g : GrS (fun z => z = R.nm) H (L2.upd H R.nm (.dK (nmK N'))) := .put rfl h.hn (fun _ q => nomatch q)
  exact ⟨⟨⟨x0, g.keep _ _ (nd_ne h.al (i := 0) (j := 3) rfl rfl (by decide)) e0 (fun _ q => nomatch q)⟩, ⟨x1, g.keep _ _ (nd_ne h.al (i := 1) (j := 3) rfl rfl (by decide)) e1 (fun _ q => nomatch q)⟩, ⟨x2, g.keep _ _ (nd_ne h.al (i := 2) (j := 3) rfl rfl (by decide)) e2 (fun _ q => nomatch q)⟩, upd_same, g.keep _ _ (nd_ne h.al (i := 4) (j := 3) rfl rfl (by decide)) h.hp (fun _ q => nomatch q), g.keep _ _ (nd_ne h.al (i := 5) (j := 3) rfl rfl (by decide)) h.ht (fun _ q => nomatch q), h.sc.move g ⟨(nd_ne h.al (i := 8) (j := 3) rfl rfl (by decide)), (nd_ne h.al (i := 9) (j := 3) rfl rfl (by decide)), (nd_ne h.al (i := 10) (j := 3) rfl rfl (by decide)), (nd_ne h.al (i := 6) (j := 3) rfl rfl (by decide)), (nd_ne h.al (i := 7) (j := 3) rfl rfl (by decide))⟩ (fun b ys e q => by exact absurd e (by rw [q]; intro z; obtain ⟨v, ev, _, nt⟩ := h.got R.nm (List.mem_append_left _ (List.mem_of_getElem? (i := 3) rfl)); rw [ev] at z; cases z; exact nt _ rfl)), g.tab _ h.t3, g.tab _ h.t4, fun e he => g.keep _ _ (h.di he (i := 3) rfl) (h.pi e he) (fun _ q => nomatch q), h.al, h.nE, h.lE, h.nU, h.lU⟩, g.weak fun z q => by rw [q]; exact List.mem_append_left _ (List.mem_of_getElem? (i := 3) rfl), fun _ z => .inl z⟩
theorem RI.texts (h : RI c r R H) (U' : List (Nat × Str)) (n1 : (U'.map (·.1)).Nodup) (n2 : ∀ e ∈ U', e.1 ≤ R.m) : RStep c r R { R with U := U' } H (L2.upd H R.td (.dK (tx U'))) := by
  obtain ⟨x0, e0⟩ := h.ob; obtain ⟨x1, e1⟩ := h.kl; obtain ⟨x2, e2⟩ := h.ul
  have g : GrS (fun z => z = R.td) H (L2.upd H R.td (.dK (tx U'))) := .put rfl h.ht (fun _ q => nomatch q)
  exact ⟨⟨⟨x0, g.keep _ _ (nd_ne h.al (i := 0) (j := 5) rfl rfl (by decide)) e0 (fun _ q => nomatch q)⟩, ⟨x1, g.keep _ _ (nd_ne h.al (i := 1) (j := 5) rfl rfl (by decide)) e1 (fun _ q => nomatch q)⟩, ⟨x2, g.keep _ _ (nd_ne h.al (i := 2) (j := 5) rfl rfl (by decide)) e2 (fun _ q => nomatch q)⟩, g.keep _ _ (nd_ne h.al (i := 3) (j := 5) rfl rfl (by decide)) h.hn (fun _ q => nomatch q), g.keep _ _ (nd_ne h.al (i := 4) (j := 5) rfl rfl (by decide)) h.hp (fun _ q => nomatch q), upd_same, h.sc.move g ⟨(nd_ne h.al (i := 8) (j := 5) rfl rfl (by decide)), (nd_ne h.al (i := 9) (j := 5) rfl rfl (by decide)), (nd_ne h.al (i := 10) (j := 5) rfl rfl (by decide)), (nd_ne h.al (i := 6) (j := 5) rfl rfl (by decide)), (nd_ne h.al (i := 7) (j := 5) rfl rfl (by decide))⟩ (fun b ys e q => by exact absurd e (by rw [q]; intro z; obtain ⟨v, ev, _, nt⟩ := h.got R.td (List.mem_append_left _ (List.mem_of_getElem? (i := 5) rfl)); rw [ev] at z; cases z; exact nt _ rfl)), g.tab _ h.t3, g.tab _ h.t4, fun e he => g.keep _ _ (h.di he (i := 5) rfl) (h.pi e he) (fun _ q => nomatch q), h.al, h.nE, h.lE, n1, n2⟩, g.weak fun z q => by rw [q]; exact List.mem_append_left _ (List.mem_of_getElem? (i := 5) rfl), fun _ z => .inl z⟩
theorem RI.ends (h : RI c r R H) (c0 : Int) : RStep c r R { R with E := R.E.filter fun e => decide ((e.i : Int) ≠ c0) } H (L2.upd H R.pd (.dK (outD (R.E.filter fun e => decide ((e.i : Int) ≠ c0))))) := by
  obtain ⟨x0, e0⟩ := h.ob; obtain ⟨x1, e1⟩ := h.kl; obtain ⟨x2, e2⟩ := h.ul
  have g : GrS (fun z => z = R.pd) H (L2.upd H R.pd (.dK (outD (R.E.filter fun e => decide ((e.i : Int) ≠ c0))))) := .put rfl h.hp (fun _ q => nomatch q)
  exact ⟨⟨⟨x0, g.keep _ _ (nd_ne h.al (i := 0) (j := 4) rfl rfl (by decide)) e0 (fun _ q => nomatch q)⟩, ⟨x1, g.keep _ _ (nd_ne h.al (i := 1) (j := 4) rfl rfl (by decide)) e1 (fun _ q => nomatch q)⟩, ⟨x2, g.keep _ _ (nd_ne h.al (i := 2) (j := 4) rfl rfl (by decide)) e2 (fun _ q => nomatch q)⟩, g.keep _ _ (nd_ne h.al (i := 3) (j := 4) rfl rfl (by decide)) h.hn (fun _ q => nomatch q), upd_same, g.keep _ _ (nd_ne h.al (i := 5) (j := 4) rfl rfl (by decide)) h.ht (fun _ q => nomatch q), h.sc.move g ⟨(nd_ne h.al (i := 8) (j := 4) rfl rfl (by decide)), (nd_ne h.al (i := 9) (j := 4) rfl rfl (by decide)), (nd_ne h.al (i := 10) (j := 4) rfl rfl (by decide)), (nd_ne h.al (i := 6) (j := 4) rfl rfl (by decide)), (nd_ne h.al (i := 7) (j := 4) rfl rfl (by decide))⟩ (fun b ys e q => by exact absurd e (by rw [q]; intro z; obtain ⟨v, ev, _, nt⟩ := h.got R.pd (List.mem_append_left _ (List.mem_of_getElem? (i := 4) rfl)); rw [ev] at z; cases z; exact nt _ rfl)), g.tab _ h.t3, g.tab _ h.t4, fun e he => g.keep _ _ (h.di (List.mem_filter.mp he).1 (i := 4) rfl) (h.pi e (List.mem_filter.mp he).1) (fun _ q => nomatch q), (h.al.sublist (List.Sublist.append_left (List.Sublist.map _ List.filter_sublist) _)), (h.nE.sublist (List.Sublist.map _ List.filter_sublist)), (fun e he => h.lE e (List.mem_filter.mp he).1), h.nU, h.lU⟩, g.weak fun z q => by rw [q]; exact List.mem_append_left _ (List.mem_of_getElem? (i := 4) rfl), fun z q => .inl ((List.Sublist.append_left (List.Sublist.map _ List.filter_sublist) _).subset q)⟩
end
theorem nodup_set {l : List Addr} (h : l.Nodup) {p : Addr} (n : p ∉ l) (i : Nat) : (l.set i p).Nodup := by
  induction l generalizing i with
  | nil => exact List.nodup_nil
  | cons x r ih =>
    obtain ⟨n1, n2⟩ := List.nodup_cons.mp h
    cases i with
    | zero => exact List.nodup_cons.mpr ⟨fun z => n (List.mem_cons_of_mem _ z), n2⟩
    | succ i =>
      refine List.nodup_cons.mpr ⟨fun z => ?_, ih n2 (fun z => n (List.mem_cons_of_mem _ z)) i⟩
      rcases List.mem_or_eq_of_mem_set z with z | z
      · exact n1 z
      · exact n (by rw [z]; exact List.mem_cons_self)
theorem set_self {l : List Addr} {i : Nat} {x : Addr} (h : l[i]? = some x) : l.set i x = l := by
  induction l generalizing i with
  | nil => rfl
  | cons y r ih =>
    cases i with
    | zero => cases h; rfl
    | succ i =>
      show y :: r.set i x = y :: r
      rw [ih h]
section
variable {c : CA} {r : Addr} {R : Rg} {H : Hp}
theorem RI.begins (h : RI c r R H) (p : Addr) (np : H p = none) (dx : Addr) (ho : H R.k = some (.ins c.K dx (flP R.n R.pd))) : RStep c r R { R with n := R.n + 1, E := R.E ++ [(⟨R.n + 1, p, []⟩ : Ent)] } H (L2.upd (L2.upd (L2.upd H R.k (.ins c.K dx (flP ((R.n + 1 : Nat) : Int) R.pd))) p (.dK [])) R.pd (.dK (outD (R.E ++ [(⟨R.n + 1, p, []⟩ : Ent)])))) := by
  obtain ⟨x0, e0⟩ := h.ob; obtain ⟨x1, e1⟩ := h.kl; obtain ⟨x2, e2⟩ := h.ul
  have pn := h.new np
  have kp : p ≠ R.k := fun z => pn (z ▸ List.mem_append_left _ (List.mem_of_getElem? (i := 1) rfl))
  have pp : p ≠ R.pd := fun z => pn (z ▸ List.mem_append_left _ (List.mem_of_getElem? (i := 4) rfl))
  have np1 : (L2.upd H R.k (.ins c.K dx (flP ((R.n + 1 : Nat) : Int) R.pd))) p = none := by rw [upd_ne kp]; exact np
  have hp1 : (L2.upd (L2.upd H R.k (.ins c.K dx (flP ((R.n + 1 : Nat) : Int) R.pd))) p (.dK [])) R.pd = some (.dK (outD R.E)) := by rw [upd_ne pp.symm, upd_ne (nd_ne h.al (i := 4) (j := 1) rfl rfl (by decide))]; exact h.hp
  have g : GrS (fun z => z = R.k ∨ z = R.pd) H (L2.upd (L2.upd (L2.upd H R.k (.ins c.K dx (flP ((R.n + 1 : Nat) : Int) R.pd))) p (.dK [])) R.pd (.dK (outD (R.E ++ [(⟨R.n + 1, p, []⟩ : Ent)])))) := (((GrS.put (.inl rfl) e1 (fun _ q => nomatch q)).trans (.same (same_upd np1))).trans (.put (.inr rfl) hp1 (fun _ q => nomatch q)))
  exact ⟨⟨⟨x0, g.keep _ _ (fun q => q.elim (nd_ne h.al (i := 0) (j := 1) rfl rfl (by decide)) (nd_ne h.al (i := 0) (j := 4) rfl rfl (by decide))) e0 (fun _ q => nomatch q)⟩, ⟨dx, by rw [upd_ne (nd_ne h.al (i := 1) (j := 4) rfl rfl (by decide)), upd_ne kp.symm, upd_same]⟩, ⟨x2, g.keep _ _ (fun q => q.elim (nd_ne h.al (i := 2) (j := 1) rfl rfl (by decide)) (nd_ne h.al (i := 2) (j := 4) rfl rfl (by decide))) e2 (fun _ q => nomatch q)⟩, g.keep _ _ (fun q => q.elim (nd_ne h.al (i := 3) (j := 1) rfl rfl (by decide)) (nd_ne h.al (i := 3) (j := 4) rfl rfl (by decide))) h.hn (fun _ q => nomatch q), upd_same, g.keep _ _ (fun q => q.elim (nd_ne h.al (i := 5) (j := 1) rfl rfl (by decide)) (nd_ne h.al (i := 5) (j := 4) rfl rfl (by decide))) h.ht (fun _ q => nomatch q), h.sc.move g ⟨(fun q => q.elim (nd_ne h.al (i := 8) (j := 1) rfl rfl (by decide)) (nd_ne h.al (i := 8) (j := 4) rfl rfl (by decide))), (fun q => q.elim (nd_ne h.al (i := 9) (j := 1) rfl rfl (by decide)) (nd_ne h.al (i := 9) (j := 4) rfl rfl (by decide))), (fun q => q.elim (nd_ne h.al (i := 10) (j := 1) rfl rfl (by decide)) (nd_ne h.al (i := 10) (j := 4) rfl rfl (by decide))), (fun q => q.elim (nd_ne h.al (i := 6) (j := 1) rfl rfl (by decide)) (nd_ne h.al (i := 6) (j := 4) rfl rfl (by decide))), (fun q => q.elim (nd_ne h.al (i := 7) (j := 1) rfl rfl (by decide)) (nd_ne h.al (i := 7) (j := 4) rfl rfl (by decide)))⟩ (fun b ys e q => by rcases q with q | q <;> (obtain ⟨v, ev, _, nt⟩ := h.got b (by rw [q]; first | exact List.mem_append_left _ (List.mem_of_getElem? (i := 1) rfl) | exact List.mem_append_left _ (List.mem_of_getElem? (i := 4) rfl)); rw [ev] at e; cases e; exact nt _ rfl)), g.tab _ h.t3, g.tab _ h.t4, (fun e he => by
    rcases List.mem_append.mp he with he | he
    · exact g.keep _ _ (fun q => q.elim (h.di he (i := 1) rfl) (h.di he (i := 4) rfl)) (h.pi e he) (fun _ q => nomatch q)
    · rw [List.mem_singleton.mp he]
      show _ = some (HO.dK (inn []))
      rw [upd_ne pp, upd_same]; rfl), (by
    show ([r, R.k, R.u, R.nm, R.pd, R.td, R.o, R.d, R.co, R.s.wt, R.s.mm] ++ (R.E ++ [(⟨R.n + 1, p, []⟩ : Ent)]).map (·.di)).Nodup
    rw [List.map_append, ← List.append_assoc]
    refine List.nodup_append.mpr ⟨h.al, List.nodup_cons.mpr ⟨(fun q => nomatch q), List.nodup_nil⟩, fun x hx y hy e => ?_⟩
    have hy : y = p := List.mem_singleton.mp hy
    exact pn (hy ▸ e ▸ hx)), (by
    show ((R.E ++ [(⟨R.n + 1, p, []⟩ : Ent)]).map (·.i)).Nodup
    rw [List.map_append]
    refine List.nodup_append.mpr ⟨h.nE, List.nodup_cons.mpr ⟨(fun q => nomatch q), List.nodup_nil⟩, fun x hx y hy e => ?_⟩
    rw [List.mem_singleton.mp hy] at e
    obtain ⟨e0, he0, q⟩ := List.mem_map.mp hx
    have := h.lE e0 he0
    have q : e0.i = x := q
    have e : x = R.n + 1 := e
    omega), (fun e he => by
    rcases List.mem_append.mp he with he | he
    · exact Nat.le_succ_of_le (h.lE e he)
    · rw [List.mem_singleton.mp he]; exact Nat.le_refl _), h.nU, h.lU⟩, g.weak fun z q => by rcases q with q | q <;> rw [q]; exact List.mem_append_left _ (List.mem_of_getElem? (i := 1) rfl); exact List.mem_append_left _ (List.mem_of_getElem? (i := 4) rfl), fun z q => by
    have q : z ∈ [r, R.k, R.u, R.nm, R.pd, R.td, R.o, R.d, R.co, R.s.wt, R.s.mm] ++ (R.E ++ [(⟨R.n + 1, p, []⟩ : Ent)]).map (·.di) := q
    rw [List.map_append, ← List.append_assoc] at q
    rcases List.mem_append.mp q with q | q
    · exact .inl q
    · rw [List.mem_singleton.mp q]; exact .inr np⟩
theorem RI.ups (h : RI c r R H) (dx : Addr) (ho : H R.u = some (.ins c.L dx (flT R.m R.td))) : RStep c r R { R with m := R.m + 1, U := R.U ++ [(R.m + 1, ("" : Str))] } H (L2.upd (L2.upd H R.u (.ins c.L dx (flT ((R.m + 1 : Nat) : Int) R.td))) R.td (.dK (tx (R.U ++ [(R.m + 1, ("" : Str))])))) := by
  obtain ⟨x0, e0⟩ := h.ob; obtain ⟨x1, e1⟩ := h.kl; obtain ⟨x2, e2⟩ := h.ul
  have g : GrS (fun z => z = R.u ∨ z = R.td) H (L2.upd (L2.upd H R.u (.ins c.L dx (flT ((R.m + 1 : Nat) : Int) R.td))) R.td (.dK (tx (R.U ++ [(R.m + 1, ("" : Str))])))) := ((GrS.put (.inl rfl) e2 (fun _ q => nomatch q)).trans (.put (.inr rfl) (show (L2.upd H R.u (.ins c.L dx (flT ((R.m + 1 : Nat) : Int) R.td))) R.td = some (HO.dK (tx R.U)) from by rw [upd_ne (nd_ne h.al (i := 5) (j := 2) rfl rfl (by decide))]; exact h.ht) (fun _ q => nomatch q)))
  exact ⟨⟨⟨x0, g.keep _ _ (fun q => q.elim (nd_ne h.al (i := 0) (j := 2) rfl rfl (by decide)) (nd_ne h.al (i := 0) (j := 5) rfl rfl (by decide))) e0 (fun _ q => nomatch q)⟩, ⟨x1, g.keep _ _ (fun q => q.elim (nd_ne h.al (i := 1) (j := 2) rfl rfl (by decide)) (nd_ne h.al (i := 1) (j := 5) rfl rfl (by decide))) e1 (fun _ q => nomatch q)⟩, ⟨dx, by rw [upd_ne (nd_ne h.al (i := 2) (j := 5) rfl rfl (by decide)), upd_same]⟩, g.keep _ _ (fun q => q.elim (nd_ne h.al (i := 3) (j := 2) rfl rfl (by decide)) (nd_ne h.al (i := 3) (j := 5) rfl rfl (by decide))) h.hn (fun _ q => nomatch q), g.keep _ _ (fun q => q.elim (nd_ne h.al (i := 4) (j := 2) rfl rfl (by decide)) (nd_ne h.al (i := 4) (j := 5) rfl rfl (by decide))) h.hp (fun _ q => nomatch q), upd_same, h.sc.move g ⟨(fun q => q.elim (nd_ne h.al (i := 8) (j := 2) rfl rfl (by decide)) (nd_ne h.al (i := 8) (j := 5) rfl rfl (by decide))), (fun q => q.elim (nd_ne h.al (i := 9) (j := 2) rfl rfl (by decide)) (nd_ne h.al (i := 9) (j := 5) rfl rfl (by decide))), (fun q => q.elim (nd_ne h.al (i := 10) (j := 2) rfl rfl (by decide)) (nd_ne h.al (i := 10) (j := 5) rfl rfl (by decide))), (fun q => q.elim (nd_ne h.al (i := 6) (j := 2) rfl rfl (by decide)) (nd_ne h.al (i := 6) (j := 5) rfl rfl (by decide))), (fun q => q.elim (nd_ne h.al (i := 7) (j := 2) rfl rfl (by decide)) (nd_ne h.al (i := 7) (j := 5) rfl rfl (by decide)))⟩ (fun b ys e q => by rcases q with q | q <;> (obtain ⟨v, ev, _, nt⟩ := h.got b (by rw [q]; first | exact List.mem_append_left _ (List.mem_of_getElem? (i := 2) rfl) | exact List.mem_append_left _ (List.mem_of_getElem? (i := 5) rfl)); rw [ev] at e; cases e; exact nt _ rfl)), g.tab _ h.t3, g.tab _ h.t4, fun e he => g.keep _ _ (fun q => q.elim (h.di he (i := 2) rfl) (h.di he (i := 5) rfl)) (h.pi e he) (fun _ q => nomatch q), h.al, h.nE, h.lE, (by
    show ((R.U ++ [(R.m + 1, ("" : Str))]).map (·.1)).Nodup
    rw [List.map_append]
    refine List.nodup_append.mpr ⟨h.nU, List.nodup_cons.mpr ⟨(fun q => nomatch q), List.nodup_nil⟩, fun x hx y hy e => ?_⟩
    rw [List.mem_singleton.mp hy] at e
    obtain ⟨e0, he0, q⟩ := List.mem_map.mp hx
    have := h.lU e0 he0
    have q : e0.1 = x := q
    have e : x = R.m + 1 := e
    omega), (fun e he => by
    rcases List.mem_append.mp he with he | he
    · exact Nat.le_succ_of_le (h.lU e he)
    · rw [List.mem_singleton.mp he]; exact Nat.le_refl _)⟩, g.weak fun z q => by rcases q with q | q <;> rw [q]; exact List.mem_append_left _ (List.mem_of_getElem? (i := 2) rfl); exact List.mem_append_left _ (List.mem_of_getElem? (i := 5) rfl), fun _ z => .inl z⟩
theorem RI.forgets (h : RI c r R H) (p : Addr) (np : H p = none) (dx : Addr) (ho : H R.u = some (.ins c.L dx (flT R.m R.td))) : RStep c r R { R with td := p, U := [] } H (L2.upd (L2.upd H p (.dK [])) R.u (.ins c.L dx (flT R.m p))) := by
  obtain ⟨x0, e0⟩ := h.ob; obtain ⟨x1, e1⟩ := h.kl; obtain ⟨x2, e2⟩ := h.ul
  have pn := h.new np
  have up : p ≠ R.u := fun z => pn (z ▸ List.mem_append_left _ (List.mem_of_getElem? (i := 2) rfl))
  have g : GrS (fun z => z = R.u) H (L2.upd (L2.upd H p (.dK [])) R.u (.ins c.L dx (flT R.m p))) := ((GrS.same (same_upd np)).trans (.put rfl (show (L2.upd H p (.dK [])) R.u = some (HO.ins c.L x2 (flT R.m R.td)) from by rw [upd_ne up.symm]; exact e2) (fun _ q => nomatch q)))
  exact ⟨⟨⟨x0, g.keep _ _ (nd_ne h.al (i := 0) (j := 2) rfl rfl (by decide)) e0 (fun _ q => nomatch q)⟩, ⟨x1, g.keep _ _ (nd_ne h.al (i := 1) (j := 2) rfl rfl (by decide)) e1 (fun _ q => nomatch q)⟩, ⟨dx, upd_same⟩, g.keep _ _ (nd_ne h.al (i := 3) (j := 2) rfl rfl (by decide)) h.hn (fun _ q => nomatch q), g.keep _ _ (nd_ne h.al (i := 4) (j := 2) rfl rfl (by decide)) h.hp (fun _ q => nomatch q), by rw [upd_ne up]; exact upd_same, h.sc.move g ⟨(nd_ne h.al (i := 8) (j := 2) rfl rfl (by decide)), (nd_ne h.al (i := 9) (j := 2) rfl rfl (by decide)), (nd_ne h.al (i := 10) (j := 2) rfl rfl (by decide)), (nd_ne h.al (i := 6) (j := 2) rfl rfl (by decide)), (nd_ne h.al (i := 7) (j := 2) rfl rfl (by decide))⟩ (fun b ys e q => by exact absurd e (by rw [q]; intro z; obtain ⟨v, ev, _, nt⟩ := h.got R.u (List.mem_append_left _ (List.mem_of_getElem? (i := 2) rfl)); rw [ev] at z; cases z; exact nt _ rfl)), g.tab _ h.t3, g.tab _ h.t4, fun e he => g.keep _ _ (h.di he (i := 2) rfl) (h.pi e he) (fun _ q => nomatch q), (nodup_set h.al pn 5), h.nE, h.lE, List.nodup_nil, (fun e he => nomatch he)⟩, g.weak fun z q => by rw [q]; exact List.mem_append_left _ (List.mem_of_getElem? (i := 2) rfl), fun z q => by
    rcases List.mem_or_eq_of_mem_set (show z ∈ (hd r R).set 5 p from q) with q | q
    · exact .inl q
    · rw [q]; exact .inr np⟩
theorem RI.pins (h : RI c r R H) {e0 : Ent} (he0 : e0 ∈ R.E) (a : Str) : RStep c r R { R with E := pinE R.E (e0.i : Int) a } H (L2.upd H e0.di (.dK (inn (kadd e0.ks a)))) := by
  obtain ⟨x0, e0'⟩ := h.ob; obtain ⟨x1, e1⟩ := h.kl; obtain ⟨x2, e2⟩ := h.ul
  have g : GrS (fun z => z = e0.di) H (L2.upd H e0.di (.dK (inn (kadd e0.ks a)))) := .put rfl (h.pi e0 he0) (fun _ q => nomatch q)
  have inj : ∀ e ∈ R.E, e.di = e0.di → e = e0 := fun e he q => by
    have nd := (List.nodup_append.mp h.al).2.1
    obtain ⟨i, hi, ei⟩ := List.mem_iff_getElem.mp he
    obtain ⟨j, hj, ej⟩ := List.mem_iff_getElem.mp he0
    have : i = j := (List.getElem_inj (h₀ := by rw [List.length_map]; exact hi) (h₁ := by rw [List.length_map]; exact hj) nd).mp (by rw [List.getElem_map, List.getElem_map, ei, ej]; exact q)
    subst this
    rw [← ei, ← ej]
  have injI : ∀ e ∈ R.E, (e.i : Int) = (e0.i : Int) → e = e0 := fun e he q => by
    obtain ⟨i, hi, ei⟩ := List.mem_iff_getElem.mp he
    obtain ⟨j, hj, ej⟩ := List.mem_iff_getElem.mp he0
    have : i = j := (List.getElem_inj (h₀ := by rw [List.length_map]; exact hi) (h₁ := by rw [List.length_map]; exact hj) h.nE).mp (by rw [List.getElem_map, List.getElem_map, ei, ej]; omega)
    subst this
    rw [← ei, ← ej]
  have hde : hd r { R with E := pinE R.E (e0.i : Int) a } = hd r R := by
    show [r, R.k, R.u, R.nm, R.pd, R.td, R.o, R.d, R.co, R.s.wt, R.s.mm] ++ (pinE R.E (e0.i : Int) a).map (·.di) = _
    rw [pinE_di]; rfl
  have N : ∀ {i : Nat} {x : Addr}, ([r, R.k, R.u, R.nm, R.pd, R.td, R.o, R.d, R.co, R.s.wt, R.s.mm] : List Addr)[i]? = some x → ¬ x = e0.di := fun hi q => h.di he0 hi q.symm
  refine ⟨⟨⟨x0, g.keep _ _ (N (i := 0) rfl) e0' (fun _ q => nomatch q)⟩, ⟨x1, g.keep _ _ (N (i := 1) rfl) e1 (fun _ q => nomatch q)⟩, ⟨x2, g.keep _ _ (N (i := 2) rfl) e2 (fun _ q => nomatch q)⟩, g.keep _ _ (N (i := 3) rfl) h.hn (fun _ q => nomatch q), ?_, g.keep _ _ (N (i := 5) rfl) h.ht (fun _ q => nomatch q),
    h.sc.move g ⟨N (i := 8) rfl, N (i := 9) rfl, N (i := 10) rfl, N (i := 6) rfl, N (i := 7) rfl⟩ (fun b ys e q => by rw [q, h.pi e0 he0] at e; cases e), g.tab _ h.t3, g.tab _ h.t4, fun e he => ?_, by rw [hde]; exact h.al, ?_, fun e he => ?_, h.nU, h.lU⟩, g.weak fun z q => by rw [q]; exact List.mem_append_right _ (List.mem_map.mpr ⟨e0, he0, rfl⟩), fun z q => .inl (by show z ∈ hd r R; rw [← hde]; exact q)⟩
  · show _ = some (HO.dK (outD (pinE R.E (e0.i : Int) a)))
    rw [pinE_out]
    exact g.keep _ _ (N (i := 4) rfl) h.hp (fun _ q => nomatch q)
  · obtain ⟨e1', h1, rfl⟩ := List.mem_map.mp he
    by_cases q : (e1'.i : Int) = (e0.i : Int)
    · rw [if_pos q, injI e1' h1 q]
      exact upd_same
    · rw [if_neg q]
      exact g.keep _ _ (fun z => q (by rw [inj e1' h1 z])) (h.pi e1' h1) (fun _ q => nomatch q)
  · show ((pinE R.E (e0.i : Int) a).map (·.i)).Nodup
    rw [pinE_i]; exact h.nE
  · obtain ⟨e1', h1, rfl⟩ := List.mem_map.mp he
    have := h.lE e1' h1
    show (if (e1'.i : Int) = (e0.i : Int) then { e1' with ks := kadd e1'.ks a } else e1' : Ent).i ≤ R.n
    split <;> exact this
/-- the collector, or the store's dict, has changed -/
theorem RI.cols (h : RI c r R H) {s' : Cs} {B' : Blbs} {H' : Hp} (S : SC c.C c.U c.b1 c.b2 R.co R.o R.d s' B' H') (g : GrS (CF R.co R.d R.s) H H') (hw : s'.wt = R.s.wt ∨ H s'.wt = none) (hm : s'.mm = R.s.mm ∨ H s'.mm = none) : RStep c r R { R with s := s', B := B' } H H' := by
  obtain ⟨x0, e0⟩ := h.ob; obtain ⟨x1, e1⟩ := h.kl; obtain ⟨x2, e2⟩ := h.ul
  have N : ∀ {i : Nat} {x : Addr}, i ≠ 7 → i ≠ 8 → i ≠ 9 → i ≠ 10 → ([r, R.k, R.u, R.nm, R.pd, R.td, R.o, R.d, R.co, R.s.wt, R.s.mm] : List Addr)[i]? = some x → ¬ CF R.co R.d R.s x := fun {i x} n7 n8 n9 n10 hi q => by
    have hi' : (hd r R)[i]? = some x := by
      unfold hd
      rw [List.getElem?_append_left (List.getElem?_eq_some_iff.mp hi).1]; exact hi
    rcases q with q | q | q | q
    · exact nd_ne h.al hi' (j := 8) rfl n8 q
    · exact nd_ne h.al hi' (j := 9) rfl n9 q
    · exact nd_ne h.al hi' (j := 10) rfl n10 q
    · exact nd_ne h.al hi' (j := 7) rfl n7 q
  have wm : s'.mm ≠ s'.wt := ne_of S.co.hM S.co.hW (by intro z; cases z)
  have hde : hd r { R with s := s', B := B' } = ((hd r R).set 9 s'.wt).set 10 s'.mm := rfl
  have a1 : ((hd r R).set 9 s'.wt).Nodup := by
    rcases hw with q | q
    · rw [set_self (show (hd r R)[9]? = some s'.wt from by rw [q]; rfl)]; exact h.al
    · exact nodup_set h.al (h.new q) 9
  have a2 : (hd r { R with s := s', B := B' }).Nodup := by
    rw [hde]
    rcases hm with q | q
    · rw [set_self (show ((hd r R).set 9 s'.wt)[10]? = some s'.mm from by rw [q]; rfl)]; exact a1
    · refine nodup_set a1 (fun z => ?_) 10
      rcases List.mem_or_eq_of_mem_set z with z | z
      · exact h.new q z
      · exact wm z
  refine ⟨⟨⟨x0, g.keep _ _ (N (i := 0) (by decide) (by decide) (by decide) (by decide) rfl) e0 (fun _ q => nomatch q)⟩, ⟨x1, g.keep _ _ (N (i := 1) (by decide) (by decide) (by decide) (by decide) rfl) e1 (fun _ q => nomatch q)⟩, ⟨x2, g.keep _ _ (N (i := 2) (by decide) (by decide) (by decide) (by decide) rfl) e2 (fun _ q => nomatch q)⟩, g.keep _ _ (N (i := 3) (by decide) (by decide) (by decide) (by decide) rfl) h.hn (fun _ q => nomatch q), g.keep _ _ (N (i := 4) (by decide) (by decide) (by decide) (by decide) rfl) h.hp (fun _ q => nomatch q), g.keep _ _ (N (i := 5) (by decide) (by decide) (by decide) (by decide) rfl) h.ht (fun _ q => nomatch q), S, g.tab _ h.t3, g.tab _ h.t4, fun e he => g.keep _ _ (fun q => ?_) (h.pi e he) (fun _ q => nomatch q), a2, h.nE, h.lE, h.nU, h.lU⟩, g.weak fun z q => ?_, fun z q => ?_⟩
  · rcases q with q | q | q | q
    · exact h.di he (i := 8) rfl q
    · exact h.di he (i := 9) rfl q
    · exact h.di he (i := 10) rfl q
    · exact h.di he (i := 7) rfl q
  · rcases q with q | q | q | q
    · rw [q]; exact List.mem_append_left _ (List.mem_of_getElem? (i := 8) rfl)
    · rw [q]; exact List.mem_append_left _ (List.mem_of_getElem? (i := 9) rfl)
    · rw [q]; exact List.mem_append_left _ (List.mem_of_getElem? (i := 10) rfl)
    · rw [q]; exact List.mem_append_left _ (List.mem_of_getElem? (i := 7) rfl)
  · rcases List.mem_or_eq_of_mem_set (show z ∈ ((hd r R).set 9 s'.wt).set 10 s'.mm from q) with q | q
    · rcases List.mem_or_eq_of_mem_set q with q | q
      · exact .inl q
      · rcases hw with e | e
        · rw [q, e]; exact .inl (List.mem_append_left _ (List.mem_of_getElem? (i := 9) rfl))
        · rw [q]; exact .inr e
    · rcases hm with e | e
      · rw [q, e]; exact .inl (List.mem_append_left _ (List.mem_of_getElem? (i := 10) rfl))
      · rw [q]; exact .inr e
end
end LW
namespace LW
open PySem PySem.Spec PyProof.Rows L2 GxR
/-! ### texts and numbers as data -/
def kD : Key → PyData
  | .inl i => .int i
  | .inr x => .str x
def kOk : Key → Prop
  | .inl _ => True
  | .inr x => PyData.strOk x = true
theorem dp_keys {K : PySem.W.Frag} {H : Hp} : ∀ ks : List Key, DpAll K H (ks.map kV) (ks.map kD)
  | [] => .nil
  | .inl i :: r => .cons (.int i) (dp_keys r)
  | .inr x :: r => .cons (.str x) (dp_keys r)
theorem lay_keys : ∀ ks : List Key, (∀ k ∈ ks, kOk k) → PyData.canLayAll0 (ks.map kD) = true ∧ PyData.depthAll (ks.map kD) = 0
  | [], _ => ⟨rfl, rfl⟩
  | k :: r, h => by
    have ih := lay_keys r fun y hy => h y (List.mem_cons_of_mem _ hy)
    have hk := h k List.mem_cons_self
    cases k with
    | inl i =>
      constructor
      · rw [List.map_cons, PyData.canLayAll0, ih.1]; rfl
      · rw [List.map_cons, PyData.depthAll, ih.2]; rfl
    | inr x =>
      constructor
      · rw [List.map_cons, PyData.canLayAll0, ih.1]
        show (PyData.canLay0 (.str x) && true) = true
        rw [PyData.canLay0, show PyData.strOk x = true from hk]; rfl
      · rw [List.map_cons, PyData.depthAll, ih.2]; rfl
theorem lay_tup {ds : List PyData} {n : Nat} (h : PyData.canLayAll0 ds = true ∧ PyData.depthAll ds ≤ n) : PyData.canLay0 (.tuple ds) = true ∧ PyData.depth (.tuple ds) ≤ n + 1 := ⟨by rw [PyData.canLay0]; exact h.1, by rw [PyData.depth]; omega⟩
theorem lay_lst {ds : List PyData} {n : Nat} (h : PyData.canLayAll0 ds = true ∧ PyData.depthAll ds ≤ n) : PyData.canLay0 (.list ds) = true ∧ PyData.depth (.list ds) ≤ n + 1 := ⟨by rw [PyData.canLay0]; exact h.1, by rw [PyData.depth]; omega⟩
theorem lay_all {n : Nat} : ∀ ds : List PyData, (∀ d ∈ ds, PyData.canLay0 d = true ∧ PyData.depth d ≤ n) → PyData.canLayAll0 ds = true ∧ PyData.depthAll ds ≤ n
  | [], _ => ⟨rfl, Nat.zero_le _⟩
  | d :: r, h => by
    have ih := lay_all r fun y hy => h y (List.mem_cons_of_mem _ hy)
    have hd := h d List.mem_cons_self
    constructor
    · rw [PyData.canLayAll0, ih.1, hd.1]; rfl
    · rw [PyData.depthAll]; omega
theorem shaped_of {d : PyData} {n : Nat} (h : PyData.canLay0 d = true ∧ PyData.depth d ≤ n) (hn : n ≤ 60) : SeqAt.shaped d = true := by
  unfold SeqAt.shaped
  rw [h.1, decide_eq_true (show d.depth ≤ 64 by omega)]; rfl
end LW
namespace LW
open PySem PySem.Spec PyProof.Rows L2 GxR
/-- a walk whose elements are bools: it ends with the source, or at the first True -/
def WalkA (J : It) (g : TG) (te : TE) (vs : List Nat) (σ : L2.St) (Qt : Bool → Hp → Prop) (W : Nat → Nat → Hp → Prop) : Prop := ∀ i m H, W i m H →
  (J.stop i H ∧ Qt false H) ∨ (J.go i H ∧ ∃ Nx : Hp → Prop, (∀ H', Nx H' → ∃ m', m' < m ∧ W (i + 1) m' H') ∧ ∀ x H', J.yld i H x H' → g x (wipe σ vs) H' fun σ2 H3 => wipe σ2 vs = wipe σ vs ∧ te σ2 H3 fun y H4 => ∃ b, y = .bl b ∧ if b = false then Nx H4 else Qt true H4)
/-- an element is handed out -/
def YA (Y : Cx) (τ : L2.St) (Qt : Bool → Hp → Prop) : Protocol := fun n s₀ v s1 kap =>
  ∃ b H1, v = .bool b ∧ Inv Y [] τ H1 s1 ∧ (b = true → Qt true H1) ∧ (b = false → ∀ s' : Shared, s'.heap = s1.heap → s'.os = s1.os → AllBare s'.gens → kap (.send .none) s')
def FA (Y : Cx) (τ : L2.St) (Qt : Bool → Hp → Prop) : Nat → Shared → Shared → Prop := fun _ _ s1 => ∃ H1, Inv Y [] τ H1 s1 ∧ Qt false H1
def RA (Y : Cx) (τ : L2.St) (Qt : Bool → Hp → Prop) : GenEnd := fun n s₀ r s1 => ((r = .ok (.ret .none) ∨ r = .ok .next) ∧ FA Y τ Qt n s₀ s1) ∨ ∃ e, r = .error e ∧ (fun _ _ => False : Value → Shared → Prop) e s1
section
variable {X : Cx} {σ : L2.St}
theorem seg_genLoopA {A : Around} {s3 : Shared} {H3 : Hp} {cenv : Env} {fp : List Addr} {pn : List (Addr × Obj)} {tg iter elt : Expr} {scope : Scope} {pos : Pos} {J : It} {it : Addr} {tn : Nat → Heap → Prop} {g : TG} {te : TE} {vs : List Nat} {Qt : Bool → Hp → Prop} {W : Nat → Nat → Hp → Prop}
    (T : Turn X.prog X.w X.K tg J fp it tn) (hc : X.calm = true) (hpa : ∀ p ∈ pn, ∀ b ∈ fp, p.1 ≠ b) (pg : PG (Gx X A s3 H3 cenv fp pn) tg g) (pe : PE (Gx X A s3 H3 cenv fp pn) elt te) (hco : cenv.scope.isCoroutine = false) (turn : WalkA J g te vs σ Qt W) :
    ∀ (n : Nat) (s₀ s : Shared) (i m : Nat) (H : Hp), m < n → Inv (Gx X A s3 H3 cenv fp pn) [] (wipe σ vs) H s → tn i s.heap → (∀ b ∈ fp, H b = none) → W i m H →
      Seg (model X.prog X.w) A (RA (Gx X A s3 H3 cenv fp pn) (wipe σ vs) Qt) (YA (Gx X A s3 H3 cenv fp pn) (wipe σ vs) Qt) n s₀
        (.compLoop (.GeneratorExp elt [⟨tg, iter, [], 0⟩] scope pos) 0 (.ref it) .none cenv) ((model X.prog X.w).den (.compLoop (.GeneratorExp elt [⟨tg, iter, [], 0⟩] scope pos) 0 (.ref it) .none cenv)) [] s := by
  have own0 : ∀ {σ' : L2.St} {H' : Hp} {s' : Shared}, Inv (Gx X A s3 H3 cenv fp pn) [] σ' H' s' → (∀ b ∈ fp, H' b = none) → ∀ b ∈ fp, FpOk (Gx X A s3 H3 cenv fp pn) [] H' b := fun {σ' H' s'} I' n b hb =>
    ⟨n b hb, (I'.ok.exf b hb).1, I'.ok.exfs b hb, .inl hb, (fun x c e => (I'.ok.exf b hb).2 x c e), fun p hp => by
      rcases List.mem_append.mp hp with z | z
      · exact hpa p z b hb
      · cases z⟩
  intro n
  induction n with
  | zero => intro s₀ s i m H hm; exact absurd hm (Nat.not_lt_zero _)
  | succ n ih =>
    intro s₀ s i m H hm I st nf w
    show Seg _ A _ _ _ s₀ _ ((compTurn (.GeneratorExp elt [⟨tg, iter, [], 0⟩] scope pos) 0 (.ref it) .none cenv).onRaise (leaving cenv)) [] s
    rw [compTurn_gen, Sem.onRaise_eq_wrap]
    refine seg_bind_wrap (wpAny_standAt ?_)
    rcases turn i m H w with ⟨stop, q⟩ | ⟨go, Nx, hNx, step⟩
    · refine seg_bind_wrap ?_
      rw [over_genL]
      refine thnF (T.done (Gx X A s3 H3 cenv fp pn) rfl rfl rfl hc i [] s _ H (fun _ _ => False) I (own0 I nf) st stop) fun r s6 ⟨er, I6⟩ => ?_
      subst er
      exact seg_end (.ok .next) (.inl ⟨.inr rfl, H, I6, q⟩)
    · refine seg_bind_wrap ?_
      rw [over_genL]
      refine thnF (T.item (Gx X A s3 H3 cenv fp pn) rfl rfl rfl hc i [] s _ H (fun _ _ => False) I (own0 I nf) st go) fun r s6 ⟨u, er, h6⟩ => ?_
      subst er
      refine seg_bind_wrap ?_
      rw [over_genL]
      refine thnF h6 fun _ s7 ⟨x, H7, I7, r7, y7, st7, n7⟩ => ?_
      have P7 := I7.pinned (own0 I7 n7) (T.obj _ _ st7)
      refine seg_bind_wrap ?_
      rw [over_genL]
      refine thnF (pg.run _ s7 _ H7 x u _ P7 r7 (step x H7 y7)) fun _ s8 ⟨σ8, H8, I8, hw8, q8⟩ => ?_
      refine seg_bind_wrap (wpAny_tests_nil ?_)
      simp only [if_true]
      have hy : ∀ v, yieldOut cenv v = yieldValue v := fun v => by simp only [yieldOut, hco, Bool.false_eq_true, if_false]
      simp only [hy]
      rw [Sem.bind_eq_wrap', Sem.bind_eq_wrap', Sem.wrap_wrap, Sem.wrap_wrap]
      refine seg_wrap ?_
      rw [over_genL]
      refine thnF (pe.run _ s8 σ8 H8 _ I8 q8) fun z s9 ⟨yv, H9, I9, r9, b, ey, q9⟩ => ?_
      subst ey
      obtain rfl : z = Value.bool b := r9
      have hl : (wipe σ vs).length = σ8.length := by rw [← hw8, wipe_length]
      have I9' : Inv (Gx X A s3 H3 cenv fp pn) [] (wipe σ vs) H9 s9 := (I9.unpinned (pins := [])).weak hl fun j v e => by
        rw [← hw8] at e
        exact (wipe_some e).1
      have pin' : ∀ b ∈ fp, ∀ o, s7.heap.get? b = some o → s9.heap.get? b = some o ∧ H9 b = none := fun b hb o e =>
        let z := I9.pin (b, o) (List.mem_append_right _ (List.mem_append_right _ (mem_pinsAt hb e)))
        ⟨z.1, z.2.1⟩
      refine seg_at (seg_yield rfl rfl rfl ⟨b, H9, rfl, I9', fun hb => ?_, fun hb s' e1 e2 e3 => ?_⟩)
      · subst hb
        simpa using q9
      · subst hb
        simp only [if_true] at q9
        obtain ⟨m', lt, w'⟩ := hNx _ q9
        refine seg_again rfl (ih s' s' (i + 1) m' H9 (by omega) (inv_same I9' e1 e2 e3) ?_ (fun b hb => ?_) w')
        · rw [e1]
          exact T.keep _ _ _ st7 fun b hb o e => (pin' b hb o e).1
        · obtain ⟨o, e, _⟩ := T.obj _ _ st7 b hb
          exact (pin' b hb o e).2
theorem seg_genStartA {A : Around} {s3 : Shared} {H3 : Hp} {cenv : Env} {fp : List Addr} {pn : List (Addr × Obj)} {tg iter elt : Expr} {scope : Scope} {pos : Pos} {J : It} {it : Addr} {tn : Nat → Heap → Prop} {g : TG} {te : TE} {vs : List Nat} {Qt : Bool → Hp → Prop} {W : Nat → Nat → Hp → Prop}
    (T : Turn X.prog X.w X.K tg J fp it tn) (hc : X.calm = true) (hpa : ∀ p ∈ pn, ∀ b ∈ fp, p.1 ≠ b) (pg : PG (Gx X A s3 H3 cenv fp pn) tg g) (pe : PE (Gx X A s3 H3 cenv fp pn) elt te) (hco : cenv.scope.isCoroutine = false) (turn : WalkA J g te vs σ Qt W)
    (n : Nat) (s₀ s : Shared) (m : Nat) (H : Hp) (hm : m < n) (I : Inv (Gx X A s3 H3 cenv fp pn) [] (wipe σ vs) H s) (st : tn 0 s.heap) (nf : ∀ b ∈ fp, H b = none) (w : W 0 m H) :
      Seg (model X.prog X.w) A (RA (Gx X A s3 H3 cenv fp pn) (wipe σ vs) Qt) (YA (Gx X A s3 H3 cenv fp pn) (wipe σ vs) Qt) n s₀
        (.compStart (.GeneratorExp elt [⟨tg, iter, [], 0⟩] scope pos) 0 (.ref it) .none cenv) ((model X.prog X.w).den (.compStart (.GeneratorExp elt [⟨tg, iter, [], 0⟩] scope pos) 0 (.ref it) .none cenv)) [] s := by
  have loop := seg_genLoopA (iter := iter) (scope := scope) (pos := pos) T hc hpa pg pe hco turn n s₀ s 0 m H hm I st nf w
  show Seg _ A _ _ _ s₀ _ ((compStart (.GeneratorExp elt [⟨tg, iter, [], 0⟩] scope pos) 0 (.ref it) .none cenv).onRaise (leaving cenv)) [] s
  unfold compStart
  rw [Sem.onRaise_eq_wrap]
  show Seg _ A _ _ _ s₀ _ ((ask >>= _).wrap _ _ _ _) [] s
  refine seg_bind_wrap (wpAny_askSetting ?_)
  split
  · exact seg_again rfl loop
  · first
      | exact seg_bind_wrap (wpAny_rule (seg_bind_wrap (wpAny_standAt (seg_bind_wrap (T.self _ 0 s _ _ st (seg_again rfl loop))))))
      | (refine seg_bind_wrap (wpAny_rule ?_); show Seg _ A _ _ _ s₀ _ ((standAt iter.pos >>= _).wrap _ _ _ _) [] s; exact seg_bind_wrap (wpAny_standAt (seg_bind_wrap (T.self _ 0 s _ _ st (seg_again rfl loop)))))
end
end LW
namespace LW
open PySem PySem.Spec PyProof.Rows L2 GxR GenW
section
variable {P : Program} {w : World}
/-- any's loop over a generator that hands out bools -/
theorem any_loopA {Y : Cx} {τ : L2.St} {Qt : Bool → Hp → Prop} {A : Around} {a : Addr} {g : Nat} {R : Result → Shared → Prop} (hh : A.handled = none) (hd : A.depth < recursionLimit)
    (hg : ∀ (s : Shared) (H : Hp), Inv Y [] τ H s → s.heap.IsGen a g) (hend : ∀ b H (s' : Shared), Inv Y [] τ H s' → Qt b H → R (.ok (.ret (.bool b))) s') :
    ∀ (n : Nat) (s : Shared), s.heap.IsGen a g → s.heap.NoLimit → (∃ gs, s.gens[g]? = some gs ∧ gs.Goes (model P w) A.in1.in1 (RA Y τ Qt) (YA Y τ Qt) n (.send .none) (s.setGen g .running)) →
      codeAny (model P w) A (.builtin "any.loop" ⟨[.ref a], []⟩) R s := by
  intro n
  induction n with
  | zero =>
    intro s hgen hl ⟨gs, hgs, hgo⟩
    refine codeAny_builtin F.entry_any_loop ?_
    rw [Around.under_plainId F.plain_any_loop _]
    show wpAny _ A.in1 (pyNext (.ref a) >>= _) _ _ s
    refine wpAny_bind (next_genG (A := A.in1) (F := FA Y τ Qt) (Er := fun _ _ => False) hh hl hd hgen hgs hgo (fun v s₁ gs' hbare hv => ?_) (fun s₁ hp h' hk => ?_) fun e s₁ he => he.elim)
    · obtain ⟨b, H1, rfl, I1, hf, ht⟩ := hv
      cases b with
      | false => exact False.elim (ht rfl s₁ rfl rfl I1.bare)
      | true =>
        refine wpAny_bind (wpAny_holding (wpAny_truthy_bool (wpAny_bind (wpAny_letGo ?_))))
        simp only [if_true]
        exact wpAny_bind (wpAny_rule (wpAny_pure (hend true H1 _ (inv_same I1 rfl rfl (allBare_setGen I1.bare hbare)) (hf rfl))))
    · obtain ⟨H1, I1, q⟩ := hp
      refine wpAny_bind (wpAny_rule (wpAny_pure (hend false H1 _ ?_ q)))
      exact I1.call' (ch := []) rfl (Un.kept hk) (I1.hok.kept hk) (allBare_setGen I1.bare rfl) fun b hb => by cases hb
  | succ n ih =>
    intro s hgen hl ⟨gs, hgs, hgo⟩
    have hgl : g < s.gens.size := (Array.getElem?_eq_some_iff.mp hgs).1
    refine codeAny_builtin F.entry_any_loop ?_
    rw [Around.under_plainId F.plain_any_loop _]
    show wpAny _ A.in1 (pyNext (.ref a) >>= _) _ _ s
    refine wpAny_bind (wpAny_gsz (n := g + 1) hgl (next_genG (A := A.in1) (F := FA Y τ Qt) (Er := fun _ _ => False) hh hl hd hgen hgs hgo (fun v s₁ gs' hbare hv => ?_) (fun s₁ hp h' hk => ?_) fun e s₁ he => he.elim))
    · intro hsz
      obtain ⟨b, H1, rfl, I1, hf, ht⟩ := hv
      have hsz1 : g < s₁.gens.size := by
        have q : (s₁.setGen g gs').gens.size = s₁.gens.size := setGen_size _ _ _
        have hsz' : g + 1 ≤ (s₁.setGen g gs').gens.size := hsz
        omega
      cases b with
      | false =>
        refine wpAny_bind (wpAny_holding (wpAny_truthy_bool (wpAny_bind (wpAny_letGo ?_))))
        simp only [Bool.false_eq_true, if_false]
        refine wpAny_pure ⟨plainId_quiet F.plain_any_loop _, ih _ ?_ ?_ ⟨gs', setGen_at hsz1, ?_⟩⟩
        · exact hg s₁ H1 I1
        · exact I1.nolimit
        · exact ht rfl ((s₁.setGen g gs').setGen g .running) rfl rfl (allBare_setGen (s := s₁.setGen g gs') (allBare_setGen I1.bare hbare) rfl)
      | true =>
        refine wpAny_bind (wpAny_holding (wpAny_truthy_bool (wpAny_bind (wpAny_letGo ?_))))
        simp only [if_true]
        exact wpAny_bind (wpAny_rule (wpAny_pure (hend true H1 _ (inv_same I1 rfl rfl (allBare_setGen I1.bare hbare)) (hf rfl))))
    · intro hsz
      obtain ⟨H1, I1, q⟩ := hp
      refine wpAny_bind (wpAny_rule (wpAny_pure (hend false H1 _ ?_ q)))
      exact I1.call' (ch := []) rfl (Un.kept hk) (I1.hok.kept hk) (allBare_setGen I1.bare rfl) fun b hb => by cases hb
end
section
variable {X : Cx} {pins : List (Addr × Obj)} {σ : L2.St} {H : Hp} {s : Shared}
def tAnyA (T : Addr) (wi : TI) (g : TG) (te : TE) (vs : List Nat) : TE := fun σ H Q => wi σ H fun J H1 => TabG H1 T ∧ ∀ H2, Tabbed T H1 H2 →
  ∃ W : Nat → Nat → Hp → Prop, (∃ m, W 0 m H2) ∧ WalkA J g te vs σ (fun b H => Q (.bl b) H) W
/-- a generator of bools has been made, and is ready to be asked -/
def ReadyA (X : Cx) (k : Nat) (pins : List (Addr × Obj)) (σ τ : L2.St) (Qt : Bool → Hp → Prop) (a : Addr) (s : Shared) : Prop :=
  ∃ g n gs, s.heap.IsGen a g ∧ s.heap.NoLimit ∧ s.gens[g]? = some gs ∧ ∀ A : Around, Room k A → A.frames = some X.stack → ∃ Y : Cx,
    (∀ (s : Shared) (H : Hp), Inv Y [] τ H s → s.heap.IsGen a g) ∧ (∀ (s : Shared) (H : Hp), Inv Y [] τ H s → Inv X pins σ H s) ∧ gs.Goes (model X.prog X.w) A (RA Y τ Qt) (YA Y τ Qt) n (.send .none) (s.setGen g .running)
theorem gen_makeA {c T : Addr} {e iter tg : Expr} {gp : Pos} {sc : Scope} {own : List (Str × Nat)} {wi : TI} {g : TG} {te : TE} {k : Nat} {Q : VK} {Q' : Value → Shared → Prop}
    (hr : Room (k + 1) X.A) (hcm : X.calm = true) (hN : X.N.Nodup) (B : TabB X.base X.mg c T) (hc : X.env.code = .ref c) (ok : GBlk X.N X.env.scope sc own) (hi : PI X tg iter wi)
    (hpg : ∀ A s H C code fp pn, PG (Gx X A s H (gEnv X sc C code) fp pn) tg g) (he : ∀ A s H C code fp pn, Room k (A.deeper (gEnv X sc C code)) → PE (Gx X A s H (gEnv X sc C code) fp pn) e te)
    (hs : ∀ v, genFold iter X.env v = pure v) (I : Inv X pins σ H s) (h : tAnyA T wi g te (own.map (·.2)) σ H Q)
    (q : ∀ a s5, ReadyA X (k + 1) pins σ (wipe σ (own.map (·.2))) (fun b H => Q (.bl b) H) a s5 → Q' (.ref a) s5) :
    wpAny (model X.prog X.w) X.A (eval (.GeneratorExp e [⟨tg, iter, [], 0⟩] sc gp) X.env) Q' X.xe s := by
  have room : X.A.depth < recursionLimit := hr.depth
  have hfree : ∀ y ∈ sc.names, y.2 = .free → ∃ c, X.env.cells.lookup y.1 = some c := fun y hy e => (ok.blk.free y hy e).elim (fun k => I.ok.has _ (.inl k)) (fun k => I.ok.has _ (.inr k))
  refine wpAny_GeneratorExp_make ok.co (closure_ok hfree) ok.cell ok.dot ok.blk.kind room (thn (hi.run pins s σ H _ I h) fun xv s1 h1 => thn h1 fun itv s2 h2 => ?_) hs
  obtain ⟨it, fp, tn, J, H2, rfl, I2, Tn, st2, f2, ⟨ps, hT, tr⟩, hw⟩ := h2
  have oT : s2.heap.get? T = some { cls := .none, data := .fields ps } := I2.hok T _ hT
  have ltT := Heap.lt_size oT
  have cd : PySem.W.CodeHd s2.heap c T := B.code.keeps fun b u hb => I2.bk b u hb
  have goG : ∃ og, s2.heap.get? mainGlobals = some og ∧ mainGlobals ≠ T := by
    obtain ⟨og, _, _, eg, _⟩ := I2.mod.glob
    exact ⟨og, I2.bk _ _ eg, B.gP⟩
  obtain ⟨og, gg, gT⟩ := goG
  have nsG : s2.heap.Ns mainGlobals X.mg := I2.mod.glob.keeps I2.bk
  refine ⟨I2.nolimit, ?_⟩
  have rest : ∀ (cv : Value) (h3 : Heap) (tk : Nat) (more : Array Value), Heap.ExtBut T s2.heap h3 → s2.heap.objs.size ≤ h3.objs.size →
      h3.get? T = some { cls := .none, data := .fields (ps ++ more) } → TriplesOk (ps ++ more).toList →
      wpAny (model X.prog X.w) X.A (builtinsFor X.env.globals X.env.builtins) (fun bi s₄ =>
        ∀ h', h'.Ns s₄.heap.objs.size (fun y => if y = (".0" : Str) then some (.ref it) else none) → Heap.SameBut s₄.heap.objs.size (s₄.heap.push { cls := .type "frame", data := .dict #[] }) h' →
          Q' (.ref h'.objs.size) { s₄ with
            gens := s₄.gens.push (.fresh (.compStart (.GeneratorExp e [⟨tg, iter, [], 0⟩] sc gp) 0 (.ref it) .none (genEnv sc (cloFrom X.env.cells sc.names []) s₄.heap.objs.size cv bi X.env))),
            toks := s₄.toks + 1 + 1 + 1,
            heap := h'.push { cls := .type "generator", data := .fields #[.int s₄.gens.size 0, .str "<genexpr>" (s₄.toks + 1), .str (X.env.qual ++ "<genexpr>") (s₄.toks + 1 + 1)] } }) X.xe { s2 with heap := h3, toks := tk } := by
    intro cv h3 tk more ext hz hT3 tr3
    have old : ∀ b u, b ≠ T → s2.heap.get? b = some u → h3.get? b = some u := fun b u n eu => ext b u n eu
    obtain ⟨bm, ob, m1, m2, m3, m4, m5, m6, m7, m8⟩ := B.bm
    have g3 : h3.Ns mainGlobals X.mg := ns_at nsG fun u hu => old _ u gT hu
    refine wpAny_builtinsFor (m := X.mg) (by rw [I2.ok.glob]; exact g3) m1 m2 (old _ _ m4 (I2.bk _ _ m5)) m6 m7 m8 ?_
    have I3 : Inv X pins σ (upd H2 T (.tbl (ps ++ more))) { s2 with heap := h3, toks := tk } := inv_tab (more := more) (h' := h3) (g' := s2.gens) (d' := s2.drawn) (t' := tk) I2 hT old hT3 I2.bare
    generalize e3 : ({ s2 with heap := h3, toks := tk } : Shared) = s3 at I3 ⊢
    have hp3 : s3.heap = h3 := by rw [← e3]
    have tb : Tabbed T H2 (upd H2 T (.tbl (ps ++ more))) := ⟨⟨ps ++ more, upd_same, tr3⟩, fun b n => upd_ne n⟩
    obtain ⟨W, ⟨m0, w0⟩, turn⟩ := hw _ tb
    generalize eH : upd H2 T (.tbl (ps ++ more)) = H3 at I3 tb w0
    have nT : ∀ b ∈ fp, b ≠ T := fun b hb z => by
      have := (f2 b hb).1
      rw [z, hT] at this
      cases this
    have f3 : ∀ b ∈ fp, FpOk X pins H3 b ∧ b < s3.heap.objs.size := fun b hb => by
      obtain ⟨o, eo, _⟩ := Tn.obj _ _ st2 b hb
      refine ⟨⟨?_, (f2 b hb).2⟩, by rw [hp3]; exact Nat.lt_of_lt_of_le (Heap.lt_size eo) hz⟩
      rw [← eH, upd_ne (nT b hb)]
      exact (f2 b hb).1
    have st3 : tn 0 s3.heap := Tn.keep _ _ _ st2 fun b hb o e => by rw [hp3]; exact old b o (nT b hb) e
    intro h' hn' hs'
    have hsz : h'.objs.size = s3.heap.objs.size + 1 := by rw [hs'.1, Heap.size_push]
    have keep' : ∀ b o, s3.heap.get? b = some o → h'.get? b = some o := fun b o e => hs'.extBut b o (Nat.ne_of_lt (Heap.lt_size e)) (Heap.get?_push_of_some _ e)
    obtain ⟨go, hgo⟩ : ∃ go : Obj, go = { cls := .type "generator", data := .fields #[.int s3.gens.size 0, .str "<genexpr>" (s3.toks + 1), .str (X.env.qual ++ "<genexpr>") (s3.toks + 1 + 1)] } := ⟨_, rfl⟩
    rw [← hgo]
    have hgen : ∀ h : Heap, h.get? h'.objs.size = some go → h.IsGen h'.objs.size s3.gens.size := fun h e => ⟨_, _, _, e, by rw [hgo], by rw [hgo], by rw [hgo]⟩
    have hpush : (h'.push go).get? h'.objs.size = some go := Heap.get?_push_size _ (by rw [hgo]; rfl)
    refine q _ _ ⟨s3.gens.size, m0 + 1, _, hgen _ hpush, I3.nolimit.keeps fun b o e => Heap.get?_push_of_some _ (keep' b o e), Array.getElem?_push_size .., fun A hA hfr => ?_⟩
    refine ⟨Gx X A s3 H3 (gEnv X sc s3.heap.objs.size cv) fp [(h'.objs.size, go)], fun s6 H6 I6 => ?_, fun s6 H6 I6 => gen_back I3 (fun b hb => (f3 b hb).1) I6, rfl, ?_⟩
    · exact hgen _ (I6.pin (h'.objs.size, go) (List.mem_append_left _ (List.mem_singleton.mpr rfl))).1
    · refine seg_genStartA Tn hcm (fun p hp b hb => ?_) (hpg A s3 H3 s3.heap.objs.size cv fp _) (he A s3 H3 s3.heap.objs.size cv fp _ (hA.deeper _)) ok.co turn (m0 + 1) _ _ m0 H3 (Nat.lt_succ_self _)
        (gen_start I3 ok hN f3 hA.hd hfr hn' keep' (by rw [hsz]; exact Nat.lt_succ_self _) (fun v z => by rw [hgo] at z; cases z) hpush rfl rfl (allBare_setGen (AllBare.push I3.bare rfl) rfl)) ?_ (fun b hb => (f3 b hb).1.1) w0
      · rw [List.mem_singleton.mp hp]
        have := (f3 b hb).2
        exact Nat.ne_of_gt (by show b < h'.objs.size; rw [hsz]; exact Nat.lt_succ_of_lt this)
      · exact Tn.keep _ _ _ st3 fun b hb o e => Heap.get?_push_of_some _ (keep' b o e)
  cases hf : codeAmong gp ps.toList with
  | some cv =>
    refine wpAny_genexprCode_hit hc (cd.code oT tr) hf ?_
    exact rest cv s2.heap s2.toks #[] (Heap.ExtBut.refl _ _) (Nat.le_refl _) (by rw [oT]; simp) (by simpa using tr)
  | none =>
    refine wpAny_genexprCodeX hc (cd.code oT tr) (cd.tab oT) hf ?_
    intro c' h' tk ext ge lt isC _ htab _
    obtain ⟨o1, vs, f1, tf, fl, tg', inF, tx, tt, op, _, _, _, _, _, _, _, _, _, tr3, _⟩ := isC
    exact rest _ h' tk _ ext (Nat.le_trans ge (Nat.le_of_lt lt)) htab.2 tr3
/-- any(f(x) for x in xs), the elements bools that calls may give -/
theorem pe_anyA {c T : Addr} {e iter tg : Expr} {p pos gp : Pos} {sc : Scope} {own : List (Str × Nat)} {wi : TI} {g : TG} {te : TE} {k : Nat}
    (hr : Room (k + 2) X.A) (hcm : X.calm = true) (hN : X.N.Nodup) (hg : Gl X "any") (hm : X.mg "any" = none) (B : TabB X.base X.mg c T) (hc : X.env.code = .ref c) (ok : GBlk X.N X.env.scope sc own) (hi : PI X tg iter wi)
    (hpg : ∀ A s H C code fp pn, PG (Gx X A s H (gEnv X sc C code) fp pn) tg g) (he : ∀ A s H C code fp pn, Room k (A.deeper (gEnv X sc C code)) → PE (Gx X A s H (gEnv X sc C code) fp pn) e te)
    (hs : ∀ v, genFold iter X.env v = pure v := by intro _; rfl)
    (ha : starEach [.GeneratorExp e [⟨tg, iter, [], 0⟩] sc gp] X.env = (false, eval (.GeneratorExp e [⟨tg, iter, [], 0⟩] sc gp) X.env) :: starEach [] X.env := by rfl) :
    PE X (.Call (.Name "any" p) [.GeneratorExp e [⟨tg, iter, [], 0⟩] sc gp] [] pos) (tAnyA T wi g te (own.map (·.2))) := by
  constructor
  intro pins s σ H Q I h
  refine wpAny_Call_Name_kw (ld_blt I hg hm (u := .builtin "any") (by decide +kernel) ?_)
  refine PyProof.Rows.callWith_builtin1 ?_ ha (by rfl)
  rw [ha]
  show wpAny _ _ (spliced ((false, eval (.GeneratorExp e [⟨tg, iter, [], 0⟩] sc gp) X.env) :: backTo pos (starEach [] X.env))) _ _ s
  refine Calls.spliced_cons (gen_makeA (hr.mono (Nat.le_succ _)) hcm hN B hc ok hi hpg he hs I h fun a s5 hR => ?_)
  obtain ⟨gn, n, gs, hgen, hl, hgs, wake⟩ := hR
  refine Calls.spliced_nil ?_
  refine call_function_tree F.kind_any F.plain_any F.entry_any (F.args_any1 _) ?_
  unfold Builtin.«any»
  refine wpAny_bind (m := oneArg "any" _) (wpAny_pure ?_)
  refine wpAny_bind (wpAny_pyIter_gen hgen ?_)
  obtain ⟨Y, y1, y2, y3⟩ := wake X.A.in1.in1 ⟨hr.hd, by have := hr.dp; show X.A.depth + 3 * (k + 1) + 5 < _; omega, by have := hr.un; show X.A.units + 1 + 1 + 16 * (k + 1) + 200 < _; omega⟩ I.ok.frames
  exact wpAny_pure ⟨plainId_quiet F.plain_any_loop _, any_loopA hr.hd hr.depth y1 (fun b H1 s' I1 q => ⟨.bl b, H1, y2 _ _ I1, rfl, q⟩) n s5 hgen hl ⟨gs, hgs, y3⟩⟩
end
/-- over a list that the elements leave as it is -/
theorem wa_list {K : PySem.W.Frag} {a : Addr} {xs : List V} {g : TG} {te : TE} {vs : List Nat} {σ : L2.St} {H2 : Hp} {Qt : Bool → Hp → Prop} (Pv : Nat → Hp → Prop) (h0 : Pv 0 H2) (hl : ∀ i H, i ≤ xs.length → Pv i H → SqL K H a xs)
    (hs : ∀ i x H, xs[i]? = some x → Pv i H → g x (wipe σ vs) H fun σ2 H3 => wipe σ2 vs = wipe σ vs ∧ te σ2 H3 fun y H4 => ∃ b, y = .bl b ∧ if b = false then Pv (i + 1) H4 else Qt true H4) (hd : ∀ H, Pv xs.length H → Qt false H) :
    ∃ W : Nat → Nat → Hp → Prop, (∃ m, W 0 m H2) ∧ WalkA (Itl K a) g te vs σ Qt W := by
  refine ⟨fun i m H => m = xs.length - i ∧ i ≤ xs.length ∧ Pv i H, ⟨xs.length, by simp, Nat.zero_le _, h0⟩, ?_⟩
  rintro i m H ⟨rfl, hi, p⟩
  have q := hl i H hi p
  by_cases hlt : i < xs.length
  · refine .inr ⟨⟨xs, xs[i], q, by simp [hlt]⟩, Pv (i + 1), fun H' p' => ⟨xs.length - (i + 1), by omega, rfl, hlt, p'⟩, fun x H' y => ?_⟩
    obtain ⟨e, y⟩ := y
    subst e
    exact hs i x _ (y xs q) p
  · have e : i = xs.length := by omega
    subst e
    exact .inl ⟨⟨xs, q, Nat.le_refl _⟩, hd H p⟩
end LW
namespace LW
open PySem PySem.Spec PyProof.Rows L2 GxR
/-- a dict of the module with these texts for keys, in their order -/
def KKeys (K : PySem.W.Frag) (d : Addr) (ks : List Str) : Prop := ∃ (es : Array DictEntry) (ep : Nat), K.lookup d = some ⟨.type "dict", none, .dict es ep, #[]⟩ ∧ (d == sysModules) = false ∧ es.size = ks.length ∧ ∀ (i : Nat) (k : Str), ks[i]? = some k → ∃ (en : DictEntry) (t : Tok), es[i]? = some en ∧ en.key = .str k t
def ItK (ks : List Str) : It := ⟨fun i _ => i < ks.length, fun i H x H' => H' = H ∧ ∃ k, ks[i]? = some k ∧ x = .str k, fun i _ => ks.length ≤ i⟩
theorem turn_kk {P : Program} {w : World} {K : PySem.W.Frag} {tg : Expr} {d : Addr} {ks : List Str} {es : Array DictEntry} {ep : Nat} (it : Addr) (lo : K.lookup d = some ⟨.type "dict", none, .dict es ep, #[]⟩) (sz : es.size = ks.length) (ke : ∀ (i : Nat) (k : Str), ks[i]? = some k → ∃ (en : DictEntry) (t : Tok), es[i]? = some en ∧ en.key = .str k t) :
    Turn P w K tg (ItK ks) [it] it (fun i h => h.IsKeyIter it d i ks.length ep) where
  mem := List.mem_singleton.mpr rfl
  obj := fun i h st b hb => by
    rw [List.mem_singleton.mp hb]
    obtain ⟨oi, e, _, dd⟩ := st
    exact ⟨oi, e, fun v z => by rw [dd] at z; cases z⟩
  keep := fun i h h' st k => st.at fun oi e => k it (List.mem_singleton.mpr rfl) oi e
  item := by
    intro X hP hw hK hc i pins s σ H E I hf st hi
    subst hP hw hK
    obtain ⟨f0, f1, f2, f3, f4, f5⟩ := hf it (List.mem_singleton.mpr rfl)
    have hi' : i < ks.length := hi
    obtain ⟨en, t, e1, e2⟩ := ke i ks[i] (List.getElem?_eq_getElem hi')
    refine next_key_item st (I.kIn d _ lo) rfl sz e1 fun h' st' sb => ?_
    have J : Inv X pins σ H { s with heap := h' } := I.turned (t' := s.toks) (fun b ob hb e => (sb.2 b hb).trans e) f0 f1 f3 f4 f5
    obtain ⟨oi, e, c, dd⟩ := id st'
    exact ⟨en.key, rfl, go_of (s := { s with heap := h' }) e c dd (by decide) ⟨.str ks[i], H, J, ⟨t, e2⟩, ⟨rfl, ks[i], List.getElem?_eq_getElem hi', rfl⟩, st', fun b hb => (hf b hb).1⟩⟩
  done := by
    intro X hP hw hK hc i pins s σ H E I hf st hi
    subst hP hw hK
    obtain ⟨f0, f1, f2, f3, f4, f5⟩ := hf it (List.mem_singleton.mpr rfl)
    exact next_key_end (I.ok.hd hc) st (I.kIn d _ lo) rfl sz hi fun h' eb => ⟨rfl, I.turned (t' := s.toks) (fun b ob hb e => eb b ob hb e) f0 f1 f3 f4 f5⟩
  self := fun A i s Q E st h => wpAny_pyIter_keyiter st h
def iKK (K : PySem.W.Frag) (td : TE) : TI := fun σ H R => td σ H fun x H1 => ∃ d ks, x = .ref d ∧ KKeys K d ks ∧ R (ItK ks) H1
section
variable {X : Cx} {tg e : Expr} {td : TE}
/-- for k in a dict of the module -/
theorem pi_kk (he : PE X e td) : PI X tg e (iKK X.K td) := by
  constructor
  intro pins s σ H R I h
  refine thn (he.run pins s σ H _ I h) fun u s1 ⟨x, H1, I1, rx, d, ks, ex, ⟨es, ep, lo, low, sz, ke⟩, q⟩ => ?_
  subst ex
  cases rx
  refine iter_keys low (I1.kIn d _ lo) ⟨rfl, rfl, rfl⟩ rfl (pi_one (tk := s1.toks) I1 _ (turn_kk _ lo sz ke) ⟨_, Heap.get?_push_size _ rfl, rfl, ?_⟩ q)
  rw [sz]; rfl
end
/-- any over such keys -/
theorem wa_keys {ks : List Str} {g : TG} {te : TE} {vs : List Nat} {σ : L2.St} {H2 : Hp} {Qt : Bool → Hp → Prop} (Pv : Nat → Hp → Prop) (h0 : Pv 0 H2)
    (hs : ∀ i k H, ks[i]? = some k → Pv i H → g (.str k) (wipe σ vs) H fun σ2 H3 => wipe σ2 vs = wipe σ vs ∧ te σ2 H3 fun y H4 => ∃ b, y = .bl b ∧ if b = false then Pv (i + 1) H4 else Qt true H4) (hd : ∀ H, Pv ks.length H → Qt false H) :
    ∃ W : Nat → Nat → Hp → Prop, (∃ m, W 0 m H2) ∧ WalkA (ItK ks) g te vs σ Qt W := by
  refine ⟨fun i m H => m = ks.length - i ∧ i ≤ ks.length ∧ Pv i H, ⟨ks.length, by simp, Nat.zero_le _, h0⟩, ?_⟩
  rintro i m H ⟨rfl, hi, p⟩
  by_cases hlt : i < ks.length
  · refine .inr ⟨hlt, Pv (i + 1), fun H' p' => ⟨ks.length - (i + 1), by omega, rfl, hlt, p'⟩, fun x H' y => ?_⟩
    obtain ⟨e, k, ek, ex⟩ := y
    subst e; subst ex
    exact hs i k _ ek p
  · have e : i = ks.length := by omega
    subst e
    exact .inl ⟨Nat.le_refl _, hd H p⟩
end LW
namespace LW
open PySem PySem.Spec PyProof.Rows L2 GxR
def claimAt : List (Str × Nat) := [("has", 1), ("start", 1), ("finish", 2), ("put", 1), ("name", 1)]
def noClaim : List Str := ["open", "part", "close", "look", "get", "drop"]
structure Tg (K : PySem.W.Frag) (w : World) (mg : Str → Option Value) (cG : Addr) : Prop where
  gG : mg "Registry" = some (.ref cG)
  cl : Cls K cG
  n0 : NoAttr K cG "store"
  n1 : NoAttr K cG "names"
  n2 : NoAttr K cG "claims"
  n3 : NoAttr K cG "uploads"
  n4 : NoAttr K cG "collector"
  any : mg "any" = none
  bel : BelAt K w mg
  belK : ∀ bd, mg "BELOW" = some (.ref bd) → KKeys K bd ["image", "bundle"]
  cat : ∃ ca es n, mg "_CLAIM_AT" = some (.ref ca) ∧ KDict K w ca es n ∧ (∀ e ∈ claimAt, ∃ t, PySem.W.nsIn K ca e.1 = some (some (.int (e.2 : Int) t))) ∧ ∀ x ∈ noClaim, PySem.W.nsIn K ca x = some none
/-! ### the registry as data -/
structure Ab where
  B : Blbs
  N : List (Str × Str)
  n : Nat
  P : List (Nat × List Str)
  m : Nat
  U : List (Nat × Str)
  ph : Str
  W : List Str
  M : List Str
def Rg.ab (R : Rg) : Ab := ⟨R.B, R.N, R.n, R.E.map fun e => (e.i, e.ks), R.m, R.U, R.s.ph, R.s.W, R.s.M⟩
def opn (P : List (Nat × List Str)) (cl : Int) : Bool := P.any fun e => decide ((e.1 : Int) = cl)
def pinP (P : List (Nat × List Str)) (cl : Int) (a : Str) : List (Nat × List Str) := P.map fun e => if (e.1 : Int) = cl then (e.1, kadd e.2 a) else e
def shM (A : Ab) (a : Str) : List Str := if A.ph = "idle" then A.M else adds A.M (gat 4 A.B a [])
def pinA (A : Ab) (cl : Int) (a : Str) : Ab := { A with P := pinP A.P cl a, M := shM A a }
/-- what shading wants -/
def ShOk (A : Ab) (a : Str) : Prop := A.ph ≠ "idle" → dn 4 A.B a = true ∧ ∀ i, (adds A.M ((gat 4 A.B a []).take i)).length ≤ 90000
def dropP (P : List (Nat × List Str)) (cl : Int) : List (Nat × List Str) := P.filter fun e => decide ((e.1 : Int) ≠ cl)
/-- a reply -/
def Rep (H : Hp) (v : V) (ks : List Key) : Prop := ∃ p, v = .ref p ∧ H p = some (.tup (ks.map kV))
theorem pin_ab (E : List Ent) (cl : Int) (a : Str) : (pinE E cl a).map (fun e => (e.i, e.ks)) = pinP (E.map fun e => (e.i, e.ks)) cl a := by
  rw [pinE, pinP, List.map_map, List.map_map]
  apply List.map_congr_left
  intro e _
  show ((if (e.i : Int) = cl then { e with ks := kadd e.ks a } else e : Ent).i, (if (e.i : Int) = cl then { e with ks := kadd e.ks a } else e : Ent).ks) = if (e.i : Int) = cl then (e.i, kadd e.ks a) else (e.i, e.ks)
  split <;> rfl
theorem drop_ab (E : List Ent) (cl : Int) : (E.filter fun e => decide ((e.i : Int) ≠ cl)).map (fun e => (e.i, e.ks)) = dropP (E.map fun e => (e.i, e.ks)) cl := by
  rw [dropP, List.filter_map]; rfl
theorem opn_ent {E : List Ent} {cl : Int} (h : opn (E.map fun e => (e.i, e.ks)) cl = true) : ∃ e ∈ E, (e.i : Int) = cl := by
  obtain ⟨x, hx, q⟩ := List.any_eq_true.mp h
  obtain ⟨e, he, rfl⟩ := List.mem_map.mp hx
  exact ⟨e, he, of_decide_eq_true q⟩
theorem opn_none {E : List Ent} {cl : Int} (h : ∀ e ∈ E, (e.i : Int) ≠ cl) : opn (E.map fun e => (e.i, e.ks)) cl = false := by
  refine List.any_eq_false.mpr fun x hx => ?_
  obtain ⟨e, he, rfl⟩ := List.mem_map.mp hx
  simpa using h e he
theorem opn_some {E : List Ent} {cl : Int} {e : Ent} (he : e ∈ E) (h : (e.i : Int) = cl) : opn (E.map fun e => (e.i, e.ks)) cl = true :=
  List.any_eq_true.mpr ⟨_, List.mem_map.mpr ⟨e, he, rfl⟩, decide_eq_true h⟩
theorem drop_none_P {P : List (Nat × List Str)} {cl : Int} (h : opn P cl = false) : dropP P cl = P := by
  unfold dropP
  rw [List.filter_eq_self]
  intro e he
  have := List.any_eq_false.mp h e he
  simpa using this
theorem RStep.tup {c : CA} {r : Addr} {R R' : Rg} {H H' : Hp} {p : Addr} {o : HO} (S : RStep c r R R' H H') (n : H' p = none) : RStep c r R R' H (L2.upd H' p o) := S.trans (.same S.ri (same_upd n))
abbrev s_Registry__pin : Stmt := inClass (topS 38) 13
abbrev N_Registry__pin : List Str := ["self", "claim", "address"]
abbrev P_Registry__pin : List Str := ["self", "claim", "address"]
theorem sc_Registry__pin : FnScope N_Registry__pin P_Registry__pin (defScope s_Registry__pin) := ⟨rfl, rfl, rfl, by decide +kernel, rfl, by decide +kernel, by decide +kernel⟩
def sp_Registry__pin (c : CA) : Sp := fun vs H Q _ => ∃ (r : Addr) (R : Rg) (cl : Int) (a : Str), vs = [.ref r, .int cl, .str a] ∧ RI c r R H ∧ opn R.ab.P cl = true ∧ (∀ e ∈ R.ab.P, e.2.length ≤ 5000) ∧ ShOk R.ab a ∧ ∀ R' H', RStep c r R R' H H' → R'.ab = pinA R.ab cl a → Q .non H'
abbrev s_Registry__keep : Stmt := inClass (topS 38) 12
abbrev N_Registry__keep : List Str := ["self", "claim", "address"]
abbrev P_Registry__keep : List Str := ["self", "claim", "address"]
theorem sc_Registry__keep : FnScope N_Registry__keep P_Registry__keep (defScope s_Registry__keep) := ⟨rfl, rfl, rfl, by decide +kernel, rfl, by decide +kernel, by decide +kernel⟩
def sp_Registry__keep (c : CA) : Sp := fun vs H Q _ => ∃ (r : Addr) (R : Rg) (cl : Int) (a : Str), vs = [.ref r, .int cl, .str a] ∧ RI c r R H ∧ opn R.ab.P cl = true ∧ (∀ e ∈ R.ab.P, e.2.length ≤ 5000) ∧ ShOk R.ab a ∧ ∀ R' v H', RStep c r R R' H H' → R'.ab = pinA R.ab cl a → Rep H' v [.inr "kept", .inr a] → Q v H'
section
variable {P : Program} {w : World} {K : PySem.W.Frag} {mg : Str → Option Value} {base : Heap} {cM cR : Addr} {c : CA}
theorem ok_Registry__pin {f : Addr} {fd : FuncData} (F : Fun K "_pin" "Registry._pin" s_Registry__pin f fd) (T : Tx K mg cM cR c.U) (TC : Tc K mg c.C) (TK : Tk K mg c.K c.L) (TG : Tg K w mg c.G)
    (C_Claims_pin : CalM P w K mg base CX0 1 c.K "pin" P_Claims_pin (sp_Claims_pin c.K))
    (C_Collector_shade : CalM P w K mg base CX0 30 c.C "shade" P_Collector_shade (sp_Collector_shade c.C c.U c.b1 c.b2)) : FnOk P w K mg base CX0 31 f fd P_Registry__pin (sp_Registry__pin c) := by
  refine F.ok sc_Registry__pin (fun vs H Q E h => ?_) (fun cdv A outer s H vs Q E hr h => ?_)
  · obtain ⟨_, _, _, _, rfl, _⟩ := h
    rfl
  · obtain ⟨r, R, cl, a, rfl, h, op, hk, hs, q⟩ := h
    have nd := sc_Registry__pin.nd
    refine ⟨_, pss_cons (ps_expr (pe_calM (pe_fld (pv 0) rfl) C_Claims_pin hr (pa_cons (pv 1) (pa_cons (pv 2) pa_nil))))
  (pss_one (ps_expr (pe_calM (pe_fld (pv 0) rfl) C_Collector_shade hr (pa_cons (pv 2) pa_nil)))), ?_⟩
    obtain ⟨dx, e0⟩ := id h.ob
    obtain ⟨dk, e1⟩ := id h.kl
    obtain ⟨e, he, hc⟩ := opn_ent op
    have hv : valV (outD R.E) (.inl cl) = some (.ref e.di) := by
      rcases od_dec h.nE cl with ⟨e', he', h1, h2⟩ | ⟨h1, _⟩
      · rw [h2]
        have : e' = e := by
          obtain ⟨i, hi, ei⟩ := List.mem_iff_getElem.mp he
          obtain ⟨j, hj, ej⟩ := List.mem_iff_getElem.mp he'
          have : i = j := (List.getElem_inj (h₀ := by rw [List.length_map]; exact hi) (h₁ := by rw [List.length_map]; exact hj) h.nE).mp (by rw [List.getElem_map, List.getElem_map, ei, ej]; omega)
          subst this
          rw [← ei, ← ej]
        rw [this]
      · exact absurd hc (h1 e he)
    have lk : e.ks.length ≤ 5000 := hk (e.i, e.ks) (List.mem_map.mpr ⟨e, he, rfl⟩)
    refine ⟨_, rfl, r, c.G, dx, _, _, rfl, e0, TG.cl, TG.n2, rfl, R.k, dk, _, rfl, e1, rfl, _, rfl, _, rfl, R.k, dk, R.pd, e.di, _, cl, a, _, _, rfl, e1, h.hp, hv, h.pi e he, by rw [inn, List.length_map, sizeLine_eq]; omega, ?_⟩
    rw [inn_put]
    have S1 := h.pins he a
    have a1 : ({ R with E := pinE R.E (e.i : Int) a } : Rg).ab = { R.ab with P := pinP R.ab.P cl a } := by
      show (⟨_, _, _, _, _, _, _, _, _⟩ : Ab) = _
      rw [pin_ab, hc]; rfl
    generalize L2.upd H e.di (.dK (inn (kadd e.ks a))) = H1 at S1
    generalize ({ R with E := pinE R.E (e.i : Int) a } : Rg) = R1 at S1 a1
    have h1 := S1.ri
    have f1 : R1.s.ph = R.s.ph := congrArg Ab.ph a1
    have f2 : R1.s.M = R.s.M := congrArg Ab.M a1
    have f3 : R1.B = R.B := congrArg Ab.B a1
    obtain ⟨dx1, e01⟩ := id h1.ob
    obtain ⟨dco, eco⟩ := id h1.sc.co.ob
    refine ⟨_, rfl, r, c.G, dx1, _, _, rfl, e01, TG.cl, TG.n4, rfl, R1.co, dco, _, rfl, eco, rfl, _, rfl, R1.co, R1.o, R1.d, R1.s, R1.B, a, rfl, h1.sc, fun hp => ?_, fun hp => ?_⟩
    · refine q R1 H1 S1 ?_
      rw [a1]
      unfold pinA shM
      rw [if_pos (show R.ab.ph = "idle" from f1.symm.trans hp)]
    · obtain ⟨z1, z2⟩ := hs (fun z => hp (f1.trans z))
      refine ⟨by rw [f3]; exact z1, fun i => by rw [f2, f3]; exact z2 i, fun H' S g => ?_⟩
      refine q _ H' (S1.trans (h1.cols S (g.weak fun z e => .inr (.inr (.inl e))) (.inl rfl) (.inl rfl))) ?_
      show ({ R1.ab with M := adds R1.ab.M (gat 4 R1.ab.B a []) } : Ab) = _
      rw [a1]
      unfold pinA shM
      rw [if_neg (show ¬ R.ab.ph = "idle" from fun z => hp (f1.trans z))]
theorem ok_Registry__keep {f : Addr} {fd : FuncData} (F : Fun K "_keep" "Registry._keep" s_Registry__keep f fd) (T : Tx K mg cM cR c.U) (TC : Tc K mg c.C) (TK : Tk K mg c.K c.L) (TG : Tg K w mg c.G)
    (C_Registry_pin : CalM P w K mg base CX0 31 c.G "_pin" P_Registry__pin (sp_Registry__pin c)) : FnOk P w K mg base CX0 32 f fd P_Registry__keep (sp_Registry__keep c) := by
  refine F.ok sc_Registry__keep (fun vs H Q E h => ?_) (fun cdv A outer s H vs Q E hr h => ?_)
  · obtain ⟨_, _, _, _, rfl, _⟩ := h
    rfl
  · obtain ⟨r, R, cl, a, rfl, h, op, hk, hs, q⟩ := h
    have nd := sc_Registry__keep.nd
    refine ⟨_, pss_cons (ps_expr (pe_calM (pv 0) C_Registry_pin hr (pa_cons (pv 1) (pa_cons (pv 2) pa_nil))))
  (pss_one (ps_ret (pe_tup (pa_cons pe_str (pa_cons (pv 2) pa_nil))))), ?_⟩
    obtain ⟨dx, e0⟩ := id h.ob
    refine ⟨_, rfl, r, dx, _, rfl, e0, rfl, _, rfl, _, rfl, r, R, cl, a, rfl, h, op, hk, hs, fun R1 H1 S1 a1 => ?_⟩
    exact ⟨_, rfl, by show 2 ≤ sizeLine; decide, fun p np => q R1 _ _ (S1.tup np) a1 ⟨p, rfl, upd_same⟩⟩
end
end LW
namespace LW
open PySem PySem.Spec PyProof.Rows L2 GxR
def rValuesL : V → Hp → VK → Prop := fun x H Q => ∃ (d : Addr) (kvs : List (Key × V)), x = .ref d ∧ H d = some (.dK kvs) ∧ ∀ p, H p = none → Q (.ref p) (L2.upd H p (.lst (kvs.map (·.2))))
def tListValues (te : TE) : TE := fun σ H Q => te σ H fun x H1 => rValuesL x H1 Q
theorem kv_vals : ∀ {kvs : List (Key × V)} {vs : List (Key × Value)}, KV kvs vs → Vals (kvs.map (·.2)) (vs.map (·.2))
  | _, _, .nil => .nil
  | _, _, .cons h t => .cons h.2 (kv_vals t)
section
variable {X : Cx} {e : Expr} {te : TE} {p apos cpos pos : Pos}
/-- list(e.values()) -/
theorem pe_listValues (hc : X.calm = true) (he : PE X e te) (hg : Gl X "list") (hm : X.mg "list" = none) (hv : bootBuiltins "list" = some (.type "list")) (hbase : attributeBase e "values" X.env (eval e X.env) = eval e X.env := by rfl) (hline : (apos.endLine == cpos.line) = true := by rfl)
    (hs : starEach [.Call (.Attribute e "values" apos) [] [] cpos] X.env = (false, eval (.Call (.Attribute e "values" apos) [] [] cpos) X.env) :: starEach [] X.env := by rfl) :
    PE X (.Call (.Name "list" p) [.Call (.Attribute e "values" apos) [] [] cpos] [] pos) (tListValues te) := by
  constructor
  intro pins s σ H Q I hq
  refine wpAny_Call_Name_kw (ld_blt I hg hm hv ?_)
  refine PyProof.Rows.callWith_type1 ?_ hs rfl
  rw [hs]
  show wpAny _ _ (spliced ((false, eval (.Call (.Attribute e "values" apos) [] [] cpos) X.env) :: backTo pos (starEach [] X.env))) _ _ s
  refine Calls.spliced_cons ?_
  refine wpAny_Call_method (T := "dict") (id := "dict.values") hbase rfl hline F.plainAttrs_dict F.slot_dict_values F.type_dict_values (thn (he.run pins s σ H _ I hq) fun u s1 ⟨x, H1, I1, rx, d, kvs, ex, hd, q⟩ => ?_)
  subst ex
  cases rx
  obtain ⟨hz, lo, ws, kv, hdo⟩ := I1.hok d _ hd
  obtain ⟨ep, hat⟩ := hdo.dictAt
  have len : kvs.length = ws.length := Paired.length kv
  have J : Inv X pins σ H1 { s1 with heap := s1.heap.push { cls := .type "dict_values", data := .fields #[.ref d] } } := I1.kept (t' := s1.toks) fun b ob z => Heap.get?_push_of_some _ z
  refine ⟨hdo.typeIs, hdo.mapOf.noDict, ?_⟩
  show wpAny _ _ (callWith cpos (.builtin "dict.values") [.ref d] [] []) _ X.xe s1
  refine method_meetsIn F.slot_dict_values F.entry_dict_values rfl (PySem.evalArgs_none ⟨rfl, hdo.typeIs, F.args_dict_values_1 _, _, meets_dict_values (mixKind X.prog X.w) d lo, ⟨ws, hdo⟩, ?_⟩)
  refine Calls.spliced_nil ?_
  refine PySem.W.kdl_call (PySem.W.kdl_values (knd := mixKind X.prog X.w) (kvs := ws) (ep := ep)) (I1.ok.hd hc) ⟨⟨_, Heap.get?_push_size _ rfl, rfl, rfl⟩, hat.push _⟩ (by omega) fun g tk acc n keep at_ it => ?_
  have ev : acc.toList = ws.map (·.2) := PySem.W.kdl_vals_eq acc.toList (by rw [Array.length_toList]; exact it.1) fun j v z => it.2 j v (by rw [← Array.getElem?_toList]; exact z)
  refine ⟨.ref _, _, J.laid (t' := tk) (fun b u z => keep b u z) (Nat.le_refl _) (show ObjOk X.prog X.w _ _ _ (.lst (kvs.map (·.2))) from ⟨by rw [List.length_map]; omega, ws.map (·.2), n, kv_vals kv, ?_⟩), rfl, q _ (J.hok.fresh (Nat.le_refl _))⟩
  rw [← ev, Array.toArray_toList]
  exact at_
end
end LW
namespace LW
open PySem PySem.Spec PyProof.Rows L2 GxR
def rootA (A : Ab) (y : Str) : Prop := (∃ e ∈ A.N, e.2 = y) ∨ ∃ e ∈ A.P, y ∈ e.2
def sumP (P : List (Nat × List Str)) : Nat := (P.map (·.2.length)).sum
/-- a step of the collector -/
inductive CStep (A : Ab) (rs : List Str) : Str → Ab → Prop
  | begin (h : A.ph = "idle") : CStep A rs "begin" { A with W := rs, ph := "mark" }
  | turn (ys : List Str) (h : A.ph = "mark") (hW : A.W = []) (py : ys.Perm (A.B.map (·.1))) : CStep A rs "turn" { A with W := ys.filter (fun y => decide (y ∉ A.M)), ph := "sweep" }
  | mark (a : Str) (W' : List Str) (h : A.ph = "mark") (hW : A.W = a :: W') : CStep A rs "mark" (if a ∈ A.M then { A with W := W' } else { A with W := W' ++ refsAt A.B a, M := A.M ++ [a] })
  | fin (h : A.ph = "sweep") (hW : A.W = []) : CStep A rs "end" { A with W := [], ph := "idle", M := [] }
  | sweep (a : Str) (W' : List Str) (h : A.ph = "sweep") (hW : A.W = a :: W') : CStep A rs "sweep" { A with W := W', B := if a ∈ A.M then A.B else dropB A.B a }
theorem sum_ab (E : List Ent) : sumP (E.map fun e => (e.i, e.ks)) = (E.map (·.ks.length)).sum := by
  unfold sumP
  rw [List.map_map]; rfl
theorem len_flat {α : Type} : ∀ (l : List α) (f : α → List Str), (l.flatMap f).length = (l.map fun x => (f x).length).sum
  | [], _ => rfl
  | x :: r, f => by rw [List.flatMap_cons, List.length_append, len_flat r f, List.map_cons, List.sum_cons]
abbrev s_Registry_drop_name : Stmt := inClass (topS 38) 2
abbrev N_Registry_drop_name : List Str := ["self", "name"]
abbrev P_Registry_drop_name : List Str := ["self", "name"]
theorem sc_Registry_drop_name : FnScope N_Registry_drop_name P_Registry_drop_name (defScope s_Registry_drop_name) := ⟨rfl, rfl, rfl, by decide +kernel, rfl, by decide +kernel, by decide +kernel⟩
def sp_Registry_drop_name (c : CA) : Sp := fun vs H Q _ => ∃ (r : Addr) (R : Rg) (nm : Str), vs = [.ref r, .str nm] ∧ RI c r R H ∧ ∀ R' H', RStep c r R R' H H' → R'.ab = { R.ab with N := dropN R.ab.N nm } → Q .non H'
abbrev s_Registry_lapse : Stmt := inClass (topS 38) 3
abbrev N_Registry_lapse : List Str := ["self", "claim"]
abbrev P_Registry_lapse : List Str := ["self", "claim"]
theorem sc_Registry_lapse : FnScope N_Registry_lapse P_Registry_lapse (defScope s_Registry_lapse) := ⟨rfl, rfl, rfl, by decide +kernel, rfl, by decide +kernel, by decide +kernel⟩
def sp_Registry_lapse (c : CA) : Sp := fun vs H Q _ => ∃ (r : Addr) (R : Rg) (cl : Int), vs = [.ref r, .int cl] ∧ RI c r R H ∧ ∀ R' H', RStep c r R R' H H' → R'.ab = { R.ab with P := dropP R.ab.P cl } → Q .non H'
abbrev s_Registry_fall : Stmt := inClass (topS 38) 4
abbrev N_Registry_fall : List Str := ["self"]
abbrev P_Registry_fall : List Str := ["self"]
theorem sc_Registry_fall : FnScope N_Registry_fall P_Registry_fall (defScope s_Registry_fall) := ⟨rfl, rfl, rfl, by decide +kernel, rfl, by decide +kernel, by decide +kernel⟩
def sp_Registry_fall (c : CA) : Sp := fun vs H Q _ => ∃ (r : Addr) (R : Rg), vs = [.ref r] ∧ RI c r R H ∧ ∀ R' H', RStep c r R R' H H' → R'.ab = { R.ab with U := [], ph := "idle", W := [], M := [] } → Q .non H'
abbrev s_Registry_roots : Stmt := inClass (topS 38) 5
abbrev N_Registry_roots : List Str := ["self"]
abbrev P_Registry_roots : List Str := ["self"]
theorem sc_Registry_roots : FnScope N_Registry_roots P_Registry_roots (defScope s_Registry_roots) := ⟨rfl, rfl, rfl, by decide +kernel, rfl, by decide +kernel, by decide +kernel⟩
def sp_Registry_roots (c : CA) : Sp := fun vs H Q _ => ∃ (r : Addr) (R : Rg), vs = [.ref r] ∧ RI c r R H ∧ R.ab.N.length ≤ 1000 ∧ sumP R.ab.P ≤ 2500 ∧ ∀ xs p H', H p = none → Same H H' → H' p = some (.lst (xs.map V.str)) → sortedS xs = true → xs.Nodup → (∀ y, y ∈ xs ↔ rootA R.ab y) → xs.length ≤ R.ab.N.length + sumP R.ab.P → Q (.ref p) H'
abbrev s_Registry__piece : Stmt := inClass (topS 38) 11
abbrev N_Registry__piece : List Str := ["self", "address", "at", "count", "blob", "kind", "text"]
abbrev P_Registry__piece : List Str := ["self", "address", "at", "count"]
theorem sc_Registry__piece : FnScope N_Registry__piece P_Registry__piece (defScope s_Registry__piece) := ⟨rfl, rfl, rfl, by decide +kernel, rfl, by decide +kernel, by decide +kernel⟩
def sp_Registry__piece (c : CA) : Sp := fun vs H Q _ => ∃ (r : Addr) (R : Rg) (a : Str) (at_ cnt : Int), vs = [.ref r, .str a, .int at_, .int cnt] ∧ RI c r R H ∧ (lk R.ab.B a = none → ∀ v H', RStep c r R R H H' → Rep H' v [.inr "lacks", .inr a] → Q v H') ∧ ∀ x, lk R.ab.B a = some x → ∀ v H', RStep c r R R H H' → Rep H' v [.inr "piece", .inr a, .inr x.1, .inl at_, .inr (cutS x.2 (some at_) (some (at_ + cnt))), .inl x.2.length] → Q v H'
section
variable {P : Program} {w : World} {K : PySem.W.Frag} {mg : Str → Option Value} {base : Heap} {cM cR : Addr} {c : CA}
theorem ok_Registry_drop_name {f : Addr} {fd : FuncData} (F : Fun K "drop_name" "Registry.drop_name" s_Registry_drop_name f fd) (T : Tx K mg cM cR c.U) (TC : Tc K mg c.C) (TK : Tk K mg c.K c.L) (TG : Tg K w mg c.G) : FnOk P w K mg base CX0 1 f fd P_Registry_drop_name (sp_Registry_drop_name c) := by
  refine F.ok sc_Registry_drop_name (fun vs H Q E h => ?_) (fun cdv A outer s H vs Q E hr h => ?_)
  · obtain ⟨_, _, _, rfl, _⟩ := h
    rfl
  · obtain ⟨r, R, nm, rfl, h, q⟩ := h
    have nd := sc_Registry_drop_name.nd
    refine ⟨_, pss_one (ps_expr (pe_dpop2 (pe_fld (pv 0) rfl) (pv 1) pe_non ⟨rfl, rfl, rfl, rfl⟩)), ?_⟩
    obtain ⟨dx, e0⟩ := id h.ob
    refine ⟨_, rfl, r, c.G, dx, _, _, rfl, e0, TG.cl, TG.n1, rfl, R.nm, rfl, .inl ⟨_, .inl h.hn⟩, _, rfl, nmK R.N, .inr nm, h.hn, rfl, fun v hv => ?_, fun hv => ?_⟩
    · rw [nm_drop]; exact q _ _ (h.names (dropN R.N nm)) rfl
    · refine q R H (.refl h) ?_
      have : dropN R.ab.N nm = R.ab.N := nm_drop0 (by
        rw [nm_val] at hv
        cases e : lkN R.N nm with
        | none => exact e
        | some x => rw [e] at hv; cases hv)
      rw [this]
theorem ok_Registry_lapse {f : Addr} {fd : FuncData} (F : Fun K "lapse" "Registry.lapse" s_Registry_lapse f fd) (T : Tx K mg cM cR c.U) (TC : Tc K mg c.C) (TK : Tk K mg c.K c.L) (TG : Tg K w mg c.G)
    (C_Claims_end : CalM P w K mg base CX0 1 c.K "end" P_Claims_end (sp_Claims_end c.K)) : FnOk P w K mg base CX0 2 f fd P_Registry_lapse (sp_Registry_lapse c) := by
  refine F.ok sc_Registry_lapse (fun vs H Q E h => ?_) (fun cdv A outer s H vs Q E hr h => ?_)
  · obtain ⟨_, _, _, rfl, _⟩ := h
    rfl
  · obtain ⟨r, R, cl, rfl, h, q⟩ := h
    have nd := sc_Registry_lapse.nd
    refine ⟨_, pss_one (ps_expr (pe_calM (pe_fld (pv 0) rfl) C_Claims_end hr (pa_cons (pv 1) pa_nil))), ?_⟩
    obtain ⟨dx, e0⟩ := id h.ob
    obtain ⟨dk, e1⟩ := id h.kl
    refine ⟨_, rfl, r, c.G, dx, _, _, rfl, e0, TG.cl, TG.n2, rfl, R.k, dk, _, rfl, e1, rfl, _, rfl, R.k, dk, R.pd, _, cl, _, rfl, e1, h.hp, fun v hv => ?_, fun hv => ?_⟩
    · rw [od_drop]
      refine q _ _ (h.ends cl) ?_
      show ({ R.ab with P := (R.E.filter fun e => decide ((e.i : Int) ≠ cl)).map fun e => (e.i, e.ks) } : Ab) = _
      rw [drop_ab]; rfl
    · refine q R H (.refl h) ?_
      rcases od_dec h.nE cl with ⟨e, _, _, h2⟩ | ⟨h1, _⟩
      · rw [hv] at h2; cases h2
      · have z : dropP R.ab.P cl = R.ab.P := drop_none_P (opn_none h1)
        rw [z]
theorem ok_Registry_fall {f : Addr} {fd : FuncData} (F : Fun K "fall" "Registry.fall" s_Registry_fall f fd) (T : Tx K mg cM cR c.U) (TC : Tc K mg c.C) (TK : Tk K mg c.K c.L) (TG : Tg K w mg c.G)
    (C_Collector_stop : CalM P w K mg base CX0 1 c.C "stop" P_Collector_stop (sp_Collector_stop c.C c.U c.b1 c.b2))
    (C_Uploads_forget : CalM P w K mg base CX0 1 c.L "forget" P_Uploads_forget (sp_Uploads_forget c.L)) : FnOk P w K mg base CX0 2 f fd P_Registry_fall (sp_Registry_fall c) := by
  refine F.ok sc_Registry_fall (fun vs H Q E h => ?_) (fun cdv A outer s H vs Q E hr h => ?_)
  · obtain ⟨_, _, rfl, _⟩ := h
    rfl
  · obtain ⟨r, R, rfl, h, q⟩ := h
    have nd := sc_Registry_fall.nd
    refine ⟨_, pss_cons (ps_expr (pe_calM0 (pe_fld (pv 0) rfl) C_Uploads_forget hr))
  (pss_one (ps_expr (pe_calM0 (pe_fld (pv 0) rfl) C_Collector_stop hr))), ?_⟩
    obtain ⟨dx, e0⟩ := id h.ob
    obtain ⟨du, e2⟩ := id h.ul
    refine ⟨_, rfl, r, c.G, dx, _, _, rfl, e0, TG.cl, TG.n3, rfl, R.u, du, _, rfl, e2, rfl, R.u, du, R.td, _, rfl, e2, fun p np => ?_⟩
    have S1 := h.forgets p np du e2
    have a1 : ({ R with td := p, U := [] } : Rg).ab = { R.ab with U := [] } := rfl
    generalize ({ R with td := p, U := [] } : Rg) = R1 at S1 a1
    generalize L2.upd (L2.upd H p (.dK [])) R.u _ = H1 at S1
    have h1 := S1.ri
    obtain ⟨dx1, e01⟩ := id h1.ob
    obtain ⟨dco, eco⟩ := id h1.sc.co.ob
    refine ⟨_, rfl, r, c.G, dx1, _, _, rfl, e01, TG.cl, TG.n4, rfl, R1.co, dco, _, rfl, eco, rfl, R1.co, R1.o, R1.d, R1.s, R1.B, rfl, h1.sc, fun s' H' S w1 w2 w3 g n1 n2 => ?_⟩
    refine q _ H' (S1.trans (h1.cols S (g.weak fun z e => .inl e) (.inr n1) (.inr n2))) ?_
    show ({ R1.ab with ph := s'.ph, W := s'.W, M := s'.M } : Ab) = _
    rw [w1, w2, w3, a1]
theorem ok_Registry_roots {f : Addr} {fd : FuncData} (F : Fun K "roots" "Registry.roots" s_Registry_roots f fd) (T : Tx K mg cM cR c.U) (TC : Tc K mg c.C) (TK : Tk K mg c.K c.L) (TG : Tg K w mg c.G)
    (C_Claims_pinned : CalM P w K mg base CX0 1 c.K "pinned" P_Claims_pinned (sp_Claims_pinned c.K)) : FnOk P w K mg base CX0 2 f fd P_Registry_roots (sp_Registry_roots c) := by
  refine F.ok sc_Registry_roots (fun vs H Q E h => ?_) (fun cdv A outer s H vs Q E hr h => ?_)
  · obtain ⟨_, _, rfl, _⟩ := h
    rfl
  · obtain ⟨r, R, rfl, h, bN, bs, q⟩ := h
    have nd := sc_Registry_roots.nd
    refine ⟨_, pss_one (ps_ret (pe_callB (cr_sortedT rfl) (by rfl) T.sor (by decide +kernel) (pa_cons (pe_callTy (cr_setOfS rfl) (by rfl) TC.set (by decide +kernel) (pa_cons (pe_op op_cat (pe_listValues rfl (pe_fld (pv 0) rfl) (by rfl) T.list (by decide +kernel)) (pe_calM0 (pe_fld (pv 0) rfl) C_Claims_pinned hr)) pa_nil)) pa_nil))), ?_⟩
    obtain ⟨dx, e0⟩ := id h.ob
    refine ⟨_, rfl, r, c.G, dx, _, _, rfl, e0, TG.cl, TG.n1, rfl, R.nm, _, rfl, h.hn, fun p0 n0 => ?_⟩
    have s0 := same_upd n0 (o := .lst ((nmK R.N).map (·.2)))
    have ev : (nmK R.N).map (·.2) = (R.N.map (·.2)).map V.str := by rw [nmK, List.map_map, List.map_map]; rfl
    have l0 : (L2.upd H p0 (.lst ((nmK R.N).map (·.2)))) p0 = some (.lst ((R.N.map (·.2)).map V.str)) := by rw [upd_same, ev]
    generalize L2.upd H p0 (.lst ((nmK R.N).map (·.2))) = H1 at s0 l0
    have h1 := h.gr (.of_same s0)
    obtain ⟨dx1, e01⟩ := id h1.ob
    obtain ⟨dk, e1⟩ := id h1.kl
    rw [show R.ab.P = R.E.map fun e => (e.i, e.ks) from rfl, sum_ab] at bs
    refine ⟨_, rfl, r, c.G, dx1, _, _, rfl, e01, TG.cl, TG.n2, rfl, R.k, dk, _, rfl, e1, rfl, R.k, dk, R.pd, _, R.E, rfl, e1, h1.hp, h1.pi, ?_, bs, fun ys p1 H2 n1 s1 l1 srt nod mem => ?_⟩
    · exact h1.al.sublist (List.Sublist.append (by
        show [R.pd].Sublist [r, R.k, R.u, R.nm, R.pd, R.td, R.o, R.d, R.co, R.s.wt, R.s.mm]
        exact List.singleton_sublist.mpr (List.mem_of_getElem? (i := 4) rfl)) (List.Sublist.refl _))
    have ly : ys.length ≤ (R.E.map (·.ks.length)).sum := by
      rw [← len_flat]
      refine nod.length_le_of_subset fun y hy => ?_
      obtain ⟨e, he, hk⟩ := (mem y).mp hy
      exact List.mem_flatMap.mpr ⟨e, he, hk⟩
    have l02 := s1 _ _ l0
    refine ⟨p0, p1, _, _, rfl, rfl, l02, l1, ?_, fun p2 n2 => ?_⟩
    · rw [List.length_map, List.length_map, List.length_map, sizeLine_eq]
      have : R.N.length ≤ 1000 := bN
      omega
    rw [← List.map_append]
    have e2 : (L2.upd H2 p2 (.lst ((R.N.map (·.2) ++ ys).map V.str))) p2 = _ := upd_same
    have s2 := same_upd n2 (o := .lst ((R.N.map (·.2) ++ ys).map V.str))
    generalize L2.upd H2 p2 (.lst ((R.N.map (·.2) ++ ys).map V.str)) = H3 at e2 s2
    have lt : (R.N.map (·.2) ++ ys).length ≤ R.N.length + (R.E.map (·.ks.length)).sum := by rw [List.length_append, List.length_map]; omega
    refine ⟨p2, _, rfl, SqL.of e2, ?_, fun p3 cc hc n3 => ?_⟩
    · show _ < 4096
      have : R.N.length ≤ 1000 := bN
      omega
    refine ⟨p3, _, cc, rfl, upd_same, fun xs p4 srt4 nod4 mem4 ln4 n4 => ?_⟩
    generalize hH5 : L2.upd _ p4 (HO.lst (xs.map V.str)) = H5
    have s5 : Same H3 H5 := by rw [← hH5]; exact (same_upd n3).trans (same_upd n4)
    have n5 : H p4 = none := by
      have := (same_upd n3).free n4
      exact s0.free (s1.free (s2.free this))
    refine q xs p4 H5 n5 (((s0.trans s1).trans s2).trans s5) (by rw [← hH5]; exact upd_same) srt4 nod4 (fun y => ?_) ?_
    · rw [mem4, decide_eq_true_eq, List.mem_append, List.mem_map, mem]
      constructor
      · rintro (⟨e, he, z⟩ | ⟨e, he, z⟩)
        · exact .inl ⟨e, he, z⟩
        · exact .inr ⟨(e.i, e.ks), List.mem_map.mpr ⟨e, he, rfl⟩, z⟩
      · rintro (⟨e, he, z⟩ | ⟨e, he, z⟩)
        · exact .inl ⟨e, he, z⟩
        · obtain ⟨e', he', rfl⟩ := List.mem_map.mp he
          exact .inr ⟨e', he', z⟩
    · rw [ln4]
      show cc ≤ R.N.length + sumP (R.E.map fun e => (e.i, e.ks))
      rw [sum_ab]; omega
theorem ok_Registry__piece {f : Addr} {fd : FuncData} (F : Fun K "_piece" "Registry._piece" s_Registry__piece f fd) (T : Tx K mg cM cR c.U) (TC : Tc K mg c.C) (TK : Tk K mg c.K c.L) (TG : Tg K w mg c.G)
    (C_Store_blob : CalM P w K mg base CX0 1 c.U "blob" P_Store_blob (sp_Store_blob c.U)) : FnOk P w K mg base CX0 2 f fd P_Registry__piece (sp_Registry__piece c) := by
  refine F.ok sc_Registry__piece (fun vs H Q E h => ?_) (fun cdv A outer s H vs Q E hr h => ?_)
  · obtain ⟨_, _, _, _, _, rfl, _⟩ := h
    rfl
  · obtain ⟨r, R, a, at_, cnt, rfl, h, q1, q2⟩ := h
    have nd := sc_Registry__piece.nd
    refine ⟨_, pss_cons (ps_set (i := 4) nd rfl (Or.inl rfl) (pe_calM (pe_fld (pv 0) rfl) C_Store_blob hr (pa_cons (pv 1) pa_nil)))
  (pss_cons (ps_if (pt_cmpR op_isN (pv 4) pe_non (nomark _))
    (pss_one (ps_ret (pe_tup (pa_cons pe_str (pa_cons (pv 1) pa_nil)))))
    (pss_nil))
  (pss_cons (ps_asg (pv 4) (pg_tup rfl (pgs_cons (pg_name (i := 5) nd rfl (Or.inl rfl)) (pgs_cons (pg_name (i := 6) nd rfl (Or.inl rfl)) pgs_nil))))
  (pss_one (ps_ret (pe_tup (pa_cons pe_str (pa_cons (pv 1) (pa_cons (pv 5) (pa_cons (pv 2) (pa_cons (pe_slice sl_str (pv 6) (po_some (pv 2)) (po_some (pe_op op_add (pv 2) (pv 3)))) (pa_cons (pe_callB call_len_str (by rfl) T.len (by decide +kernel) (pa_cons (pv 6) pa_nil)) pa_nil))))))))))), ?_⟩
    obtain ⟨dx, e0⟩ := id h.ob
    obtain ⟨dxo, eo⟩ := id h.sc.at_.st.ob
    refine ⟨_, rfl, r, c.G, dx, _, _, rfl, e0, TG.cl, TG.n0, rfl, R.o, dxo, _, rfl, eo, rfl, _, rfl, R.o, R.d, R.B, a, rfl, h.sc.at_.st, fun v gv => ?_⟩
    rcases gv with ⟨n, rfl⟩ | ⟨x, t, e, rfl, ht⟩
    · refine ⟨_, rfl, rfl, _, rfl, ?_⟩
      rw [decide_eq_true (rfl : V.non = V.non)]
      exact iteT ⟨_, rfl, by show 2 ≤ sizeLine; decide, fun p np => q1 n _ _ (.same h (same_upd np)) ⟨p, rfl, upd_same⟩⟩
    · refine ⟨_, rfl, rfl, _, rfl, ?_⟩
      rw [decide_eq_false (fun z => by cases z)]
      have lx : x.2.length ≤ sizeLine := by
        have := (h.sc.at_.of e).1
        rw [sizeLine_eq]; omega
      refine iteF ⟨_, rfl, t, [.str x.1, .str x.2], rfl, SqT.of ht, rfl, _, _, rfl, _, _, rfl, rfl, ?_⟩
      refine ⟨_, rfl, _, rfl, _, rfl, ?_⟩
      refine ⟨_, rfl, _, rfl, at_, rfl, _, rfl, _, rfl, at_, cnt, rfl, rfl, _, rfl, x.2, rfl, lx, _, rfl, x.2, rfl, lx, by show 6 ≤ sizeLine; decide, fun p np => ?_⟩
      exact q2 x e _ _ (.same h (same_upd np)) ⟨p, rfl, upd_same⟩
end
end LW
namespace LW
open PySem PySem.Spec PyProof.Rows L2 GxR
theorem refs_word (b : Bool) (t : Str) : refsOf (word b, t) = if b then (mid (lns t)).map adr else mid (lns t) := by
  unfold refsOf
  cases b with
  | false => rw [if_pos (show (word false, t).1 = "image" from rfl)]; rfl
  | true =>
    have n : ¬ (word true, t).1 = "image" := by show ¬ ("bundle" : Str) = "image"; decide +kernel
    rw [if_neg n, if_pos (show (word true, t).1 = "bundle" from rfl)]; rfl
/-- of a text with or without fault -/
def spRefsX (C B1 B2 : Addr) : Sp := fun vs H Q E => ∃ (b : Bool) (t : Str), vs = [.str (word b), .str t] ∧ t.length ≤ 5000 ∧ TabG H B1 ∧ TabG H B2 ∧
  (∀ k, faultN b (lns t) = some k → Out C H E k) ∧ (faultN b (lns t) = none → ∀ p H', H p = none → Gr H H' → H' p = some (.lst ((refsOf (word b, t)).map V.str)) → Q (.ref p) H')
structure RefX (P : Program) (w : World) (K : PySem.W.Frag) (mg : Str → Option Value) (base : Heap) (cM B1 B2 f : Addr) (fd : FuncData) : Prop where
  R : FnOk P w K mg base (L2.CX P w) 5 f fd P_references (spRefsX cM B1 B2)
  a : mg "references" = some (.ref f)
  k : PySem.W.keepIn K (.ref f) = true
  b : Binds K fd P_references []
  ex : PySem.W.exmOne K (.ref cM) (.ref cM) = some true
section
variable {P : Program} {w : World} {K : PySem.W.Frag} {mg : Str → Option Value} {base : Heap} {cM cR cU : Addr}
theorem ok_referencesX {f fR fW B1 B2 : Addr} {fd dR dW : FuncData} (F : Fun K "references" "references" s_references f fd) (T : Tx K mg cM cR cU) (M : Mods P w K mg base cM B1 B2 fR fW dR dW) :
    FnOk P w K mg base (L2.CX P w) 5 f fd P_references (spRefsX cM B1 B2) := by
  refine F.okX sc_references (fun vs H Q E h => ?_) (fun cdv A outer s H vs Q E hr h => ?_)
  · obtain ⟨b, t, rfl, _⟩ := h
    rfl
  · obtain ⟨b, t, rfl, hl, hB1, hB2, hE, hQ⟩ := h
    have nd := sc_references.nd
    obtain ⟨t1, c1⟩ := T.IMAGE
    obtain ⟨t2, c2⟩ := T.BUNDLE
    refine ⟨_, pss_cons (ps_if (pt_cmpR op_eq (pv 0) (pe_glob (v := .str "image") (by rfl) c1 ⟨_, rfl⟩) (nomark _))
    (pss_one (ps_ret (pe_callS M.RI hr rfl M.aI M.kI M.bI (fun σ => passAt (takes_of rfl rfl rfl rfl) σ) (pa_cons (pv 1) pa_nil))))
    (pss_nil))
  (pss_cons (ps_if (pt_cmpR op_eq (pv 0) (pe_glob (v := .str "bundle") (by rfl) c2 ⟨_, rfl⟩) (nomark _))
    (pss_one (ps_ret (pe_lc (own := [("_", 2), ("address", 3)]) (g := gTup K 2 (gCons (gName 2) (gCons (gName 3) gNil))) (tt := tYes) rfl nd (pi_list (pe_callS M.RB hr rfl M.aB M.kB M.bB (fun σ => passAt (takes_of rfl rfl rfl rfl) σ) (pa_cons (pv 1) pa_nil))) (blkOk_by (N := N_references) (sc := defScope s_references) (by decide +kernel)) (fun _ _ _ _ _ => (pg_tup rfl (pgs_cons (pg_name (i := 2) nd rfl (Or.inl rfl)) (pgs_cons (pg_name (i := 3) nd rfl (Or.inl rfl)) pgs_nil)))) (fun _ _ _ _ _ => pts_nil) (fun _ _ _ _ _ => (pv 3)))))
    (pss_nil))
  (pss_one (ps_ret (pe_lst pa_nil)))), ?_⟩
    refine ⟨_, rfl, rfl, _, rfl, ?_⟩
    rw [eq_str]
    have o3 : ("bundle" : Str) ≠ "image" := by decide +kernel
    cases b with
    | false =>
      have hQ : faultN false (lns t) = none → ∀ p H', H p = none → Gr H H' → H' p = some (.lst ((mid (lns t)).map V.str)) → Q (.ref p) H' := fun hf p H' n g e => hQ hf p H' n g (by rw [refs_word false t]; exact e)
      refine iteT ?_
      exact ⟨_, rfl, t, rfl, hl, hB1, hE, hQ⟩
    | true =>
      have hQ : faultN true (lns t) = none → ∀ p H', H p = none → Gr H H' → H' p = some (.lst (((mid (lns t)).map adr).map V.str)) → Q (.ref p) H' := fun hf p H' n g e => hQ hf p H' n g (by rw [refs_word true t]; exact e)
      rw [decide_eq_false (show ¬ word true = ("image" : Str) from o3)]
      refine iteF ⟨_, rfl, rfl, _, rfl, ?_⟩
      rw [eq_str, decide_eq_true (show word true = ("bundle" : Str) from rfl)]
      refine iteT ?_
      refine ⟨_, rfl, t, rfl, hl, hB1, hB2, hE, fun hf p ts H1 np g hp hP => ?_⟩
      have ln := hP.len
      rw [List.length_map, mid_len] at ln
      have lt := lns_len t
      refine ⟨p, rfl, ⟨_, SqL.of hp⟩, fun D nD => lc_pair (walk_list (K := K) (a := p) (xs := ts)) (vs := [2, 3]) (te := tVar 3) (fun i => .str (adr ((mid (lns t)).getD i ""))) ?_ ?_ (fun _ _ => rfl) ?_ ?_⟩
      · omega
      · intro H2 hb
        exact hb.list nD (SqL.of hp)
      · rintro i x H2 H3 hi hb ⟨rfl, hx⟩
        obtain ⟨pr, t0, ep, rfl, ht⟩ := hP.get hx
        rw [List.getElem?_map] at ep
        cases e : (mid (lns t))[i]? with
        | none => rw [e] at ep; cases ep
        | some z =>
          rw [e] at ep
          cases ep
          have e9 : (mid (lns t)).getD i "" = z := by rw [List.getD_eq_getElem?_getD, e]; rfl
          refine ⟨t0, .str (nam z), .str (adr z), rfl, rfl, SqT.of ((hb.same nD) _ _ ht), fun Q2 kk => ⟨_, rfl, ?_⟩⟩
          rw [e9] at kk
          exact kk
      · have et : ((List.range ts.length).map fun i => V.str (adr ((mid (lns t)).getD i ""))) = ((mid (lns t)).map adr).map V.str := by
          rw [ln, ← mid_len, range_map_get (fun z : Str => V.str (adr z)) ("" : Str) (mid (lns t)), List.map_map]
          rfl
        rw [et]
        exact hQ hf D _ (g.free _ nD) (g.upd nD) upd_same
end
end LW
namespace LW
open PySem PySem.Spec PyProof.Rows L2 GxR
def lkU : List (Nat × Str) → Int → Option Str
  | [], _ => none
  | (i, t) :: r, u => if (i : Int) = u then some t else lkU r u
def dropU (U : List (Nat × Str)) (u : Int) : List (Nat × Str) := U.filter fun e => decide ((e.1 : Int) ≠ u)
theorem tx_lk (U : List (Nat × Str)) (u : Int) : valV (tx U) (.inl u) = (lkU U u).map V.str := by
  induction U with
  | nil => rfl
  | cons e r ih =>
    obtain ⟨i, t⟩ := e
    rw [tx, List.map_cons]
    unfold lkU
    by_cases h : (i : Int) = u
    · rw [if_pos h, valV_pos (by rw [h])]; rfl
    · rw [if_neg h, valV_neg (fun z => h (by injection z))]; exact ih
def finA (A : Ab) (u cl : Int) (a : Str) : Ab × List Key := match lkU A.U u with
  | none => if wholeN 3 A.B a = true then (pinA A cl a, [.inr "kept", .inr a]) else (A, [.inr "gone", .inl u])
  | some t => if adOf 0 t = a then (pinA { A with U := dropU A.U u, B := setB A.B a ("layer", t) } cl a, [.inr "kept", .inr a]) else ({ A with U := dropU A.U u }, [.inr "wrong", .inr a])
/-- what finishing wants -/
def FinOk (A : Ab) (u : Int) (a : Str) : Prop := (lkU A.U u = none → wholeN 3 A.B a = true → ShOk A a) ∧ ∀ t, lkU A.U u = some t → Good ("layer", t) ∧ (adOf 0 t = a → ShOk { A with U := dropU A.U u, B := setB A.B a ("layer", t) } a)
def badR (B : Blbs) (kd : Str) (l : List Str) : Option Str := l.find? fun z => !iwo 3 B kd z
def kN (b : Bool) : Nat := if b then 2 else 1
def putA (A : Ab) (cl : Int) (b : Bool) (t : Str) : Ab × List Key := if faultN b (lns t) ≠ none then (A, [.inr "malformed"]) else match badR A.B (due (word b)) (refsOf (word b, t)) with
  | some z => (A, [.inr "lacks", .inr z])
  | none => (pinA { A with B := setB A.B (adOf (kN b) t) (word b, t) } cl (adOf (kN b) t), [.inr "kept", .inr (adOf (kN b) t)])
def nameA (A : Ab) (cl : Int) (nm a : Str) : Ab × List Key := if (iwo 3 A.B "image" a || iwo 3 A.B "bundle" a) = true then ({ pinA A cl a with N := setN A.N nm a }, [.inr "named", .inr nm, .inr a]) else (A, [.inr "lacks", .inr a])
theorem rk2 (x : Blb) : rk x.1 ≤ 2 := Nat.le_of_lt_succ (rk_lt x.1)
theorem RI.store {c : CA} {r : Addr} {R : Rg} {H H' : Hp} {a : Str} {x : Blb} (h : RI c r R H) (S : Sto c.U H' R.o R.d (setB R.B a x)) (g : Good x) (k : Kp (fun z => z = R.d) H H') : RStep c r R { R with B := setB R.B a x } H H' := by
  obtain ⟨dx, ec⟩ := h.sc.co.ob
  obtain ⟨kvs, ed, _⟩ := h.sc.at_.st.db
  have no : ∀ z u, H z = some u → (∀ kv, u ≠ .dK kv) → z ≠ R.d := fun z u e n f => by
    rw [f, ed] at e; cases e
    exact n _ rfl
  have gs := GrS.kp k (fun z e ps q => by rw [e, ed] at q; cases q)
  exact h.cols (s' := R.s) ⟨h.sc.co.grs gs ⟨no _ _ ec (fun kv z => nomatch z), no _ _ h.sc.co.hW (fun kv z => nomatch z), h.sc.co.md⟩, ⟨S, (fun e he => by
    rcases set_mem he with he | rfl
    · exact h.sc.at_.good e he
    · exact g), gs.tab _ h.sc.at_.t1, gs.tab _ h.sc.at_.t2⟩, h.sc.oc⟩ (gs.weak fun z e => .inr (.inr (.inr e))) (.inl rfl) (.inl rfl)
abbrev s_Registry__finish : Stmt := inClass (topS 38) 8
abbrev N_Registry__finish : List Str := ["self", "upload", "claim", "address", "text"]
abbrev P_Registry__finish : List Str := ["self", "upload", "claim", "address"]
theorem sc_Registry__finish : FnScope N_Registry__finish P_Registry__finish (defScope s_Registry__finish) := ⟨rfl, rfl, rfl, by decide +kernel, rfl, by decide +kernel, by decide +kernel⟩
def sp_Registry__finish (c : CA) : Sp := fun vs H Q _ => ∃ (r : Addr) (R : Rg) (u cl : Int) (a : Str), vs = [.ref r, .int u, .int cl, .str a] ∧ RI c r R H ∧ opn R.ab.P cl = true ∧ (∀ e ∈ R.ab.P, e.2.length ≤ 5000) ∧ R.ab.B.length < 1000 ∧ FinOk R.ab u a ∧ ∀ R' v H', RStep c r R R' H H' → R'.ab = (finA R.ab u cl a).1 → Rep H' v (finA R.ab u cl a).2 → Q v H'
abbrev s_Registry__put : Stmt := inClass (topS 38) 9
abbrev N_Registry__put : List Str := ["self", "claim", "kind", "text", "below", "reference"]
abbrev P_Registry__put : List Str := ["self", "claim", "kind", "text"]
theorem sc_Registry__put : FnScope N_Registry__put P_Registry__put (defScope s_Registry__put) := ⟨rfl, rfl, rfl, by decide +kernel, rfl, by decide +kernel, by decide +kernel⟩
def sp_Registry__put (c : CA) : Sp := fun vs H Q _ => ∃ (r : Addr) (R : Rg) (cl : Int) (b : Bool) (t : Str), vs = [.ref r, .int cl, .str (word b), .str t] ∧ RI c r R H ∧ opn R.ab.P cl = true ∧ (∀ e ∈ R.ab.P, e.2.length ≤ 5000) ∧ R.ab.B.length < 1000 ∧ t.length ≤ 5000 ∧ (faultN b (lns t) = none → Good (word b, t)) ∧ (faultN b (lns t) = none → badR R.ab.B (due (word b)) (refsOf (word b, t)) = none → ShOk { R.ab with B := setB R.ab.B (adOf (kN b) t) (word b, t) } (adOf (kN b) t)) ∧ ∀ R' v H', RStep c r R R' H H' → R'.ab = (putA R.ab cl b t).1 → Rep H' v (putA R.ab cl b t).2 → Q v H'
abbrev s_Registry__name : Stmt := inClass (topS 38) 10
abbrev N_Registry__name : List Str := ["self", "claim", "name", "address", "kind"]
abbrev P_Registry__name : List Str := ["self", "claim", "name", "address"]
theorem sc_Registry__name : FnScope N_Registry__name P_Registry__name (defScope s_Registry__name) := ⟨rfl, rfl, rfl, by decide +kernel, rfl, by decide +kernel, by decide +kernel⟩
def sp_Registry__name (c : CA) : Sp := fun vs H Q _ => ∃ (r : Addr) (R : Rg) (cl : Int) (nm a : Str), vs = [.ref r, .int cl, .str nm, .str a] ∧ RI c r R H ∧ opn R.ab.P cl = true ∧ (∀ e ∈ R.ab.P, e.2.length ≤ 5000) ∧ R.ab.N.length ≤ 1000 ∧ ((iwo 3 R.ab.B "image" a || iwo 3 R.ab.B "bundle" a) = true → ShOk R.ab a) ∧ ∀ R' v H', RStep c r R R' H H' → R'.ab = (nameA R.ab cl nm a).1 → Rep H' v (nameA R.ab cl nm a).2 → Q v H'
section
variable {P : Program} {w : World} {K : PySem.W.Frag} {mg : Str → Option Value} {base : Heap} {cM cR : Addr} {c : CA}
theorem ok_Registry__finish {f : Addr} {fd : FuncData} (F : Fun K "_finish" "Registry._finish" s_Registry__finish f fd) (T : Tx K mg cM cR c.U) (TC : Tc K mg c.C) (TK : Tk K mg c.K c.L) (TG : Tg K w mg c.G)
    (C_Registry_keep : CalM P w K mg base CX0 32 c.G "_keep" P_Registry__keep (sp_Registry__keep c))
    (C_Store_is_whole : CalM P w K mg base CX0 23 c.U "is_whole" P_Store_is_whole (sp_isw c.U c.b1 c.b2 c.b3 2))
    (C_Store_keep : CalM P w K mg base CX0 2 c.U "keep" P_Store_keep (sp_Store_keep c.U))
    (C_Uploads_finish : CalM P w K mg base CX0 1 c.L "finish" P_Uploads_finish (sp_Uploads_finish c.L))
    (C_address_of : Cal P w K mg base CX0 1 "address_of" P_address_of spAddr) : FnOk P w K mg base CX0 33 f fd P_Registry__finish (sp_Registry__finish c) := by
  refine F.ok sc_Registry__finish (fun vs H Q E h => ?_) (fun cdv A outer s H vs Q E hr h => ?_)
  · obtain ⟨_, _, _, _, _, rfl, _⟩ := h
    rfl
  · obtain ⟨r, R, u, cl, a, rfl, h, op, hk, bB, ok, q⟩ := h
    have nd := sc_Registry__finish.nd
    refine ⟨_, pss_cons (ps_set (i := 4) nd rfl (Or.inl rfl) (pe_calM (pe_fld (pv 0) rfl) C_Uploads_finish hr (pa_cons (pv 1) pa_nil)))
  (pss_cons (ps_if (pt_cmpR op_isN (pv 4) pe_non (nomark _))
    (pss_one (ps_ret (pe_ifExp (pt_val (pe_calM (pe_fld (pv 0) rfl) C_Store_is_whole hr (pa_cons (pv 3) pa_nil))) (pe_calM (pv 0) C_Registry_keep hr (pa_cons (pv 2) (pa_cons (pv 3) pa_nil))) (pe_tup (pa_cons pe_str (pa_cons (pv 1) pa_nil))))))
    (pss_nil))
  (pss_cons (ps_if (pt_cmpR op_ne (pe_cal C_address_of hr (pa_cons pe_str (pa_cons (pv 4) pa_nil))) (pv 3) (nomark _))
    (pss_one (ps_ret (pe_tup (pa_cons pe_str (pa_cons (pv 3) pa_nil)))))
    (pss_nil))
  (pss_one (ps_ret (pe_calM (pv 0) C_Registry_keep hr (pa_cons (pv 2) (pa_cons (pe_calM (pe_fld (pv 0) rfl) C_Store_keep hr (pa_cons pe_str (pa_cons (pv 4) pa_nil))) pa_nil))))))), ?_⟩
    obtain ⟨dx, e0⟩ := id h.ob
    obtain ⟨du, e2⟩ := id h.ul
    refine ⟨_, rfl, r, c.G, dx, _, _, rfl, e0, TG.cl, TG.n3, rfl, R.u, du, _, rfl, e2, rfl, _, rfl, R.u, du, R.td, _, u, _, rfl, e2, h.ht, fun v hv => ?_, fun hv => ?_⟩
    · rw [tx_lk] at hv
      cases et : lkU R.U u with
      | none => rw [et] at hv; cases hv
      | some t =>
        rw [et] at hv
        cases hv
        obtain ⟨g, sh⟩ := ok.2 t et
        rw [show dropK (tx R.U) (.inl u) = tx (dropU R.U u) from tx_drop R.U u]
        have S1 := h.texts (dropU R.U u) (h.nU.sublist (List.Sublist.map _ List.filter_sublist)) (fun e he => h.lU e (List.mem_filter.mp he).1)
        have a1 : ({ R with U := dropU R.U u } : Rg).ab = { R.ab with U := dropU R.ab.U u } := rfl
        unfold finA at q
        rw [show lkU R.ab.U u = some t from et] at q
        dsimp only at q
        generalize ({ R with U := dropU R.U u } : Rg) = R1 at S1 a1
        generalize L2.upd H R.td (.dK (tx (dropU R.U u))) = H1 at S1 ⊢
        have h1 := S1.ri
        refine ⟨_, rfl, rfl, _, rfl, ?_⟩
        rw [decide_eq_false (fun z => by cases z)]
        refine iteF ⟨_, rfl, "layer", t, 0, rfl, rfl, by decide, _, rfl, rfl, _, rfl, ?_⟩
        rw [show (hexS (addrNum 0 t.cps.toList)) = adOf 0 t from rfl, neq_str]
        by_cases ea : adOf 0 t = a
        · rw [if_pos ea] at q
          rw [decide_eq_false (fun z => z ea)]
          obtain ⟨dx1, e01⟩ := id h1.ob
          obtain ⟨dxo, eo⟩ := id h1.sc.at_.st.ob
          have bB1 : R1.B.length < 1000 := by rw [show R1.B = R.B from congrArg Ab.B a1]; exact bB
          refine iteF ⟨_, rfl, r, dx1, _, rfl, e01, rfl, _, rfl, _, rfl, r, c.G, dx1, _, _, rfl, e01, TG.cl, TG.n0, rfl, R1.o, dxo, _, rfl, eo, rfl, _, rfl, R1.o, R1.d, R1.B, "layer", t, 0, rfl, h1.sc.at_.st, bB1, rfl, by decide, fun H2 S k => ?_⟩
          have S2 := h1.store S g k
          rw [ea] at S2 ⊢
          have a2 : ({ R1 with B := setB R1.B a ("layer", t) } : Rg).ab = { R.ab with U := dropU R.ab.U u, B := setB R.ab.B a ("layer", t) } := by
            show ({ R1.ab with B := setB R1.ab.B a ("layer", t) } : Ab) = _
            rw [a1]
          generalize ({ R1 with B := setB R1.B a ("layer", t) } : Rg) = R2 at S2 a2
          have S12 := S1.trans S2
          refine ⟨r, R2, cl, a, rfl, S12.ri, by rw [a2]; exact op, by rw [a2]; exact hk, by rw [a2]; exact sh ea, fun R3 v H3 S3 a3 rp => ?_⟩
          exact q R3 v H3 (S12.trans S3) (by rw [a3, a2]) rp
        · rw [if_neg ea] at q
          rw [decide_eq_true ea]
          refine iteT ⟨_, rfl, by show 2 ≤ sizeLine; decide, fun p np => ?_⟩
          exact q R1 _ _ (S1.tup np) a1 ⟨p, rfl, upd_same⟩
    · have et : lkU R.ab.U u = none := by
        rw [tx_lk] at hv
        cases et : lkU R.U u with
        | none => exact et
        | some t => rw [et] at hv; cases hv
      unfold finA at q
      rw [et] at q
      dsimp only at q
      refine ⟨_, rfl, rfl, _, rfl, ?_⟩
      rw [decide_eq_true rfl]
      obtain ⟨dxo, eo⟩ := id h.sc.at_.st.ob
      refine iteT ⟨_, rfl, r, c.G, dx, _, _, rfl, e0, TG.cl, TG.n0, rfl, R.o, dxo, _, rfl, eo, rfl, _, rfl, R.o, R.d, R.B, a, rfl, h.sc.at_, h.t3, fun x _ => rk2 x, fun H1 g1 => ⟨_, rfl, ?_⟩⟩
      have S1 : RStep c r R R H H1 := .of_gr h g1
      have h1 := S1.ri
      by_cases hw : wholeN 3 R.B a = true
      · rw [if_pos (show wholeN 3 R.ab.B a = true from hw)] at q
        rw [hw]
        obtain ⟨dx1, e01⟩ := id h1.ob
        refine iteT ⟨_, rfl, r, dx1, _, rfl, e01, rfl, _, rfl, _, rfl, r, R, cl, a, rfl, h1, op, hk, ok.1 et hw, fun R3 v H3 S3 a3 rp => ?_⟩
        exact q R3 v H3 (S1.trans S3) a3 rp
      · rw [if_neg (show ¬ wholeN 3 R.ab.B a = true from hw)] at q
        rw [eq_false_of_ne_true hw]
        refine iteF ⟨_, rfl, by show 2 ≤ sizeLine; decide, fun p np => ?_⟩
        exact q R _ _ (S1.tup np) rfl ⟨p, rfl, upd_same⟩
theorem ok_Registry__put {f fX : Addr} {fd dX : FuncData} (F : Fun K "_put" "Registry._put" s_Registry__put f fd) (T : Tx K mg cM cR c.U) (TC : Tc K mg c.C) (TK : Tk K mg c.K c.L) (TG : Tg K w mg c.G)
    (C_Registry_keep : CalM P w K mg base CX0 32 c.G "_keep" P_Registry__keep (sp_Registry__keep c))
    (C_Store_is_whole_of : CalM P w K mg base CX0 24 c.U "is_whole_of" P_Store__is_whole_of (sp_iwo c.U c.b1 c.b2 c.b3 3))
    (C_Store_keep : CalM P w K mg base CX0 2 c.U "keep" P_Store_keep (sp_Store_keep c.U))
    (MX : RefX P w K mg base cM c.b1 c.b2 fX dX) : FnOk P w K mg base CX0 33 f fd P_Registry__put (sp_Registry__put c) := by
  refine F.ok sc_Registry__put (fun vs H Q E h => ?_) (fun cdv A outer s H vs Q E hr h => ?_)
  · obtain ⟨_, _, _, _, _, rfl, _⟩ := h
    rfl
  · obtain ⟨r, R, cl, b, t, rfl, h, op, hk, bB, hl, gg, shh, q⟩ := h
    have nd := sc_Registry__put.nd
    have hu := hu_of hr
    obtain ⟨bd, aB, b1, b2⟩ := TG.bel
    refine ⟨_, pss_cons (ps_try_only (Wout := fun _ _ _ _ => False) rfl rfl ⟨rfl, by decide, Or.inl T.MAL⟩ takes0 (fun W pn xe tk _ => pss_one (ps_set (i := 4) nd rfl (Or.inl rfl) (pe_callS MX.R (hr.mono (by decide)) rfl MX.a MX.k MX.b (fun σ => passAt tk σ) (pa_cons (pv 2) (pa_cons (pv 3) pa_nil))))) (fun a oe cls d pn hz hf => pss_one (ps_ret (pe_tup (pa_cons pe_str pa_nil))))) 
  (pss_cons (ps_for PassesOwn.never rfl (pi_list (pv 4)) (pg_name (i := 5) nd rfl (Or.inl rfl))
    (pss_one (ps_if (pt_not (pt_val (pe_calM (pe_fld (pv 0) rfl) C_Store_is_whole_of hr (pa_cons (pe_ix (show IxR _ (rIxD K w) from ix_kdict) (pe_glob (v := .ref bd) (by rfl) aB rfl) (pv 2) (fun _ _ => rfl)) (pa_cons (pv 5) pa_nil)))))
    (pss_one (ps_ret (pe_tup (pa_cons pe_str (pa_cons (pv 5) pa_nil)))))
    (pss_nil))))
  (pss_one (ps_ret (pe_calM (pv 0) C_Registry_keep hr (pa_cons (pv 1) (pa_cons (pe_calM (pe_fld (pv 0) rfl) C_Store_keep hr (pa_cons (pv 2) (pa_cons (pv 3) pa_nil))) pa_nil)))))), ?_⟩
    obtain ⟨dx, e0⟩ := id h.ob
    refine ⟨_, rfl, _, rfl, b, t, rfl, hl, h.sc.at_.t1, h.sc.at_.t2, fun k hk2 d H' nd1 g1 hd1 => ?_, fun fn p H1 np g1 hp => ?_⟩
    · refine ⟨true, MX.ex, fun _ a na => ?_, fun z => Bool.noConfusion z⟩
      unfold putA at q
      rw [if_pos (by rw [hk2]; exact fun z => nomatch z)] at q
      exact ⟨by show 1 ≤ sizeLine; decide, fun p2 np2 => q R _ _ ((RStep.of_gr h g1).tup np2) rfl ⟨p2, rfl, upd_same⟩⟩
    have g := gg fn
    have sh := shh fn
    unfold putA at q
    rw [if_neg (fun z => z fn)] at q
    have S1 : RStep c r R R H H1 := .of_gr h g1
    refine ⟨.ref p, rfl, p, rfl, ⟨_, SqL.of hp⟩, ?_⟩
    refine for_it (walk_list (K := K) (a := p) (xs := (refsOf (word b, t)).map V.str)) (fun i σ H' => Gr H H' ∧ H' p = some (.lst ((refsOf (word b, t)).map V.str)) ∧ (∀ z ∈ (refsOf (word b, t)).take i, iwo 3 R.B (due (word b)) z = true) ∧ ∃ v5, σ = [some (.ref r), some (.int cl), some (.str (word b)), some (.str t), some (.ref p), v5])
      ⟨g1, hp, by simp, none, rfl⟩ (fun _ _ _ _ h => SqL.of h.2.1) ?_ ?_
    · rintro i v σ H3 H4 hi ⟨g3, hp3, hall, v5, rfl⟩ ⟨rfl, hv⟩
      rw [List.getElem?_map] at hv
      cases ez : (refsOf (word b, t))[i]? with
      | none => rw [ez] at hv; cases hv
      | some z =>
        rw [ez] at hv
        cases hv
        have hz : z ∈ refsOf (word b, t) := List.mem_of_getElem? ez
        have ne : refsOf (word b, t) ≠ [] := fun h => by rw [h] at hz; cases hz
        have h3 := h.gr g3
        obtain ⟨dx3, e03⟩ := id h3.ob
        obtain ⟨dxo, eo⟩ := id h3.sc.at_.st.ob
        refine ⟨_, rfl, r, c.G, dx3, _, _, rfl, e03, TG.cl, TG.n0, rfl, R.o, dxo, _, rfl, eo, rfl, _, rfl, bd, word b, .str (due (word b)), rfl, rfl, due_bel (x := (word b, t)) b1 b2 ne, _, rfl, R.o, R.d, R.B, due (word b), z, rfl, h3.sc.at_, h3.t3, rk_lt _, fun H5 g5 => ⟨_, rfl, ?_⟩⟩
        cases hw : iwo 3 R.B (due (word b)) z with
        | true =>
          refine iteF ⟨g3.trans g5, g5.lst hp3, fun z' hz' => ?_, _, rfl⟩
          rw [List.take_add_one, ez] at hz'
          rcases List.mem_append.mp hz' with h1 | h1
          · exact hall z' h1
          · rw [List.mem_singleton.mp h1]; exact hw
        | false =>
          have bad : badR R.ab.B (due (word b)) (refsOf (word b, t)) = some z := by
            unfold badR
            rw [List.find?_eq_some_iff_getElem]
            have hil : i < (refsOf (word b, t)).length := (List.getElem?_eq_some_iff.mp ez).1
            refine ⟨by show (!iwo 3 R.B (due (word b)) z) = true; rw [hw]; rfl, i, hil, (List.getElem?_eq_some_iff.mp ez).2, fun j hj => ?_⟩
            show (!(!iwo 3 R.B (due (word b)) _)) = true
            rw [hall _ (List.mem_iff_getElem?.mpr ⟨j, by rw [List.getElem?_take_of_lt hj]; exact List.getElem?_eq_getElem _⟩)]; rfl
          rw [bad] at q
          refine iteT ⟨_, rfl, by show 2 ≤ sizeLine; decide, fun p2 np2 => ?_⟩
          exact q R _ _ ((RStep.of_gr h (g3.trans g5)).tup np2) rfl ⟨p2, rfl, upd_same⟩
    · rintro σ H3 ⟨g3, hp3, hall, v5, rfl⟩
      rw [List.length_map, List.take_length] at hall
      have bad : badR R.ab.B (due (word b)) (refsOf (word b, t)) = none := by
        unfold badR
        rw [List.find?_eq_none]
        intro z hz
        show ¬ (!iwo 3 R.B (due (word b)) z) = true
        rw [hall z hz]; decide
      rw [bad] at q
      have h3 := h.gr g3
      obtain ⟨dx3, e03⟩ := id h3.ob
      obtain ⟨dxo, eo⟩ := id h3.sc.at_.st.ob
      have kj : kinds[kN b]? = some (word b) ∧ kN b < 3 := by cases b <;> exact ⟨rfl, by decide⟩
      refine ⟨_, rfl, r, dx3, _, rfl, e03, rfl, _, rfl, _, rfl, r, c.G, dx3, _, _, rfl, e03, TG.cl, TG.n0, rfl, R.o, dxo, _, rfl, eo, rfl, _, rfl, _, rfl, R.o, R.d, R.B, word b, t, kN b, rfl, h3.sc.at_.st, bB, kj.1, kj.2, fun H5 S k => ?_⟩
      have S2 := h3.store S g k
      have a2 : ({ R with B := setB R.B (adOf (kN b) t) (word b, t) } : Rg).ab = { R.ab with B := setB R.ab.B (adOf (kN b) t) (word b, t) } := rfl
      generalize ({ R with B := setB R.B (adOf (kN b) t) (word b, t) } : Rg) = R2 at S2 a2
      have S12 := (RStep.of_gr h g3).trans S2
      refine ⟨r, R2, cl, _, rfl, S12.ri, by rw [a2]; exact op, by rw [a2]; exact hk, by rw [a2]; exact sh bad, fun R3 v H6 S3 a3 rp => ?_⟩
      exact q R3 v H6 (S12.trans S3) (by rw [a3, a2]) rp
theorem ok_Registry__name {f : Addr} {fd : FuncData} {cn : Addr} (F : FunC K "_name" "Registry._name" s_Registry__name f fd cn) (TB : TabB base mg cn c.b4) (T : Tx K mg cM cR c.U) (TC : Tc K mg c.C) (TK : Tk K mg c.K c.L) (TG : Tg K w mg c.G)
    (C_Registry_pin : CalM P w K mg base CX0 31 c.G "_pin" P_Registry__pin (sp_Registry__pin c))
    (C_iwo : CalM P w K mg base CX0 24 c.U "is_whole_of" P_Store__is_whole_of (sp_iwo c.U c.b1 c.b2 c.b3 3)) : FnOk P w K mg base CX0 33 f fd P_Registry__name (sp_Registry__name c) := by
  refine F.ok sc_Registry__name (fun vs H Q E h => ?_) (fun A outer s H vs Q E hr h => ?_)
  · obtain ⟨_, _, _, _, _, rfl, _⟩ := h
    rfl
  · obtain ⟨r, R, cl, nm, a, rfl, h, op, hk, bN, sh, q⟩ := h
    have nd := sc_Registry__name.nd
    have hu := hu_of hr
    obtain ⟨bd, aB, b1, b2⟩ := TG.bel
    refine ⟨_, pss_cons (ps_if (pt_not (pt_val (pe_anyA (own := [("kind", 4)]) (g := gName 4) (k := 30) hr rfl nd (by rfl) TG.any TB rfl (gblk_by (N := N_Registry__name) (sc := defScope s_Registry__name) (by decide +kernel)) (pi_kk (pe_glob (v := .ref bd) (by rfl) aB rfl)) (fun _ _ _ _ _ _ _ => pg_name (i := 4) nd rfl (Or.inl rfl)) (fun _ _ _ _ _ _ _ hr' => by (refine pe_calM (ta := tFld K (tVar 0) "store") (t := tCons (tVar 4) (tCons (tVar 3) tNil)) ?_ C_iwo hr' ?_ (by decide); exact pe_fld (pv 0) rfl; exact pa_cons (pv 4) (pa_cons (pv 3) pa_nil))))))
    (pss_one (ps_ret (pe_tup (pa_cons pe_str (pa_cons (pv 3) pa_nil)))))
    (pss_nil))
  (pss_cons (ps_expr (pe_calM (pv 0) C_Registry_pin hr (pa_cons (pv 1) (pa_cons (pv 3) pa_nil))))
  (pss_cons (ps_dput hu (pe_fld (pv 0) rfl) (pv 2) (pv 3) rfl)
  (pss_one (ps_ret (pe_tup (pa_cons pe_str (pa_cons (pv 2) (pa_cons (pv 3) pa_nil)))))))), ?_⟩
    obtain ⟨dx, e0⟩ := id h.ob
    have bk := TG.belK bd aB
    refine ⟨bd, _, rfl, bk, h.t4, fun H2 tb => ?_⟩
    have g2 : Gr H H2 := .of_tab h.t4 tb
    refine wa_keys (fun i H' => Gr H H' ∧ ∀ k ∈ (["image", "bundle"] : List Str).take i, iwo 3 R.B k a = false) ⟨g2, by simp⟩ ?_ ?_
    · rintro i k H3 ek ⟨g3, hall⟩
      have h3 := h.gr g3
      obtain ⟨dx3, e03⟩ := id h3.ob
      obtain ⟨dxo, eo⟩ := id h3.sc.at_.st.ob
      refine ⟨rfl, _, rfl, r, c.G, dx3, _, _, rfl, e03, TG.cl, TG.n0, rfl, R.o, dxo, _, rfl, eo, rfl, _, rfl, _, rfl, R.o, R.d, R.B, k, a, rfl, h3.sc.at_, h3.t3, rk_lt _, fun H5 g5 => ⟨_, rfl, ?_⟩⟩
      cases hw : iwo 3 R.B k a with
      | false =>
        rw [if_pos rfl]
        refine ⟨g3.trans g5, fun k' hk' => ?_⟩
        rw [List.take_add_one, ek] at hk'
        rcases List.mem_append.mp hk' with h1 | h1
        · exact hall k' h1
        · rw [List.mem_singleton.mp h1]; exact hw
      | true =>
        rw [if_neg (fun z => by cases z)]
        refine ⟨_, rfl, iteF ?_⟩
        have ok : (iwo 3 R.ab.B "image" a || iwo 3 R.ab.B "bundle" a) = true := by
          have mk : k ∈ (["image", "bundle"] : List Str) := List.mem_of_getElem? ek
          rcases List.mem_cons.mp mk with rfl | mk
          · rw [show iwo 3 R.ab.B "image" a = true from hw]; rfl
          · rw [List.mem_singleton.mp mk] at hw
            rw [show iwo 3 R.ab.B "bundle" a = true from hw, Bool.or_true]
        unfold nameA at q
        rw [if_pos ok] at q
        have S1 : RStep c r R R H H5 := .of_gr h (g3.trans g5)
        have h5 := S1.ri
        obtain ⟨dx5, e05⟩ := id h5.ob
        refine ⟨_, rfl, r, dx5, _, rfl, e05, rfl, _, rfl, _, rfl, r, R, cl, a, rfl, h5, op, hk, sh ok, fun R6 H6 S6 a6 => ?_⟩
        have h6 := S6.ri
        obtain ⟨dx6, e06⟩ := id h6.ob
        have n6 : R6.N = R.N := congrArg Ab.N a6
        have bN : R.N.length ≤ 1000 := bN
        refine ⟨_, rfl, _, rfl, r, c.G, dx6, _, _, rfl, e06, TG.cl, TG.n1, rfl, _, rfl, R6.nm, _, rfl, DPut.k (k := .inr nm) h6.hn (by rw [nm_len, n6, sizeLine_eq]; omega), ?_⟩
        rw [nm_put]
        have S7 := h6.names (setN R6.N nm a)
        have a7 : ({ R6 with N := setN R6.N nm a } : Rg).ab = { pinA R.ab cl a with N := setN R.ab.N nm a } := by
          show ({ R6.ab with N := setN R6.N nm a } : Ab) = _
          rw [a6, n6]; rfl
        refine ⟨_, rfl, _, rfl, by show 3 ≤ sizeLine; decide, fun p np => ?_⟩
        exact q _ _ _ (((S1.trans S6).trans S7).tup np) a7 ⟨p, rfl, upd_same⟩
    · rintro H3 ⟨g3, hall⟩
      have n1 : iwo 3 R.ab.B "image" a = false := hall "image" (by simp)
      have n2 : iwo 3 R.ab.B "bundle" a = false := hall "bundle" (by simp)
      unfold nameA at q
      rw [n1, n2] at q
      refine ⟨_, rfl, iteT ⟨_, rfl, by show 2 ≤ sizeLine; decide, fun p np => ?_⟩⟩
      exact q R _ _ ((RStep.of_gr h g3).tup np) rfl ⟨p, rfl, upd_same⟩
end
end LW
namespace LW
open PySem PySem.Spec PyProof.Rows L2 GxR
/-! ### match of a text with texts, `case _` last -/
/-- what a list of cases reads, by the text that is matched -/
structure PCs (X : Cx) (cs : List MatchCase) (t : Str → TS) : Prop where
  run : ∀ (first : Bool) (pins : List (Addr × Obj)) (s : Shared) (σ : L2.St) (H : Hp) (D : Ends) (z : Str) (u : Value), Inv X pins σ H s → RelV (.str z) u → t z D σ H → wpAny (model X.prog X.w) X.A (matchCases cs X.env u first) (SP X pins D) X.xe s
section
variable {X : Cx} {e : Expr} {te : TE} {pos p1 p2 p3 : Pos} {k : Nat} {y : Str} {body : List Stmt} {rest : List MatchCase} {t : TS} {u : Str → TS}
theorem pcs_else (hb : PSs X body t) : PCs X [⟨.MatchAs none none p1, none, body⟩] (fun _ => t) := by
  refine ⟨fun first pins s σ H D z v I rv h => ?_⟩
  refine wpAny_matchCases_cons (wpAny_matchPattern_Capture ?_)
  exact wpAny_assignInOrder_none (hb.run pins s σ H D I h)
theorem pcs_text (hb : PSs X body t) (hr : PCs X rest u) : PCs X (⟨.MatchValue (.Constant (.str y) k p2) p1, none, body⟩ :: rest) (fun z => if z = y then t else u z) := by
  refine ⟨fun first pins s σ H D z v I rv h => ?_⟩
  refine wpAny_matchCases_cons (wpAny_matchPattern_Value ?_)
  refine thn ((pe_str (X := X) (x := y)).run pins s σ H (fun w H1 => w = .str y ∧ H1 = H) I ⟨rfl, rfl⟩) fun w s1 ⟨x, H1, I1, r1, ex, eH⟩ => ?_
  subst ex; subst eH
  refine thn (op_eq pins s1 σ H1 (.str z) (.str y) v w (fun w H2 => w = .bl (decide (V.str z = V.str y)) ∧ H2 = H1) I1 rv r1 ⟨rfl, rfl, rfl⟩) fun b s2 ⟨x, H2, I2, r2, ex, eH⟩ => ?_
  subst ex; subst eH
  obtain rfl : b = .bool (decide (V.str z = V.str y)) := r2
  by_cases hz : z = y
  · rw [if_pos hz] at h
    rw [decide_eq_true (by rw [hz])]
    refine wpAny_pure ?_
    exact wpAny_assignInOrder_none (hb.run pins s2 σ H2 D I2 h)
  · rw [if_neg hz] at h
    rw [decide_eq_false (fun q => hz (by injection q))]
    refine wpAny_pure ?_
    exact hr.run false pins s2 σ H2 D z v I2 rv h
def tMatch (te : TE) (t : Str → TS) : TS := fun D σ H => te σ H fun x H1 => ∃ z, x = .str z ∧ t z D σ H1
theorem ps_match {cs : List MatchCase} (he : PE X e te) (hc : PCs X cs u) : PS X (.Match e cs pos) (tMatch te u) := by
  refine ⟨fun pins s σ H D I h => ?_⟩
  refine wpAny_Match (thn (he.run pins s σ H _ I h) fun v s1 ⟨x, H1, I1, r1, z, ez, q⟩ => ?_)
  subst ez
  exact hc.run true pins s1 σ H1 D z v I1 r1 q
end
end LW
namespace LW
open PySem PySem.Spec PyProof.Rows L2 GxR
/-! ### match of a tuple, a text first, with rows of a text and captures -/
/-- what a list of cases reads, by the tuple that is matched -/
structure PTs (X : Cx) (cs : List MatchCase) (t : Str → List V → TS) : Prop where
  run : ∀ (first : Bool) (pins : List (Addr × Obj)) (s : Shared) (σ : L2.St) (H : Hp) (D : Ends) (a : Addr) (z : Str) (xs : List V), Inv X pins σ H s → SqT X.K H a (.str z :: xs) → t z xs D σ H → wpAny (model X.prog X.w) X.A (matchCases cs X.env (.ref a) first) (SP X pins D) X.xe s
/-- captures by the places of their names, and _ -/
inductive CapOk (X : Cx) : List Pattern → List (Option Nat) → Prop
  | nil : CapOk X [] []
  | wild {p : Pos} {ps : List Pattern} {is : List (Option Nat)} (h : CapOk X ps is) : CapOk X (.MatchAs none none p :: ps) (none :: is)
  | name {p : Pos} {ps : List Pattern} {is : List (Option Nat)} {i : Nat} {x : Str} (hN : X.N.Nodup) (hi : X.N[i]? = some x) (hx : Loc X.env.scope x) (hf : X.fn x = true ∨ X.env.scope.names.lookup x = some .local) (h : CapOk X ps is) : CapOk X (.MatchAs none (some x) p :: ps) (some i :: is)
def caps : List (Option Nat) → List V → L2.St → L2.St
  | none :: is, _ :: xs, σ => caps is xs σ
  | some i :: is, x :: xs, σ => caps is xs (σ.set i (some x))
  | _, _, σ => σ
def bnd : List Pattern → List Value → List (Str × Value)
  | .MatchAs none none _ :: ps, _ :: us => bnd ps us
  | .MatchAs none (some x) _ :: ps, u :: us => (x, u) :: bnd ps us
  | _, _ => []
section
variable {X : Cx}
theorem CapOk.star {ps : List Pattern} {is : List (Option Nat)} (h : CapOk X ps is) : ps.findIdx? (·.isStar) = none := by
  rw [List.findIdx?_eq_none_iff]
  induction h with
  | nil => intro x hx; cases hx
  | wild _ ih => intro x hx; rcases List.mem_cons.mp hx with rfl | hx; exact rfl; exact ih x hx
  | name _ _ _ _ _ ih => intro x hx; rcases List.mem_cons.mp hx with rfl | hx; exact rfl; exact ih x hx
theorem cap_each {ps : List Pattern} {is : List (Option Nat)} (h : CapOk X ps is) : ∀ {us : List Value} {M : Model} {A : Around} {E : Value → Shared → Prop} {s : Shared} {Q : Option (List (Str × Value)) → Shared → Prop}, us.length = ps.length → Q (some (bnd ps us)) s → wpAny M A (matchEach ps X.env us) Q E s := by
  induction h with
  | nil =>
    intro us M A E s Q hl q
    cases us with
    | nil => exact wpAny_matchEach_nil q
    | cons _ _ => cases hl
  | wild _ ih =>
    intro us M A E s Q hl q
    cases us with
    | nil => cases hl
    | cons u us =>
      refine wpAny_matchEach_cons (wpAny_matchPattern_Capture ?_)
      exact ih (by simpa using hl) q
  | name _ _ _ _ _ ih =>
    intro us M A E s Q hl q
    cases us with
    | nil => cases hl
    | cons u us =>
      refine wpAny_matchEach_cons (wpAny_matchPattern_Capture ?_)
      exact ih (by simpa using hl) q
theorem cap_set {ps : List Pattern} {is : List (Option Nat)} (h : CapOk X ps is) : ∀ {xs : List V} {us : List Value} {M : Model} {A : Around} {E : Value → Shared → Prop} {s : Shared} {pins : List (Addr × Obj)} {σ : L2.St} {H : Hp} {Q : Unit → Shared → Prop}, Vals xs us → us.length = ps.length → Inv X pins σ H s → (∀ s', Inv X pins (caps is xs σ) H s' → Q () s') → wpAny M A (assignInOrder ((bnd ps us).map fun (n, _) => bindName X.env n) ((bnd ps us).map (·.2))) Q E s := by
  induction h with
  | nil =>
    intro xs us M A E s pins σ H Q r hl I q
    cases r with
    | nil => exact wpAny_assignInOrder_none (q s I)
    | cons _ _ => cases hl
  | wild _ ih =>
    intro xs us M A E s pins σ H Q r hl I q
    cases r with
    | nil => cases hl
    | cons r rr => exact ih rr (by simpa using hl) I q
  | name hN hi hx hf _ ih =>
    intro xs us M A E s pins σ H Q r hl I q
    cases r with
    | nil => cases hl
    | cons r rr =>
      refine wpAny_assignInOrder_more (wpAny_bindName (store_ok I hN hi hx r (fun s' I' => ?_) hf))
      exact ih rr (by simpa using hl) I' q
theorem pts_none : PTs X [] (fun _ _ D σ H => D.nx σ H) := by
  refine ⟨fun first pins s σ H D a z xs I hs h => ?_⟩
  exact wpAny_matchCases_nil ⟨σ, H, I, h⟩
theorem pts_seq {ps : List Pattern} {is : List (Option Nat)} {y : Str} {k : Nat} {p1 p2 p3 : Pos} {body : List Stmt} {rest : List MatchCase} {t : TS} {u : Str → List V → TS} (hc : X.calm = true) (hp : CapOk X ps is) (hb : PSs X body t) (hr : PTs X rest u) :
    PTs X (⟨.MatchSequence (.MatchValue (.Constant (.str y) k p2) p1 :: ps) p3, none, body⟩ :: rest) (fun z xs => if xs.length = ps.length ∧ z = y then (fun D σ H => t D (caps is xs σ) H) else u z xs) := by
  refine ⟨fun first pins s σ H D a z xs I hs h => ?_⟩
  obtain ⟨its, rv, ht, hz⟩ := I.tuple hs
  have le := rv.length
  have hfit : ((its.toArray.size : Nat) : Int) < 2 ^ 63 := by
    rw [List.size_toArray, ← le]
    have : sizeLine < 2 ^ 63 := by decide
    omega
  have hstar : (Pattern.MatchValue (.Constant (.str y) k p2) p1 :: ps).findIdx? (·.isStar) = none := by
    have := hp.star
    rw [List.findIdx?_cons, this]; rfl
  refine wpAny_matchCases_cons ?_
  by_cases hn : xs.length = ps.length
  · refine matchSeq_tuple_hit ht hfit (by rw [List.size_toArray, ← le, List.length_cons, List.length_cons, hn]) ?_ hstar (by rfl)
    have en : (Pattern.MatchValue (.Constant (.str y) k p2) p1 :: ps).length = its.toArray.size := by rw [List.size_toArray, ← le, List.length_cons, List.length_cons, hn]
    rw [en]
    refine unpackItems_tuple (I.ok.hd hc) ht fun h' hx => ?_
    have I0 : Inv X pins σ H { s with heap := h', toks := s.toks + 1 + 1 } := I.kept (t' := s.toks + 1 + 1) fun b o e => hx b o (Nat.ne_of_lt (Heap.lt_size e)) e
    cases rv with
    | @cons _ u0 _ us r0 rr =>
      have hl2 : us.length = ps.length := by rw [← Paired.length rr, hn]
      refine wpAny_matchEach_cons (wpAny_matchPattern_Value ?_)
      refine thn ((pe_str (X := X) (x := y)).run pins _ σ H (fun w H1 => w = .str y ∧ H1 = H) I0 ⟨rfl, rfl⟩) fun w s1 ⟨x, H1, I1, r1, ex, eH⟩ => ?_
      subst ex; subst eH
      refine thn (op_eq pins s1 σ H1 (.str z) (.str y) u0 w (fun w H2 => w = .bl (decide (V.str z = V.str y)) ∧ H2 = H1) I1 r0 r1 ⟨rfl, rfl, rfl⟩) fun b s2 ⟨x, H2, I2, r2, ex, eH⟩ => ?_
      subst ex; subst eH
      obtain rfl : b = .bool (decide (V.str z = V.str y)) := r2
      by_cases hy : z = y
      · rw [if_pos ⟨hn, hy⟩] at h
        rw [decide_eq_true (by rw [hy])]
        refine wpAny_pure ?_
        refine cap_each hp hl2 ?_
        refine cap_set hp rr hl2 I2 fun s' I' => ?_
        exact hb.run pins s' _ H2 D I' h
      · rw [if_neg (fun q => hy q.2)] at h
        rw [decide_eq_false (fun q => hy (by injection q))]
        refine wpAny_pure ?_
        exact hr.run false pins s2 σ H2 D a z xs I2 hs h
  · refine matchSeq_tuple_miss ht hfit (by rw [List.size_toArray, ← le, List.length_cons, List.length_cons]; omega) ?_ hstar (by rfl)
    rw [if_neg (fun q => hn q.1)] at h
    exact hr.run false pins _ σ H D a z xs (I.kept (t' := s.toks + 1 + 1) fun b o e => e) hs h
/-- match of a tuple -/
def tMatchT (K : PySem.W.Frag) (te : TE) (t : Str → List V → TS) : TS := fun D σ H => te σ H fun x H1 => ∃ a z xs, x = .ref a ∧ SqT K H1 a (.str z :: xs) ∧ t z xs D σ H1
theorem ps_matchT {e : Expr} {te : TE} {pos : Pos} {cs : List MatchCase} {u : Str → List V → TS} (he : PE X e te) (hc : PTs X cs u) : PS X (.Match e cs pos) (tMatchT X.K te u) := by
  refine ⟨fun pins s σ H D I h => ?_⟩
  refine wpAny_Match (thn (he.run pins s σ H _ I h) fun v s1 ⟨x, H1, I1, r1, a, z, xs, ez, hs, q⟩ => ?_)
  subst ez
  cases r1
  exact hc.run true pins s1 σ H1 D a z xs I1 hs q
end
end LW
namespace LW
open PySem PySem.Spec PyProof.Rows L2 GxR
/-! ### requests and replies -/
inductive Rq
  | opn
  | has (cl : Int) (a : Str)
  | start (cl : Int)
  | part (u at_ : Int) (t : Str)
  | fin (u cl : Int) (a : Str)
  | put (cl : Int) (b : Bool) (t : Str)
  | name (cl : Int) (nm a : Str)
  | close (cl : Int)
  | look (nm : Str)
  | get (a : Str) (at_ cnt : Int)
  | drop (nm : Str)
def Rq.keys : Rq → List Key
  | .opn => [.inr "open"]
  | .has cl a => [.inr "has", .inl cl, .inr a]
  | .start cl => [.inr "start", .inl cl]
  | .part u at_ t => [.inr "part", .inl u, .inl at_, .inr t]
  | .fin u cl a => [.inr "finish", .inl u, .inl cl, .inr "layer", .inr a]
  | .put cl b t => [.inr "put", .inl cl, .inr (word b), .inr t]
  | .name cl nm a => [.inr "name", .inl cl, .inr nm, .inr a]
  | .close cl => [.inr "close", .inl cl]
  | .look nm => [.inr "look", .inr nm]
  | .get a at_ cnt => [.inr "get", .inr a, .inl at_, .inl cnt]
  | .drop nm => [.inr "drop", .inr nm]
def Rq.cl : Rq → Option Int
  | .has cl _ => some cl
  | .start cl => some cl
  | .fin _ cl _ => some cl
  | .put cl _ _ => some cl
  | .name cl _ _ => some cl
  | _ => none
def underA (A : Ab) : Rq → Ab × List Key
  | .has cl a => if wholeN 3 A.B a = true then (pinA A cl a, [.inr "kept", .inr a]) else (A, [.inr "lacks", .inr a])
  | .start _ => ({ A with m := A.m + 1, U := A.U ++ [(A.m + 1, ("" : Str))] }, [.inr "upload", .inl ((A.m + 1 : Nat) : Int)])
  | .fin u cl a => finA A u cl a
  | .put cl b t => putA A cl b t
  | .name cl nm a => nameA A cl nm a
  | _ => (A, [])
def partA (A : Ab) (u at_ : Int) (t : Str) : Ab × List Key := match lkU A.U u with
  | none => (A, [.inr "gone", .inl u])
  | some z => if at_ = (z.length : Int) then ({ A with U := A.U.map fun e => if (e.1 : Int) = u then (e.1, z ++ t) else e }, [.inr "have", .inl u, .inl ((z ++ t).length : Int)]) else (A, [.inr "have", .inl u, .inl (z.length : Int)])
def ansA (A : Ab) (q : Rq) : Ab × List Key := match q.cl with
  | some cl => if opn A.P cl = true then underA A q else (A, [.inr "lapsed", .inl cl])
  | none => match q with
    | .opn => ({ A with n := A.n + 1, P := A.P ++ [(A.n + 1, [])] }, [.inr "claim", .inl ((A.n + 1 : Nat) : Int)])
    | .part u at_ t => partA A u at_ t
    | .close cl => ({ A with P := dropP A.P cl }, [.inr "closed", .inl cl])
    | .look nm => (A, match lkN A.N nm with
      | some x => [.inr "leads", .inr nm, .inr x]
      | none => [.inr "nothing", .inr nm])
    | .get a at_ cnt => (A, match lk A.B a with
      | some x => [.inr "piece", .inr a, .inr x.1, .inl at_, .inr (cutS x.2 (some at_) (some (at_ + cnt))), .inl x.2.length]
      | none => [.inr "lacks", .inr a])
    | .drop nm => ({ A with N := dropN A.N nm }, [.inr "dropped", .inr nm])
    | _ => (A, [])
structure AbOk (A : Ab) : Prop where
  p : ∀ e ∈ A.P, e.2.length ≤ 5000
  b : A.B.length < 1000
  n : A.N.length ≤ 1000
  k : A.P.length ≤ 1000
  u : A.U.length ≤ 1000
def UnOk (A : Ab) : Rq → Prop
  | .has _ a => wholeN 3 A.B a = true → ShOk A a
  | .fin u _ a => FinOk A u a
  | .put _ b t => t.length ≤ 5000 ∧ (faultN b (lns t) = none → Good (word b, t)) ∧ (faultN b (lns t) = none → badR A.B (due (word b)) (refsOf (word b, t)) = none → ShOk { A with B := setB A.B (adOf (kN b) t) (word b, t) } (adOf (kN b) t))
  | .name _ _ a => (iwo 3 A.B "image" a || iwo 3 A.B "bundle" a) = true → ShOk A a
  | _ => True
def RqOk (A : Ab) (q : Rq) : Prop := match q.cl with
  | some cl => opn A.P cl = true → UnOk A q
  | none => match q with
    | .part u _ t => ∀ z, lkU A.U u = some z → z.length + t.length ≤ sizeLine
    | _ => True
theorem open_val {E : List Ent} (nd : (E.map (·.i)).Nodup) (cl : Int) : (valV (outD E) (.inl cl)).isSome = opn (E.map fun e => (e.i, e.ks)) cl := by
  rcases od_dec nd cl with ⟨e, he, h1, h2⟩ | ⟨h1, h2⟩
  · rw [h2, opn_some he h1]; rfl
  · rw [h2, opn_none h1]; rfl
theorem wne {x y : Str} {p : Prop} (h : x ≠ y) : ¬ (p ∧ x = y) := fun z => h z.2
abbrev s_Registry__answer_under : Stmt := inClass (topS 38) 7
abbrev N_Registry__answer_under : List Str := ["self", "claim", "request", "address", "upload", "kind", "text", "name"]
abbrev P_Registry__answer_under : List Str := ["self", "claim", "request"]
theorem sc_Registry__answer_under : FnScope N_Registry__answer_under P_Registry__answer_under (defScope s_Registry__answer_under) := ⟨rfl, rfl, rfl, by decide +kernel, rfl, by decide +kernel, by decide +kernel⟩
def sp_Registry__answer_under (c : CA) : Sp := fun vs H Q _ => ∃ (r : Addr) (R : Rg) (cl : Int) (qa : Addr) (rq : Rq), vs = [.ref r, .int cl, .ref qa] ∧ rq.cl = some cl ∧ RI c r R H ∧ AbOk R.ab ∧ (opn R.ab.P cl = true → UnOk R.ab rq) ∧ H qa = some (.tup (rq.keys.map kV)) ∧ ∀ R' v H', RStep c r R R' H H' → R'.ab = (ansA R.ab rq).1 → Rep H' v (ansA R.ab rq).2 → Q v H'
section
variable {P : Program} {w : World} {K : PySem.W.Frag} {mg : Str → Option Value} {base : Heap} {cM cR : Addr} {c : CA}
theorem ok_Registry__answer_under {f : Addr} {fd : FuncData} (F : Fun K "_answer_under" "Registry._answer_under" s_Registry__answer_under f fd) (T : Tx K mg cM cR c.U) (TC : Tc K mg c.C) (TK : Tk K mg c.K c.L) (TG : Tg K w mg c.G)
    (C_Claims_is_open : CalM P w K mg base CX0 1 c.K "is_open" P_Claims_is_open (sp_Claims_is_open c.K))
    (C_whole : CalM P w K mg base CX0 23 c.U "is_whole" P_Store_is_whole (sp_isw c.U c.b1 c.b2 c.b3 2))
    (C_keep : CalM P w K mg base CX0 32 c.G "_keep" P_Registry__keep (sp_Registry__keep c))
    (C_ubegin : CalM P w K mg base CX0 1 c.L "begin" P_Uploads_begin (sp_Uploads_begin c.L))
    (C_finish : CalM P w K mg base CX0 33 c.G "_finish" P_Registry__finish (sp_Registry__finish c))
    (C_put : CalM P w K mg base CX0 33 c.G "_put" P_Registry__put (sp_Registry__put c))
    (C_name : CalM P w K mg base CX0 33 c.G "_name" P_Registry__name (sp_Registry__name c)) : FnOk P w K mg base CX0 34 f fd P_Registry__answer_under (sp_Registry__answer_under c) := by
  refine F.ok sc_Registry__answer_under (fun vs H Q E h => ?_) (fun cdv A outer s H vs Q E hr h => ?_)
  · obtain ⟨_, _, _, _, _, rfl, _⟩ := h
    rfl
  · obtain ⟨r, R, cl, qa, rq, rfl, ecl, h, bd, ok, hq, q⟩ := h
    have nd := sc_Registry__answer_under.nd
    refine ⟨_, pss_cons (ps_if (pt_not (pt_val (pe_calM (pe_fld (pv 0) rfl) C_Claims_is_open hr (pa_cons (pv 1) pa_nil))))
    (pss_one (ps_ret (pe_tup (pa_cons pe_str (pa_cons (pv 1) pa_nil)))))
    (pss_nil))
  (pss_one (ps_matchT (pv 2) (pts_seq rfl (CapOk.wild (CapOk.name (i := 3) nd rfl (Or.inl rfl) (Or.inl rfl) CapOk.nil)) (pss_one (ps_ret (pe_ifExp (pt_val (pe_calM (pe_fld (pv 0) rfl) C_whole hr (pa_cons (pv 3) pa_nil))) (pe_calM (pv 0) C_keep hr (pa_cons (pv 1) (pa_cons (pv 3) pa_nil))) (pe_tup (pa_cons (pe_str) (pa_cons (pv 3) pa_nil))))))
      (pts_seq rfl (CapOk.wild CapOk.nil) (pss_one (ps_ret (pe_tup (pa_cons (pe_str) (pa_cons (pe_calM0 (pe_fld (pv 0) rfl) C_ubegin hr) pa_nil)))))
      (pts_seq rfl (CapOk.name (i := 4) nd rfl (Or.inl rfl) (Or.inl rfl) (CapOk.wild (CapOk.wild (CapOk.name (i := 3) nd rfl (Or.inl rfl) (Or.inl rfl) CapOk.nil)))) (pss_one (ps_ret (pe_calM (pv 0) C_finish hr (pa_cons (pv 4) (pa_cons (pv 1) (pa_cons (pv 3) pa_nil))))))
      (pts_seq rfl (CapOk.wild (CapOk.name (i := 5) nd rfl (Or.inl rfl) (Or.inl rfl) (CapOk.name (i := 6) nd rfl (Or.inl rfl) (Or.inl rfl) CapOk.nil))) (pss_one (ps_ret (pe_calM (pv 0) C_put hr (pa_cons (pv 1) (pa_cons (pv 5) (pa_cons (pv 6) pa_nil))))))
      (pts_seq rfl (CapOk.wild (CapOk.name (i := 7) nd rfl (Or.inl rfl) (Or.inl rfl) (CapOk.name (i := 3) nd rfl (Or.inl rfl) (Or.inl rfl) CapOk.nil))) (pss_one (ps_ret (pe_calM (pv 0) C_name hr (pa_cons (pv 1) (pa_cons (pv 7) (pa_cons (pv 3) pa_nil))))))
      pts_none))))))), ?_⟩
    obtain ⟨dx, e0⟩ := id h.ob
    obtain ⟨dk, e1⟩ := id h.kl
    refine ⟨_, rfl, r, c.G, dx, _, _, rfl, e0, TG.cl, TG.n2, rfl, R.k, dk, _, rfl, e1, rfl, _, rfl, R.k, dk, R.pd, _, cl, _, rfl, e1, h.hp, _, rfl, ?_⟩
    rw [open_val h.nE]
    unfold ansA at q
    rw [ecl] at q
    dsimp only at q
    by_cases op : opn R.ab.P cl = true
    · rw [if_pos op] at q
      have ok := ok op
      rw [show opn (R.E.map fun e => (e.i, e.ks)) cl = true from op]
      refine iteF ?_
      cases rq with
      | has cl2 a =>
        cases ecl
        refine ⟨_, rfl, qa, _, _, rfl, SqT.of hq, ?_⟩
        dsimp only
        rw [if_pos ⟨rfl, rfl⟩]
        obtain ⟨dxo, eo⟩ := id h.sc.at_.st.ob
        refine ⟨_, rfl, r, c.G, dx, _, _, rfl, e0, TG.cl, TG.n0, rfl, R.o, dxo, _, rfl, eo, rfl, _, rfl, R.o, R.d, R.B, a, rfl, h.sc.at_, h.t3, fun x _ => rk2 x, fun H1 g1 => ⟨_, rfl, ?_⟩⟩
        have S1 : RStep c r R R H H1 := .of_gr h g1
        have h1 := S1.ri
        unfold underA at q
        dsimp only at q
        by_cases hw : wholeN 3 R.B a = true
        · rw [if_pos (show wholeN 3 R.ab.B a = true from hw)] at q
          rw [hw]
          obtain ⟨dx1, e01⟩ := id h1.ob
          refine iteT ⟨_, rfl, r, dx1, _, rfl, e01, rfl, _, rfl, _, rfl, r, R, cl, a, rfl, h1, op, bd.p, ok hw, fun R3 v H3 S3 a3 rp => ?_⟩
          exact q R3 v H3 (S1.trans S3) a3 rp
        · rw [if_neg (show ¬ wholeN 3 R.ab.B a = true from hw)] at q
          rw [eq_false_of_ne_true hw]
          refine iteF ⟨_, rfl, by show 2 ≤ sizeLine; decide, fun p np => ?_⟩
          exact q R _ _ (S1.tup np) rfl ⟨p, rfl, upd_same⟩
      | start cl2 =>
        cases ecl
        refine ⟨_, rfl, qa, _, _, rfl, SqT.of hq, ?_⟩
        dsimp only
        rw [if_neg (wne (show ("start" : Str) ≠ "has" from by decide +kernel)), if_pos ⟨rfl, rfl⟩]
        obtain ⟨du, e2⟩ := id h.ul
        have lu : R.U.length ≤ 1000 := bd.u
        refine ⟨_, rfl, r, c.G, dx, _, _, rfl, e0, TG.cl, TG.n3, rfl, R.u, du, _, rfl, e2, rfl, R.u, du, R.td, R.m, _, rfl, e2, h.ht, by rw [tx_len, sizeLine_eq]; omega, ?_⟩
        rw [tx_new h.lU]
        have S1 := h.ups du e2
        refine ⟨by show 2 ≤ sizeLine; decide, fun p np => ?_⟩
        exact q _ _ _ (S1.tup np) rfl ⟨p, rfl, upd_same⟩
      | fin u cl2 a =>
        cases ecl
        refine ⟨_, rfl, qa, _, _, rfl, SqT.of hq, ?_⟩
        dsimp only
        rw [if_neg (wne (show ("finish" : Str) ≠ "has" from by decide +kernel)), if_neg (wne (show ("finish" : Str) ≠ "start" from by decide +kernel)), if_pos ⟨rfl, rfl⟩]
        exact ⟨_, rfl, r, dx, _, rfl, e0, rfl, _, rfl, _, rfl, _, rfl, r, R, u, cl, a, rfl, h, op, bd.p, bd.b, ok, q⟩
      | put cl2 b t =>
        cases ecl
        refine ⟨_, rfl, qa, _, _, rfl, SqT.of hq, ?_⟩
        dsimp only
        rw [if_neg (wne (show ("put" : Str) ≠ "has" from by decide +kernel)), if_neg (wne (show ("put" : Str) ≠ "start" from by decide +kernel)), if_neg (wne (show ("put" : Str) ≠ "finish" from by decide +kernel)), if_pos ⟨rfl, rfl⟩]
        exact ⟨_, rfl, r, dx, _, rfl, e0, rfl, _, rfl, _, rfl, _, rfl, r, R, cl, b, t, rfl, h, op, bd.p, bd.b, ok.1, ok.2.1, ok.2.2, q⟩
      | name cl2 nm a =>
        cases ecl
        refine ⟨_, rfl, qa, _, _, rfl, SqT.of hq, ?_⟩
        dsimp only
        rw [if_neg (wne (show ("name" : Str) ≠ "has" from by decide +kernel)), if_neg (wne (show ("name" : Str) ≠ "start" from by decide +kernel)), if_neg (wne (show ("name" : Str) ≠ "finish" from by decide +kernel)), if_neg (wne (show ("name" : Str) ≠ "put" from by decide +kernel)), if_pos ⟨rfl, rfl⟩]
        exact ⟨_, rfl, r, dx, _, rfl, e0, rfl, _, rfl, _, rfl, _, rfl, r, R, cl, nm, a, rfl, h, op, bd.p, bd.n, ok, q⟩
      | _ => cases ecl
    · rw [if_neg op] at q
      rw [show opn (R.E.map fun e => (e.i, e.ks)) cl = false from eq_false_of_ne_true op]
      exact iteT ⟨_, rfl, by show 2 ≤ sizeLine; decide, fun p np => q R _ _ (.same h (same_upd np)) rfl ⟨p, rfl, upd_same⟩⟩
end
end LW
namespace LW
open PySem PySem.Spec PyProof.Rows L2 GxR
theorem cl_at {rq : Rq} {cl : Int} (h : rq.cl = some cl) : ∃ e ∈ claimAt, (rq.keys.map kV)[0]? = some (V.str e.1) ∧ (rq.keys.map kV)[e.2]? = some (V.int cl) := by
  cases rq with
  | has cl2 a => cases h; exact ⟨("has", 1), by simp [claimAt], rfl, rfl⟩
  | start cl2 => cases h; exact ⟨("start", 1), by simp [claimAt], rfl, rfl⟩
  | fin u cl2 a => cases h; exact ⟨("finish", 2), by simp [claimAt], rfl, rfl⟩
  | put cl2 b t => cases h; exact ⟨("put", 1), by simp [claimAt], rfl, rfl⟩
  | name cl2 nm a => cases h; exact ⟨("name", 1), by simp [claimAt], rfl, rfl⟩
  | _ => cases h
theorem no_cl {rq : Rq} (h : rq.cl = none) : ∃ x ∈ noClaim, (rq.keys.map kV)[0]? = some (V.str x) := by
  cases rq with
  | opn => exact ⟨"open", by simp [noClaim], rfl⟩
  | part u at_ t => exact ⟨"part", by simp [noClaim], rfl⟩
  | close cl => exact ⟨"close", by simp [noClaim], rfl⟩
  | look nm => exact ⟨"look", by simp [noClaim], rfl⟩
  | get a at_ cnt => exact ⟨"get", by simp [noClaim], rfl⟩
  | drop nm => exact ⟨"drop", by simp [noClaim], rfl⟩
  | _ => cases h
theorem lkU_mem : ∀ {U : List (Nat × Str)} {u : Int} {z : Str}, lkU U u = some z → ∃ e ∈ U, (e.1 : Int) = u ∧ e.2 = z
  | (i, t) :: r, u, z, h => by
    unfold lkU at h
    by_cases hi : (i : Int) = u
    · rw [if_pos hi] at h; cases h; exact ⟨(i, t), List.mem_cons_self, hi, rfl⟩
    · rw [if_neg hi] at h
      obtain ⟨e, he, q⟩ := lkU_mem h
      exact ⟨e, List.mem_cons_of_mem _ he, q⟩
def setUi (U : List (Nat × Str)) (u : Int) (z : Str) : List (Nat × Str) := U.map fun e => if (e.1 : Int) = u then (e.1, z) else e
theorem setUi_fst (U : List (Nat × Str)) (u : Int) (z : Str) : (setUi U u z).map (·.1) = U.map (·.1) := by
  rw [setUi, List.map_map]
  apply List.map_congr_left
  intro e _
  show (if (e.1 : Int) = u then (e.1, z) else e : Nat × Str).1 = e.1
  split <;> rfl
theorem setUi_put {U : List (Nat × Str)} {u : Int} {z0 : Str} (h : lkU U u = some z0) (z : Str) : putK (tx U) (.inl u) (.str z) = tx (setUi U u z) := by
  obtain ⟨e0, he, hu, _⟩ := lkU_mem h
  rw [← hu, tx_put he]
  congr 1
  unfold setU setUi
  apply List.map_congr_left
  intro e _
  by_cases q : e.1 = e0.1
  · rw [if_pos q, if_pos (by rw [q])]
  · rw [if_neg q, if_neg (fun z => q (by omega))]
theorem dec_str' (x y : Str) : decide (V.str x = V.str y) = decide (x = y) := dec_str x y
abbrev s_Registry_answer : Stmt := inClass (topS 38) 1
abbrev N_Registry_answer : List Str := ["self", "request", "upload", "at", "text", "length", "claim", "name", "address", "count"]
abbrev P_Registry_answer : List Str := ["self", "request"]
theorem sc_Registry_answer : FnScope N_Registry_answer P_Registry_answer (defScope s_Registry_answer) := ⟨rfl, rfl, rfl, by decide +kernel, rfl, by decide +kernel, by decide +kernel⟩
def sp_Registry_answer (c : CA) : Sp := fun vs H Q _ => ∃ (r : Addr) (R : Rg) (qa : Addr) (rq : Rq), vs = [.ref r, .ref qa] ∧ RI c r R H ∧ AbOk R.ab ∧ RqOk R.ab rq ∧ H qa = some (.tup (rq.keys.map kV)) ∧ ∀ R' v H', RStep c r R R' H H' → R'.ab = (ansA R.ab rq).1 → Rep H' v (ansA R.ab rq).2 → Q v H'
section
variable {P : Program} {w : World} {K : PySem.W.Frag} {mg : Str → Option Value} {base : Heap} {cM cR : Addr} {c : CA}
theorem ok_Registry_answer {f : Addr} {fd : FuncData} (F : Fun K "answer" "Registry.answer" s_Registry_answer f fd) (T : Tx K mg cM cR c.U) (TC : Tc K mg c.C) (TK : Tk K mg c.K c.L) (TG : Tg K w mg c.G)
    (C_Registry_answer_under : CalM P w K mg base CX0 34 c.G "_answer_under" P_Registry__answer_under (sp_Registry__answer_under c))
    (C_cbegin : CalM P w K mg base CX0 1 c.K "begin" P_Claims_begin (sp_Claims_begin c.K))
    (C_cend : CalM P w K mg base CX0 1 c.K "end" P_Claims_end (sp_Claims_end c.K))
    (C_part : CalM P w K mg base CX0 1 c.L "add_part" P_Uploads_add_part (sp_Uploads_add_part c.L))
    (C_piece : CalM P w K mg base CX0 2 c.G "_piece" P_Registry__piece (sp_Registry__piece c))
    (C_drop : CalM P w K mg base CX0 1 c.G "drop_name" P_Registry_drop_name (sp_Registry_drop_name c)) : FnOk P w K mg base CX0 35 f fd P_Registry_answer (sp_Registry_answer c) := by
  refine F.ok sc_Registry_answer (fun vs H Q E h => ?_) (fun cdv A outer s H vs Q E hr h => ?_)
  · obtain ⟨_, _, _, _, rfl, _⟩ := h
    rfl
  · obtain ⟨r, R, qa, rq, rfl, h, bd, ok, hq, q⟩ := h
    have nd := sc_Registry_answer.nd
    have hu := hu_of hr
    obtain ⟨ca, es, nn, aC, KD, cIn, cOut⟩ := TG.cat
    refine ⟨_, pss_cons (ps_if (pt_cmpR (op_in_kd KD) (pe_ix ix_tup (pv 1) pe_int (fun _ _ => rfl)) (pe_glob (v := .ref ca) (by rfl) aC rfl) (by rfl))
    (pss_one (ps_ret (pe_calM (pv 0) C_Registry_answer_under hr (pa_cons (pe_ix ix_tup (pv 1) (pe_ix (show IxR _ (rIxD K w) from ix_kdict) (pe_glob (v := .ref ca) (by rfl) aC rfl) (pe_ix ix_tup (pv 1) pe_int (fun _ _ => rfl)) (fun _ _ => rfl)) (fun _ _ => rfl)) (pa_cons (pv 1) pa_nil)))))
    (pss_nil))
  (pss_one (ps_matchT (pv 1) (pts_seq rfl CapOk.nil (pss_one (ps_ret (pe_tup (pa_cons (pe_str) (pa_cons (pe_calM0 (pe_fld (pv 0) rfl) C_cbegin hr) pa_nil)))))
      (pts_seq rfl (CapOk.name (i := 2) nd rfl (Or.inl rfl) (Or.inl rfl) (CapOk.name (i := 3) nd rfl (Or.inl rfl) (Or.inl rfl) (CapOk.name (i := 4) nd rfl (Or.inl rfl) (Or.inl rfl) CapOk.nil))) (pss_cons (ps_set (i := 5) nd rfl (Or.inl rfl) (pe_calM (pe_fld (pv 0) rfl) C_part hr (pa_cons (pv 2) (pa_cons (pv 3) (pa_cons (pv 4) pa_nil))))) (pss_one (ps_ret (pe_ifExp (pt_cmpR op_isN (pv 5) pe_non (nomark _)) (pe_tup (pa_cons (pe_str) (pa_cons (pv 2) pa_nil))) (pe_tup (pa_cons (pe_str) (pa_cons (pv 2) (pa_cons (pv 5) pa_nil))))))))
      (pts_seq rfl (CapOk.name (i := 6) nd rfl (Or.inl rfl) (Or.inl rfl) CapOk.nil) (pss_cons (ps_expr (pe_calM (pe_fld (pv 0) rfl) C_cend hr (pa_cons (pv 6) pa_nil))) (pss_one (ps_ret (pe_tup (pa_cons (pe_str) (pa_cons (pv 6) pa_nil))))))
      (pts_seq rfl (CapOk.name (i := 7) nd rfl (Or.inl rfl) (Or.inl rfl) CapOk.nil) (pss_one (ps_ret (pe_ifExp (pt_cmp (pc_din hu (pv 7) (pe_fld (pv 0) rfl))) (pe_tup (pa_cons (pe_str) (pa_cons (pv 7) (pa_cons (pe_dget hu (pe_fld (pv 0) rfl) (pv 7) (fun _ _ => rfl)) pa_nil)))) (pe_tup (pa_cons (pe_str) (pa_cons (pv 7) pa_nil))))))
      (pts_seq rfl (CapOk.name (i := 8) nd rfl (Or.inl rfl) (Or.inl rfl) (CapOk.name (i := 3) nd rfl (Or.inl rfl) (Or.inl rfl) (CapOk.name (i := 9) nd rfl (Or.inl rfl) (Or.inl rfl) CapOk.nil))) (pss_one (ps_ret (pe_calM (pv 0) C_piece hr (pa_cons (pv 8) (pa_cons (pv 3) (pa_cons (pv 9) pa_nil))))))
      (pts_seq rfl (CapOk.name (i := 7) nd rfl (Or.inl rfl) (Or.inl rfl) CapOk.nil) (pss_cons (ps_expr (pe_calM (pv 0) C_drop hr (pa_cons (pv 7) pa_nil))) (pss_one (ps_ret (pe_tup (pa_cons (pe_str) (pa_cons (pv 7) pa_nil))))))
      pts_none)))))))), ?_⟩
    obtain ⟨dx, e0⟩ := id h.ob
    cases ecl : rq.cl with
    | some cl =>
      obtain ⟨⟨wd, j⟩, he, k0, kj⟩ := cl_at ecl
      obtain ⟨t, ns⟩ := cIn _ he
      unfold RqOk at ok
      rw [ecl] at ok
      dsimp only at ok
      refine ⟨_, rfl, qa, _, 0, .str wd, rfl, rfl, SqT.of hq, atI_nat (j := 0) k0, wd, _, rfl, rfl, ns, _, rfl, iteT ?_⟩
      exact ⟨_, rfl, r, dx, _, rfl, e0, rfl, _, rfl, _, rfl, qa, _, 0, .str wd, rfl, rfl, SqT.of hq, atI_nat (j := 0) k0, ca, wd, .int (j : Int), rfl, rfl, ⟨es, nn, _, KD.at_, KD.lit, ns, ⟨t, rfl⟩⟩, qa, _, (j : Int), .int cl, rfl, rfl, SqT.of hq, atI_nat kj, _, rfl, r, R, cl, qa, rq, rfl, ecl, h, bd, ok, hq, q⟩
    | none =>
      obtain ⟨wd, he, k0⟩ := no_cl ecl
      have ns := cOut _ he
      unfold RqOk at ok
      rw [ecl] at ok
      dsimp only at ok
      unfold ansA at q
      rw [ecl] at q
      dsimp only at q
      refine ⟨_, rfl, qa, _, 0, .str wd, rfl, rfl, SqT.of hq, atI_nat (j := 0) k0, wd, _, rfl, rfl, ns, _, rfl, iteF ?_⟩
      cases rq with
      | opn =>
        dsimp only at q
        refine ⟨_, rfl, qa, _, _, rfl, SqT.of hq, ?_⟩
        dsimp only
        rw [if_pos ⟨rfl, rfl⟩]
        obtain ⟨dk, e1⟩ := id h.kl
        have lk1 : R.E.length ≤ 1000 := by
          have := bd.k
          rw [show R.ab.P = R.E.map fun e => (e.i, e.ks) from rfl, List.length_map] at this
          exact this
        refine ⟨_, rfl, r, c.G, dx, _, _, rfl, e0, TG.cl, TG.n2, rfl, R.k, dk, _, rfl, e1, rfl, R.k, dk, R.pd, R.n, _, rfl, e1, h.hp, by rw [outD_len, sizeLine_eq]; omega, fun p np => ?_⟩
        rw [od_new h.lE]
        have S1 := h.begins p np dk e1
        refine ⟨by show 2 ≤ sizeLine; decide, fun p2 np2 => ?_⟩
        refine q _ _ _ (S1.tup np2) ?_ ⟨p2, rfl, upd_same⟩
        show ({ R.ab with n := R.n + 1, P := (R.E ++ [(⟨R.n + 1, p, []⟩ : Ent)]).map fun e => (e.i, e.ks) } : Ab) = _
        rw [List.map_append]; rfl
      | part u at_ t =>
        dsimp only at q
        refine ⟨_, rfl, qa, _, _, rfl, SqT.of hq, ?_⟩
        dsimp only
        rw [if_neg (wne (show ("part" : Str) ≠ "open" from by decide +kernel)), if_pos ⟨rfl, rfl⟩]
        obtain ⟨du, e2⟩ := id h.ul
        have lu : R.U.length ≤ 1000 := bd.u
        unfold partA at q
        refine ⟨_, rfl, r, c.G, dx, _, _, rfl, e0, TG.cl, TG.n3, rfl, R.u, du, _, rfl, e2, rfl, _, rfl, _, rfl, _, rfl, R.u, du, R.td, _, u, at_, t, _, rfl, e2, h.ht, by rw [tx_len, sizeLine_eq]; omega, fun hv => ?_, fun x hv => ?_⟩
        · have et : lkU R.ab.U u = none := by
            rw [tx_lk] at hv
            cases et : lkU R.U u with
            | none => exact et
            | some t => rw [et] at hv; cases hv
          rw [et] at q
          dsimp only at q
          refine ⟨_, rfl, rfl, _, rfl, ?_⟩
          rw [decide_eq_true rfl]
          exact iteT ⟨_, rfl, by show 2 ≤ sizeLine; decide, fun p np => q R _ _ (.same h (same_upd np)) rfl ⟨p, rfl, upd_same⟩⟩
        · rw [tx_lk] at hv
          cases et : lkU R.U u with
          | none => rw [et] at hv; cases hv
          | some z =>
            rw [et] at hv
            cases hv
            rw [show lkU R.ab.U u = some z from et] at q
            dsimp only at q
            refine ⟨z, rfl, ok z et, fun ha => ?_, fun ha => ?_⟩
            · rw [if_pos ha] at q
              rw [setUi_put et]
              have S1 := h.texts (setUi R.U u (z ++ t)) (by rw [setUi_fst]; exact h.nU) (fun e he => by
                have : e.1 ∈ (setUi R.U u (z ++ t)).map (·.1) := List.mem_map.mpr ⟨e, he, rfl⟩
                rw [setUi_fst] at this
                obtain ⟨e', he', q'⟩ := List.mem_map.mp this
                rw [← q']; exact h.lU e' he')
              refine ⟨_, rfl, rfl, _, rfl, ?_⟩
              rw [decide_eq_false (fun z => by cases z)]
              exact iteF ⟨_, rfl, _, rfl, by show 3 ≤ sizeLine; decide, fun p np => q _ _ _ (S1.tup np) rfl ⟨p, rfl, upd_same⟩⟩
            · rw [if_neg ha] at q
              refine ⟨_, rfl, rfl, _, rfl, ?_⟩
              rw [decide_eq_false (fun z => by cases z)]
              exact iteF ⟨_, rfl, _, rfl, by show 3 ≤ sizeLine; decide, fun p np => q R _ _ (.same h (same_upd np)) rfl ⟨p, rfl, upd_same⟩⟩
      | close cl =>
        dsimp only at q
        refine ⟨_, rfl, qa, _, _, rfl, SqT.of hq, ?_⟩
        dsimp only
        rw [if_neg (wne (show ("close" : Str) ≠ "open" from by decide +kernel)), if_neg (wne (show ("close" : Str) ≠ "part" from by decide +kernel)), if_pos ⟨rfl, rfl⟩]
        obtain ⟨dk, e1⟩ := id h.kl
        refine ⟨_, rfl, r, c.G, dx, _, _, rfl, e0, TG.cl, TG.n2, rfl, R.k, dk, _, rfl, e1, rfl, _, rfl, R.k, dk, R.pd, _, cl, _, rfl, e1, h.hp, fun x hv => ?_, fun hv => ?_⟩
        · rw [od_drop]
          refine ⟨_, rfl, by show 2 ≤ sizeLine; decide, fun p np => q _ _ _ ((h.ends cl).tup np) ?_ ⟨p, rfl, upd_same⟩⟩
          show ({ R.ab with P := (R.E.filter fun e => decide ((e.i : Int) ≠ cl)).map fun e => (e.i, e.ks) } : Ab) = _
          rw [drop_ab]; rfl
        · refine ⟨_, rfl, by show 2 ≤ sizeLine; decide, fun p np => q R _ _ (.same h (same_upd np)) ?_ ⟨p, rfl, upd_same⟩⟩
          rcases od_dec h.nE cl with ⟨e, _, _, h2⟩ | ⟨h1, _⟩
          · rw [hv] at h2; cases h2
          · have z : dropP R.ab.P cl = R.ab.P := drop_none_P (opn_none h1)
            rw [z]
      | look nm =>
        dsimp only at q
        refine ⟨_, rfl, qa, _, _, rfl, SqT.of hq, ?_⟩
        dsimp only
        rw [if_neg (wne (show ("look" : Str) ≠ "open" from by decide +kernel)), if_neg (wne (show ("look" : Str) ≠ "part" from by decide +kernel)), if_neg (wne (show ("look" : Str) ≠ "close" from by decide +kernel)), if_pos ⟨rfl, rfl⟩]
        refine ⟨_, rfl, _, rfl, r, c.G, dx, _, _, rfl, e0, TG.cl, TG.n1, rfl, R.nm, _, rfl, DGet.k (k := .inr nm) h.hn, _, rfl, ?_⟩
        rw [nm_val]
        cases en : lkN R.N nm with
        | some x =>
          rw [show lkN R.ab.N nm = some x from en] at q
          refine iteT ⟨_, rfl, _, rfl, r, c.G, dx, _, _, rfl, e0, TG.cl, TG.n1, rfl, _, rfl, R.nm, .str x, rfl, ?_, by show 3 ≤ sizeLine; decide, fun p np => q R _ _ (.same h (same_upd np)) rfl ⟨p, rfl, upd_same⟩⟩
          have := DGet.k (k := .inr nm) h.hn
          rw [nm_val, en] at this
          exact this
        | none =>
          rw [show lkN R.ab.N nm = none from en] at q
          exact iteF ⟨_, rfl, by show 2 ≤ sizeLine; decide, fun p np => q R _ _ (.same h (same_upd np)) rfl ⟨p, rfl, upd_same⟩⟩
      | get a at_ cnt =>
        dsimp only at q
        refine ⟨_, rfl, qa, _, _, rfl, SqT.of hq, ?_⟩
        dsimp only
        rw [if_neg (wne (show ("get" : Str) ≠ "open" from by decide +kernel)), if_neg (wne (show ("get" : Str) ≠ "part" from by decide +kernel)), if_neg (wne (show ("get" : Str) ≠ "close" from by decide +kernel)), if_neg (wne (show ("get" : Str) ≠ "look" from by decide +kernel)), if_pos ⟨rfl, rfl⟩]
        refine ⟨_, rfl, r, dx, _, rfl, e0, rfl, _, rfl, _, rfl, _, rfl, r, R, a, at_, cnt, rfl, h, fun n v H' S rp => ?_, fun x e v H' S rp => ?_⟩
        · rw [n] at q; exact q R v H' S rfl rp
        · rw [e] at q; exact q R v H' S rfl rp
      | drop nm =>
        dsimp only at q
        refine ⟨_, rfl, qa, _, _, rfl, SqT.of hq, ?_⟩
        dsimp only
        rw [if_neg (wne (show ("drop" : Str) ≠ "open" from by decide +kernel)), if_neg (wne (show ("drop" : Str) ≠ "part" from by decide +kernel)), if_neg (wne (show ("drop" : Str) ≠ "close" from by decide +kernel)), if_neg (wne (show ("drop" : Str) ≠ "look" from by decide +kernel)), if_neg (wne (show ("drop" : Str) ≠ "get" from by decide +kernel)), if_pos ⟨rfl, rfl⟩]
        refine ⟨_, rfl, r, dx, _, rfl, e0, rfl, _, rfl, r, R, nm, rfl, h, fun R1 H1 S1 a1 => ?_⟩
        exact ⟨_, rfl, by show 2 ≤ sizeLine; decide, fun p np => q R1 _ _ (S1.tup np) a1 ⟨p, rfl, upd_same⟩⟩
      | _ => cases ecl
end
end LW
namespace LW
open PySem PySem.Spec PyProof.Rows L2 GxR
theorem made1 {H : Hp} {o dx d C : Addr} {fs : List (Str × V)} (no : H o = none) (ndx : H dx = none) (nd : (L2.upd (L2.upd H dx (.own o)) o (.ins C dx [])) d = none) :
    (L2.upd (L2.upd (L2.upd (L2.upd H dx (.own o)) o (.ins C dx [])) d (.dK [])) o (.ins C dx fs)) o = some (.ins C dx fs) ∧
    (L2.upd (L2.upd (L2.upd (L2.upd H dx (.own o)) o (.ins C dx [])) d (.dK [])) o (.ins C dx fs)) d = some (.dK []) ∧
    Same H (L2.upd (L2.upd (L2.upd (L2.upd H dx (.own o)) o (.ins C dx [])) d (.dK [])) o (.ins C dx fs)) ∧ H d = none ∧ d ≠ o := by
  have do_ : d ≠ o := fun z => by rw [z, upd_same] at nd; cases nd
  have nd1 : (L2.upd H dx (.own o)) d = none := by rw [upd_ne do_] at nd; exact nd
  have ddx : d ≠ dx := fun z => by rw [z, upd_same] at nd1; cases nd1
  have nd0 : H d = none := by rw [upd_ne ddx] at nd1; exact nd1
  refine ⟨upd_same, by rw [upd_ne do_, upd_same], fun b v e => ?_, nd0, do_⟩
  rw [upd_ne (ne_of_none e no), upd_ne (ne_of_none e nd0), upd_ne (ne_of_none e no), upd_ne (ne_of_none e ndx)]
  exact e
theorem made2 {H : Hp} {o dx d C : Addr} {fs gs : List (Str × V)} (no : H o = none) (ndx : H dx = none) (nd : H d = none) (do_ : d ≠ o) :
    (L2.upd (L2.upd (L2.upd (L2.upd (L2.upd H dx (.own o)) o (.ins C dx [])) o (.ins C dx gs)) d (.dK [])) o (.ins C dx fs)) o = some (.ins C dx fs) ∧
    (L2.upd (L2.upd (L2.upd (L2.upd (L2.upd H dx (.own o)) o (.ins C dx [])) o (.ins C dx gs)) d (.dK [])) o (.ins C dx fs)) d = some (.dK []) ∧
    Same H (L2.upd (L2.upd (L2.upd (L2.upd (L2.upd H dx (.own o)) o (.ins C dx [])) o (.ins C dx gs)) d (.dK [])) o (.ins C dx fs)) := by
  refine ⟨upd_same, by rw [upd_ne do_, upd_same], fun b v e => ?_⟩
  rw [upd_ne (ne_of_none e no), upd_ne (ne_of_none e nd), upd_ne (ne_of_none e no), upd_ne (ne_of_none e no), upd_ne (ne_of_none e ndx)]
  exact e
theorem fresh2 {H : Hp} {o dx d C : Addr} (no : H o = none) (nd : (L2.upd (L2.upd H dx (.own o)) o (.ins C dx [])) d = none) : H d = none ∧ d ≠ o := by
  have do_ : d ≠ o := fun z => by rw [z, upd_same] at nd; cases nd
  have nd1 : (L2.upd H dx (.own o)) d = none := by rw [upd_ne do_] at nd; exact nd
  have ddx : d ≠ dx := fun z => by rw [z, upd_same] at nd1; cases nd1
  rw [upd_ne ddx] at nd1
  exact ⟨nd1, do_⟩
theorem made0 {H : Hp} {o dx C : Addr} (no : H o = none) (ndx : H dx = none) : (L2.upd (L2.upd H dx (.own o)) o (.ins C dx [])) o = some (.ins C dx []) ∧ Same H (L2.upd (L2.upd H dx (.own o)) o (.ins C dx [])) :=
  ⟨upd_same, fun b v e => by rw [upd_ne (ne_of_none e no), upd_ne (ne_of_none e ndx)]; exact e⟩
/-- what has been laid so far, the registry's own object first -/
structure Laid (C r : Addr) (dx : Addr) (fs : List (Str × V)) (H0 H : Hp) (L : List (Addr × HO)) : Prop where
  er : H r = some (.ins C dx fs)
  at_ : ∀ p ∈ L, H p.1 = some p.2
  gr : GrS (fun z => z = r) H0 H
  nd : (L.map (·.1)).Nodup
  nr : r ∉ L.map (·.1)
  fr : ∀ p ∈ L, H0 p.1 = none
theorem Laid.more {C r dx : Addr} {fs : List (Str × V)} {H0 H H' : Hp} {L : List (Addr × HO)} (l : Laid C r dx fs H0 H L) (s : Same H H') {M : List (Addr × HO)} (m : ∀ p ∈ M, H' p.1 = some p.2 ∧ H p.1 = none) (nd : (M.map (·.1)).Nodup) : Laid C r dx fs H0 H' (M ++ L) := by
  refine ⟨s _ _ l.er, fun p hp => ?_, l.gr.trans (.same s), ?_, fun z => ?_, fun p hp => ?_⟩
  · rcases List.mem_append.mp hp with hp | hp
    · exact (m p hp).1
    · exact s _ _ (l.at_ p hp)
  · rw [List.map_append]
    refine List.nodup_append.mpr ⟨nd, l.nd, fun x hx y hy e => ?_⟩
    obtain ⟨p, hp, rfl⟩ := List.mem_map.mp hx
    obtain ⟨p', hp', rfl⟩ := List.mem_map.mp hy
    have h1 := (m p hp).2
    rw [e, l.at_ p' hp'] at h1; cases h1
  · rw [List.map_append] at z
    rcases List.mem_append.mp z with z | z
    · obtain ⟨p, hp, e⟩ := List.mem_map.mp z
      have h1 := (m p hp).2
      rw [e, l.er] at h1; cases h1
    · exact l.nr z
  · rcases List.mem_append.mp hp with hp | hp
    · exact l.gr.free _ (m p hp).2
    · exact l.fr p hp
theorem Laid.put {C r dx : Addr} {fs fs' : List (Str × V)} {H0 H : Hp} {L : List (Addr × HO)} (l : Laid C r dx fs H0 H L) : Laid C r dx fs' H0 (L2.upd H r (.ins C dx fs')) L := by
  refine ⟨upd_same, fun p hp => ?_, l.gr.trans (.put rfl l.er (fun ps z => nomatch z)), l.nd, l.nr, l.fr⟩
  rw [upd_ne (fun z => l.nr (List.mem_map.mpr ⟨p, hp, z⟩))]
  exact l.at_ p hp
abbrev s_Registry___init : Stmt := inClass (topS 38) 0
abbrev N_Registry___init : List Str := ["self"]
abbrev P_Registry___init : List Str := ["self"]
theorem sc_Registry___init : FnScope N_Registry___init P_Registry___init (defScope s_Registry___init) := ⟨rfl, rfl, rfl, by decide +kernel, rfl, by decide +kernel, by decide +kernel⟩
def sp_Registry___init (c : CA) : Sp := fun vs H Q _ => ∃ (r dx : Addr), vs = [.ref r] ∧ H r = some (.ins c.G dx []) ∧ TabG H c.b1 ∧ TabG H c.b2 ∧ TabG H c.b3 ∧ TabG H c.b4 ∧ ∀ R' H', RI c r R' H' → R'.ab = ⟨[], [], 0, [], 0, [], "idle", [], []⟩ → GrS (fun z => z = r) H H' → (∀ z, RF r R' z → z = r ∨ H z = none) → Q .non H'
section
variable {P : Program} {w : World} {K : PySem.W.Frag} {mg : Str → Option Value} {base : Heap} {cM cR : Addr} {c : CA}
theorem ok_Registry___init {f : Addr} {fd : FuncData} (F : Fun K "__init__" "Registry.__init__" s_Registry___init f fd) (T : Tx K mg cM cR c.U) (TC : Tc K mg c.C) (TK : Tk K mg c.K c.L) (TG : Tg K w mg c.G)
    (C_Claims : CalK P w K mg base CX0 1 "Claims" c.K P_Claims___init (sp_Claims___init c.K))
    (C_Collector : CalK P w K mg base CX0 1 "Collector" c.C P_Collector___init (sp_Collector___init c.C c.U c.b1 c.b2))
    (C_Store : CalK P w K mg base CX0 1 "Store" c.U P_Store___init (sp_Store___init c.U))
    (C_Uploads : CalK P w K mg base CX0 1 "Uploads" c.L P_Uploads___init (sp_Uploads___init c.L)) : FnOk P w K mg base CX0 3 f fd P_Registry___init (sp_Registry___init c) := by
  refine F.ok sc_Registry___init (fun vs H Q E h => ?_) (fun cdv A outer s H vs Q E hr h => ?_)
  · obtain ⟨_, _, rfl, _⟩ := h
    rfl
  · obtain ⟨r, dx, rfl, e0, t1, t2, t3, t4, q⟩ := h
    have nd := sc_Registry___init.nd
    refine ⟨_, pss_cons (ps_fld (pv 0) (pe_calK0 C_Store hr) rfl)
  (pss_cons (ps_fld (pv 0) pe_dnewK rfl)
  (pss_cons (ps_fld (pv 0) (pe_calK0 C_Claims hr) rfl)
  (pss_cons (ps_fld (pv 0) (pe_calK0 C_Uploads hr) rfl)
  (pss_one (ps_fld (pv 0) (pe_calK C_Collector hr (pa_cons (pe_fld (pv 0) rfl) pa_nil)) rfl))))), ?_⟩
    have l0 : Laid c.G r dx [] H H [] := ⟨e0, (fun p hp => nomatch hp), .refl _ _, List.nodup_nil, (fun z => nomatch z), (fun p hp => nomatch hp)⟩
    refine fun o dxo no ndo _ => ⟨o, dxo, rfl, upd_same, fun d nd1 => ?_⟩
    obtain ⟨eo, ed, sm, nd0, do_⟩ := made1 (fs := [("_blobs", .ref d)]) no ndo nd1
    have l1 := l0.more sm (M := [(d, .dK []), (o, .ins c.U dxo [("_blobs", .ref d)])]) (fun p hp => by
      rcases List.mem_cons.mp hp with rfl | hp
      · exact ⟨ed, nd0⟩
      · rw [List.mem_singleton.mp hp]; exact ⟨eo, no⟩) (List.nodup_cons.mpr ⟨(fun z => do_ (List.mem_singleton.mp z)), List.nodup_cons.mpr ⟨(fun z => nomatch z), List.nodup_nil⟩⟩)
    refine ⟨rfl, _, rfl, r, c.G, dx, [], rfl, l1.er, TG.cl, TG.n0, by decide, ?_⟩
    have l2 := l1.put (fs' := [("store", .ref o)])
    rw [show putF "store" (.ref o) ([] : List (Str × V)) = ([("store", .ref o)] : List (Str × V)) from rfl]
    revert l2
    generalize L2.upd _ r (HO.ins c.G dx [("store", .ref o)]) = H2
    intro l2
    refine fun nm nn => ?_
    have l3 := l2.more (same_upd nn (o := .dK [])) (M := [(nm, .dK [])]) (fun p hp => by rw [List.mem_singleton.mp hp]; exact ⟨upd_same, nn⟩) (List.nodup_cons.mpr ⟨(fun z => nomatch z), List.nodup_nil⟩)
    refine ⟨_, rfl, r, c.G, dx, _, rfl, l3.er, TG.cl, TG.n1, (by show 1 < 1000; decide), ?_⟩
    rw [show putF "names" (.ref nm) ([("store", .ref o)] : List (Str × V)) = ([("store", .ref o), ("names", .ref nm)] : List (Str × V)) from rfl]
    have l4 := l3.put (fs' := [("store", .ref o), ("names", .ref nm)])
    revert l4
    generalize L2.upd _ r (HO.ins c.G dx [("store", .ref o), ("names", .ref nm)]) = H4
    intro l4
    refine fun k dk nk ndk _ => ⟨k, dk, rfl, upd_same, fun pd np1 => ?_⟩
    obtain ⟨np0, pk⟩ := fresh2 nk np1
    obtain ⟨ek, ep, sm4⟩ := made2 (C := c.K) (fs := flP 0 pd) (gs := [("_last", .int 0)]) nk ndk np0 pk
    have l5 := l4.more sm4 (M := [(pd, .dK []), (k, .ins c.K dk (flP 0 pd))]) (fun p hp => by
      rcases List.mem_cons.mp hp with rfl | hp
      · exact ⟨ep, np0⟩
      · rw [List.mem_singleton.mp hp]; exact ⟨ek, nk⟩) (List.nodup_cons.mpr ⟨(fun z => pk (List.mem_singleton.mp z)), List.nodup_cons.mpr ⟨(fun z => nomatch z), List.nodup_nil⟩⟩)
    refine ⟨rfl, _, rfl, r, c.G, dx, _, rfl, l5.er, TG.cl, TG.n2, (by show 2 < 1000; decide), ?_⟩
    rw [show putF "claims" (.ref k) ([("store", .ref o), ("names", .ref nm)] : List (Str × V)) = ([("store", .ref o), ("names", .ref nm), ("claims", .ref k)] : List (Str × V)) from rfl]
    have l6 := l5.put (fs' := [("store", .ref o), ("names", .ref nm), ("claims", .ref k)])
    revert l6
    generalize L2.upd _ r (HO.ins c.G dx [("store", .ref o), ("names", .ref nm), ("claims", .ref k)]) = H6
    intro l6
    refine fun u du nu ndu _ => ⟨u, du, rfl, upd_same, fun td nt1 => ?_⟩
    obtain ⟨nt0, tu⟩ := fresh2 nu nt1
    obtain ⟨eu, et, sm6⟩ := made2 (C := c.L) (fs := flT 0 td) (gs := [("_last", .int 0)]) nu ndu nt0 tu
    have l7 := l6.more sm6 (M := [(td, .dK []), (u, .ins c.L du (flT 0 td))]) (fun p hp => by
      rcases List.mem_cons.mp hp with rfl | hp
      · exact ⟨et, nt0⟩
      · rw [List.mem_singleton.mp hp]; exact ⟨eu, nu⟩) (List.nodup_cons.mpr ⟨(fun z => tu (List.mem_singleton.mp z)), List.nodup_cons.mpr ⟨(fun z => nomatch z), List.nodup_nil⟩⟩)
    refine ⟨rfl, _, rfl, r, c.G, dx, _, rfl, l7.er, TG.cl, TG.n3, (by show 3 < 1000; decide), ?_⟩
    rw [show putF "uploads" (.ref u) ([("store", .ref o), ("names", .ref nm), ("claims", .ref k)] : List (Str × V)) = ([("store", .ref o), ("names", .ref nm), ("claims", .ref k), ("uploads", .ref u)] : List (Str × V)) from rfl]
    have l8 := l7.put (fs' := [("store", .ref o), ("names", .ref nm), ("claims", .ref k), ("uploads", .ref u)])
    revert l8
    generalize L2.upd _ r (HO.ins c.G dx [("store", .ref o), ("names", .ref nm), ("claims", .ref k), ("uploads", .ref u)]) = H8
    intro l8
    refine ⟨_, rfl, r, c.G, dx, _, _, rfl, l8.er, TG.cl, TG.n0, rfl, fun co dco nco ndco _ => ?_⟩
    obtain ⟨eco, sm8⟩ := made0 (C := c.C) nco ndco
    have l9 := l8.more sm8 (M := [(co, .ins c.C dco [])]) (fun p hp => by rw [List.mem_singleton.mp hp]; exact ⟨eco, nco⟩) (List.nodup_cons.mpr ⟨(fun z => nomatch z), List.nodup_nil⟩)
    generalize L2.upd (L2.upd H8 dco (.own co)) co (.ins c.C dco []) = H9 at l9 ⊢
    have m9 : ∀ {p : Addr × HO} (i : Nat), ([(co, .ins c.C dco []), (td, .dK []), (u, .ins c.L du (flT 0 td)), (pd, .dK []), (k, .ins c.K dk (flP 0 pd)), (nm, .dK []), (d, .dK []), (o, .ins c.U dxo [("_blobs", .ref d)])] : List (Addr × HO))[i]? = some p → H9 p.1 = some p.2 := fun i e => l9.at_ _ (List.mem_of_getElem? e)
    have AT : At c.U c.b1 c.b2 H9 o d [] := ⟨⟨⟨dxo, m9 7 rfl⟩, ⟨[], m9 6 rfl, .nil⟩⟩, (fun e he => nomatch he), l9.gr.tab _ t1, l9.gr.tab _ t2⟩
    have hL9 := l9.nd
    refine ⟨co, o, d, dco, [], rfl, m9 0 rfl, AT, nd_ne hL9 (i := 7) (j := 0) rfl rfl (by decide), fun s' H' S w1 w2 w3 g n1 n2 => ⟨rfl, ?_⟩⟩
    have er' : H' r = some (.ins c.G dx [("store", .ref o), ("names", .ref nm), ("claims", .ref k), ("uploads", .ref u)]) := g.keep _ _ (fun z => l9.nr (by rw [z]; exact List.mem_cons_self)) l9.er (fun ps z => nomatch z)
    have mp : ∀ {p : Addr × HO} (i : Nat), i ≠ 0 → ([(co, .ins c.C dco []), (td, .dK []), (u, .ins c.L du (flT 0 td)), (pd, .dK []), (k, .ins c.K dk (flP 0 pd)), (nm, .dK []), (d, .dK []), (o, .ins c.U dxo [("_blobs", .ref d)])] : List (Addr × HO))[i]? = some p → (∀ ps, p.2 ≠ .tbl ps) → H' p.1 = some p.2 := fun {p} i ni e nt => g.keep _ _ (fun z => nd_ne hL9 (i := i) (j := 0) (by rw [List.getElem?_map]; exact congrArg (Option.map (·.1)) e) rfl ni z) (m9 i e) nt
    refine ⟨_, rfl, r, c.G, dx, _, rfl, er', TG.cl, TG.n4, (by show 4 < 1000; decide), ?_⟩
    rw [show putF "collector" (.ref co) ([("store", .ref o), ("names", .ref nm), ("claims", .ref k), ("uploads", .ref u)] : List (Str × V)) = gfl ⟨o, d, nm, k, pd, u, td, co, s', [], [], 0, [], 0, []⟩ from rfl]
    have gr : GrS (fun z => z = r) H' (L2.upd H' r (.ins c.G dx (gfl ⟨o, d, nm, k, pd, u, td, co, s', [], [], 0, [], 0, []⟩))) := .put rfl er' (fun ps z => nomatch z)
    have hL : ([s'.wt, s'.mm, co, td, u, pd, k, nm, d, o, r] : List Addr).Nodup := by
      have wm : s'.wt ≠ s'.mm := ne_of S.co.hW S.co.hM (by intro z; cases z)
      have base : ([co, td, u, pd, k, nm, d, o] ++ [r] : List Addr).Nodup := List.nodup_append.mpr ⟨hL9, List.nodup_cons.mpr ⟨List.not_mem_nil, List.nodup_nil⟩, fun x hx y hy e => by
        rw [List.mem_singleton.mp hy] at e
        exact l9.nr (e ▸ hx)⟩
      have out : ∀ p, H9 p = none → p ∉ ([co, td, u, pd, k, nm, d, o, r] : List Addr) := fun p np z => by
        rcases List.mem_append.mp (show p ∈ [co, td, u, pd, k, nm, d, o] ++ [r] from z) with z | z
        · obtain ⟨e, he, q⟩ := List.mem_map.mp (show p ∈ ([(co, .ins c.C dco []), (td, .dK []), (u, .ins c.L du (flT 0 td)), (pd, .dK []), (k, .ins c.K dk (flP 0 pd)), (nm, .dK []), (d, .dK []), (o, .ins c.U dxo [("_blobs", .ref d)])] : List (Addr × HO)).map (·.1) from z)
          have := l9.at_ e he
          rw [q, np] at this; cases this
        · rw [List.mem_singleton.mp z, l9.er] at np; cases np
      refine List.nodup_cons.mpr ⟨fun z => ?_, List.nodup_cons.mpr ⟨out _ n2, base⟩⟩
      rcases List.mem_cons.mp z with z | z
      · exact wm z
      · exact out _ n1 z
    have nr : ∀ {x : Addr} {i : Nat}, i ≠ 10 → ([s'.wt, s'.mm, co, td, u, pd, k, nm, d, o, r] : List Addr)[i]? = some x → ¬ x = r := fun ni hi => nd_ne hL hi (j := 10) rfl ni
    refine q ⟨o, d, nm, k, pd, u, td, co, s', [], [], 0, [], 0, []⟩ _ ⟨⟨dx, upd_same⟩, ⟨dk, gr.keep _ _ (nr (i := 6) (by decide) rfl) (mp 4 (by decide) rfl (fun ps z => nomatch z)) (fun ps z => nomatch z)⟩, ⟨du, gr.keep _ _ (nr (i := 4) (by decide) rfl) (mp 2 (by decide) rfl (fun ps z => nomatch z)) (fun ps z => nomatch z)⟩, gr.keep _ _ (nr (i := 7) (by decide) rfl) (mp 5 (by decide) rfl (fun ps z => nomatch z)) (fun ps z => nomatch z), gr.keep _ _ (nr (i := 5) (by decide) rfl) (mp 3 (by decide) rfl (fun ps z => nomatch z)) (fun ps z => nomatch z), gr.keep _ _ (nr (i := 3) (by decide) rfl) (mp 1 (by decide) rfl (fun ps z => nomatch z)) (fun ps z => nomatch z),
      S.move gr ⟨nr (i := 2) (by decide) rfl, nr (i := 0) (by decide) rfl, nr (i := 1) (by decide) rfl, nr (i := 9) (by decide) rfl, nr (i := 8) (by decide) rfl⟩ (fun b xs e z => by rw [z, er'] at e; cases e), gr.tab _ (g.tab _ (l9.gr.tab _ t3)), gr.tab _ (g.tab _ (l9.gr.tab _ t4)), (fun e he => nomatch he), ?_, List.nodup_nil, (fun e he => nomatch he), List.nodup_nil, (fun e he => nomatch he)⟩ ?_ ?_ ?_
    · show ([r, k, u, nm, pd, td, o, d, co, s'.wt, s'.mm] : List Addr).Nodup
      exact List.nodup_cons.mpr ⟨(fun z => by
      simp only [List.mem_cons, List.not_mem_nil, or_false] at z
      rcases z with z | z | z | z | z | z | z | z | z | z
      · exact nd_ne hL (i := 10) (j := 6) rfl rfl (by decide) z
      · exact nd_ne hL (i := 10) (j := 4) rfl rfl (by decide) z
      · exact nd_ne hL (i := 10) (j := 7) rfl rfl (by decide) z
      · exact nd_ne hL (i := 10) (j := 5) rfl rfl (by decide) z
      · exact nd_ne hL (i := 10) (j := 3) rfl rfl (by decide) z
      · exact nd_ne hL (i := 10) (j := 9) rfl rfl (by decide) z
      · exact nd_ne hL (i := 10) (j := 8) rfl rfl (by decide) z
      · exact nd_ne hL (i := 10) (j := 2) rfl rfl (by decide) z
      · exact nd_ne hL (i := 10) (j := 0) rfl rfl (by decide) z
      · exact nd_ne hL (i := 10) (j := 1) rfl rfl (by decide) z), List.nodup_cons.mpr ⟨(fun z => by
      simp only [List.mem_cons, List.not_mem_nil, or_false] at z
      rcases z with z | z | z | z | z | z | z | z | z
      · exact nd_ne hL (i := 6) (j := 4) rfl rfl (by decide) z
      · exact nd_ne hL (i := 6) (j := 7) rfl rfl (by decide) z
      · exact nd_ne hL (i := 6) (j := 5) rfl rfl (by decide) z
      · exact nd_ne hL (i := 6) (j := 3) rfl rfl (by decide) z
      · exact nd_ne hL (i := 6) (j := 9) rfl rfl (by decide) z
      · exact nd_ne hL (i := 6) (j := 8) rfl rfl (by decide) z
      · exact nd_ne hL (i := 6) (j := 2) rfl rfl (by decide) z
      · exact nd_ne hL (i := 6) (j := 0) rfl rfl (by decide) z
      · exact nd_ne hL (i := 6) (j := 1) rfl rfl (by decide) z), List.nodup_cons.mpr ⟨(fun z => by
      simp only [List.mem_cons, List.not_mem_nil, or_false] at z
      rcases z with z | z | z | z | z | z | z | z
      · exact nd_ne hL (i := 4) (j := 7) rfl rfl (by decide) z
      · exact nd_ne hL (i := 4) (j := 5) rfl rfl (by decide) z
      · exact nd_ne hL (i := 4) (j := 3) rfl rfl (by decide) z
      · exact nd_ne hL (i := 4) (j := 9) rfl rfl (by decide) z
      · exact nd_ne hL (i := 4) (j := 8) rfl rfl (by decide) z
      · exact nd_ne hL (i := 4) (j := 2) rfl rfl (by decide) z
      · exact nd_ne hL (i := 4) (j := 0) rfl rfl (by decide) z
      · exact nd_ne hL (i := 4) (j := 1) rfl rfl (by decide) z), List.nodup_cons.mpr ⟨(fun z => by
      simp only [List.mem_cons, List.not_mem_nil, or_false] at z
      rcases z with z | z | z | z | z | z | z
      · exact nd_ne hL (i := 7) (j := 5) rfl rfl (by decide) z
      · exact nd_ne hL (i := 7) (j := 3) rfl rfl (by decide) z
      · exact nd_ne hL (i := 7) (j := 9) rfl rfl (by decide) z
      · exact nd_ne hL (i := 7) (j := 8) rfl rfl (by decide) z
      · exact nd_ne hL (i := 7) (j := 2) rfl rfl (by decide) z
      · exact nd_ne hL (i := 7) (j := 0) rfl rfl (by decide) z
      · exact nd_ne hL (i := 7) (j := 1) rfl rfl (by decide) z), List.nodup_cons.mpr ⟨(fun z => by
      simp only [List.mem_cons, List.not_mem_nil, or_false] at z
      rcases z with z | z | z | z | z | z
      · exact nd_ne hL (i := 5) (j := 3) rfl rfl (by decide) z
      · exact nd_ne hL (i := 5) (j := 9) rfl rfl (by decide) z
      · exact nd_ne hL (i := 5) (j := 8) rfl rfl (by decide) z
      · exact nd_ne hL (i := 5) (j := 2) rfl rfl (by decide) z
      · exact nd_ne hL (i := 5) (j := 0) rfl rfl (by decide) z
      · exact nd_ne hL (i := 5) (j := 1) rfl rfl (by decide) z), List.nodup_cons.mpr ⟨(fun z => by
      simp only [List.mem_cons, List.not_mem_nil, or_false] at z
      rcases z with z | z | z | z | z
      · exact nd_ne hL (i := 3) (j := 9) rfl rfl (by decide) z
      · exact nd_ne hL (i := 3) (j := 8) rfl rfl (by decide) z
      · exact nd_ne hL (i := 3) (j := 2) rfl rfl (by decide) z
      · exact nd_ne hL (i := 3) (j := 0) rfl rfl (by decide) z
      · exact nd_ne hL (i := 3) (j := 1) rfl rfl (by decide) z), List.nodup_cons.mpr ⟨(fun z => by
      simp only [List.mem_cons, List.not_mem_nil, or_false] at z
      rcases z with z | z | z | z
      · exact nd_ne hL (i := 9) (j := 8) rfl rfl (by decide) z
      · exact nd_ne hL (i := 9) (j := 2) rfl rfl (by decide) z
      · exact nd_ne hL (i := 9) (j := 0) rfl rfl (by decide) z
      · exact nd_ne hL (i := 9) (j := 1) rfl rfl (by decide) z), List.nodup_cons.mpr ⟨(fun z => by
      simp only [List.mem_cons, List.not_mem_nil, or_false] at z
      rcases z with z | z | z
      · exact nd_ne hL (i := 8) (j := 2) rfl rfl (by decide) z
      · exact nd_ne hL (i := 8) (j := 0) rfl rfl (by decide) z
      · exact nd_ne hL (i := 8) (j := 1) rfl rfl (by decide) z), List.nodup_cons.mpr ⟨(fun z => by
      simp only [List.mem_cons, List.not_mem_nil, or_false] at z
      rcases z with z | z
      · exact nd_ne hL (i := 2) (j := 0) rfl rfl (by decide) z
      · exact nd_ne hL (i := 2) (j := 1) rfl rfl (by decide) z), List.nodup_cons.mpr ⟨(fun z => by
      simp only [List.mem_cons, List.not_mem_nil, or_false] at z
      rcases z with z
      · exact nd_ne hL (i := 0) (j := 1) rfl rfl (by decide) z), List.nodup_cons.mpr ⟨(fun z => nomatch z), List.nodup_nil⟩⟩⟩⟩⟩⟩⟩⟩⟩⟩⟩
    · show (⟨[], [], 0, [], 0, [], s'.ph, s'.W, s'.M⟩ : Ab) = _
      rw [w1, w2, w3]
    · exact ⟨fun b v n e t => gr.keep b v n (g.keep b v (fun z => by rw [z, l9.fr _ List.mem_cons_self] at e; cases e) (l9.gr.keep b v n e t) t) t, fun b t => gr.tab b (g.tab b (l9.gr.tab b t)), fun b n => l9.gr.free b (g.free b (gr.free b n))⟩
    · intro z hz
      have hz : z ∈ ([r, k, u, nm, pd, td, o, d, co, s'.wt, s'.mm] : List Addr) := hz
      have f9 : ∀ {p : Addr × HO} (i : Nat), ([(co, .ins c.C dco []), (td, .dK []), (u, .ins c.L du (flT 0 td)), (pd, .dK []), (k, .ins c.K dk (flP 0 pd)), (nm, .dK []), (d, .dK []), (o, .ins c.U dxo [("_blobs", .ref d)])] : List (Addr × HO))[i]? = some p → H p.1 = none := fun i e => l9.fr _ (List.mem_of_getElem? e)
      simp only [List.mem_cons, List.not_mem_nil, or_false] at hz
      rcases hz with rfl | rfl | rfl | rfl | rfl | rfl | rfl | rfl | rfl | rfl | rfl
      · exact .inl rfl
      · exact .inr (f9 4 rfl)
      · exact .inr (f9 2 rfl)
      · exact .inr (f9 5 rfl)
      · exact .inr (f9 3 rfl)
      · exact .inr (f9 1 rfl)
      · exact .inr (f9 7 rfl)
      · exact .inr (f9 6 rfl)
      · exact .inr (f9 0 rfl)
      · exact .inr (l9.gr.free _ n1)
      · exact .inr (l9.gr.free _ n2)
end
end LW
namespace LW
open PySem PySem.Spec PyProof.Rows L2 GxR
theorem not_img : (("layer" : Str) = "image") = False ∧ (("layer" : Str) = "bundle") = False ∧ (("bundle" : Str) = "image") = False := ⟨eq_false (by decide +kernel), eq_false (by decide +kernel), eq_false (by decide +kernel)⟩
theorem refs_lay (t : Str) : refsOf ("layer", t) = [] := by
  unfold refsOf
  rw [if_neg (of_eq_false not_img.1), if_neg (of_eq_false not_img.2.1)]
theorem refs_image {rs : List Str} (h : ∀ r ∈ rs, isAddr r = true) : refsOf ("image", textOf (word false :: rs)) = rs := by
  unfold refsOf
  rw [if_pos rfl, lns_textOf (fun l hl => by
    rcases List.mem_cons.mp hl with e | e
    · rw [e]; exact (word_asc false).2.2
    · exact (addr_no (h l e)).2.1), mid_text]
theorem refs_bundle {r : Str} (h : isAddr r = true) : refsOf ("bundle", textOf (word true :: [(("mill" : Str), r)].map ent)) = [r] := by
  have hp : isPlat "mill" = true := by decide +kernel
  unfold refsOf
  rw [if_neg (of_eq_false not_img.2.2), if_pos rfl, lns_textOf (fun l hl => by
    rcases List.mem_cons.mp hl with e | e
    · rw [e]; exact (word_asc true).2.2
    · obtain ⟨q, hq, rfl⟩ := List.mem_map.mp e
      rw [List.mem_singleton.mp hq]
      exact (ent_ok ⟨hp, h⟩).2.2), mid_text]
  show [adr (ent (("mill" : Str), r))] = [r]
  have := (ent_part (p := (("mill" : Str), r)) (by show 32 ∉ TL.tl ("mill" : Str); decide +kernel)).2
  rw [this]
theorem good_layer {t : Str} (h : ∀ z ∈ t.cps.toList, z ∈ drawn) (hl : t.length ≤ 10) : Good ("layer", t) := by
  refine ⟨by show t.length ≤ 5000; omega, fun c hc => ?_, .inl rfl⟩
  have key : ∀ z ∈ drawn, z < 1000 := by decide
  exact key c (h c hc)
theorem good_image {rs : List Str} (h : ∀ x ∈ rs, isAddr x = true) (hl : rs.length ≤ 10) : Good ("image", textOf (word false :: rs)) := by
  have ok : ∀ x ∈ word false :: rs, Asc x ∧ x.length + 1 ≤ 17 ∧ 10 ∉ TL.tl x := fun x hx => by
    rcases List.mem_cons.mp hx with z | z
    · rw [z]
      have := word_asc false
      exact ⟨this.1, by omega, this.2.2⟩
    · have a := addr_no (h x z)
      exact ⟨Asc.of_addr (h x z), by omega, a.2.1⟩
  refine ⟨?_, textOf_asc fun l hl => (ok l hl).1, .inr (.inl ⟨rfl, ?_⟩)⟩
  · show (textOf (word false :: rs)).length ≤ 5000
    rw [textOf_len]
    have := sum_le (fun l : Str => l.length + 1) 17 (word false :: rs) fun x hx => (ok x hx).2.1
    rw [List.length_cons] at this
    omega
  · show faultN false (lns (textOf (word false :: rs))) = none
    rw [lns_textOf fun l hl => (ok l hl).2.2, fault_image h (by omega), if_neg (by omega)]
theorem good_bundle {es : List (Str × Str)} (h : ∀ q ∈ es, isPlat q.1 = true ∧ isAddr q.2 = true) (nd : (es.map (·.1)).Nodup) (l1 : 1 ≤ es.length) (l6 : es.length ≤ 10) : Good ("bundle", textOf (word true :: es.map ent)) := by
  have ok : ∀ x ∈ word true :: es.map ent, Asc x ∧ x.length + 1 ≤ 28 ∧ 10 ∉ TL.tl x := fun x hx => by
    rcases List.mem_cons.mp hx with z | z
    · rw [z]
      have := word_asc true
      exact ⟨this.1, by omega, this.2.2⟩
    · obtain ⟨q, hq, rfl⟩ := List.mem_map.mp z
      have := ent_ok (h q hq)
      exact ⟨this.1, by omega, this.2.2⟩
  refine ⟨?_, textOf_asc fun l hl => (ok l hl).1, .inr (.inr ⟨rfl, ?_⟩)⟩
  · show (textOf (word true :: es.map ent)).length ≤ 5000
    rw [textOf_len]
    have := sum_le (fun l : Str => l.length + 1) 28 (word true :: es.map ent) fun x hx => (ok x hx).2.1
    rw [List.length_cons, List.length_map] at this
    omega
  · show faultN true (lns (textOf (word true :: es.map ent))) = none
    rw [lns_textOf fun l hl => (ok l hl).2.2, fault_bundle h nd l1 (by omega)]
theorem lk_app {D D' : Blbs} {a : Str} : lk (D ++ D') a = match lk D a with
    | some x => some x
    | none => lk D' a := by
  induction D with
  | nil => rfl
  | cons e r ih =>
    obtain ⟨b, y⟩ := e
    show (if b = a then some y else lk (r ++ D') a) = match (if b = a then some y else lk r a) with
      | some x => some x
      | none => lk D' a
    by_cases hb : b = a
    · rw [if_pos hb, if_pos hb]
    · rw [if_neg hb, if_neg hb, ih]
theorem lk_set (D : Blbs) (a : Str) (x : Blb) (y : Str) : lk (setB D a x) y = if y = a then some x else lk D y := by
  unfold setB
  by_cases h : a ∈ D.map (·.1)
  · rw [if_pos h]
    induction D with
    | nil => cases h
    | cons e r ih =>
      obtain ⟨b, z⟩ := e
      by_cases hb : b = a
      · rw [List.map_cons]
        show lk ((if b = a then (b, x) else (b, z)) :: _) y = _
        rw [if_pos hb]
        show (if b = y then some x else lk _ y) = if y = a then some x else if b = y then some z else lk r y
        by_cases hy : b = y
        · rw [if_pos hy, if_pos (hy.symm.trans hb)]
        · have hya : ¬ y = a := fun q => hy (hb.trans q.symm)
          rw [if_neg hy, if_neg hya, if_neg hy]
          by_cases hr : a ∈ r.map (·.1)
          · rw [ih hr, if_neg hya]
          · have : r.map (fun e => if e.1 = a then (e.1, x) else e) = r := by
              conv => rhs; rw [← List.map_id r]
              apply List.map_congr_left
              intro e he
              show (if e.1 = a then (e.1, x) else e) = e
              rw [if_neg (fun q => hr (List.mem_map.mpr ⟨e, he, q⟩))]
            rw [this]
      · rw [List.map_cons]
        show lk ((if b = a then (b, x) else (b, z)) :: _) y = _
        rw [if_neg hb]
        show (if b = y then some z else lk _ y) = if y = a then some x else if b = y then some z else lk r y
        have hr : a ∈ r.map (·.1) := by
          rcases List.mem_cons.mp h with h | h
          · exact absurd h.symm hb
          · exact h
        by_cases hy : b = y
        · rw [if_pos hy, if_neg (fun q => hb (hy.trans q)), if_pos hy]
        · rw [if_neg hy, ih hr, if_neg hy]
  · rw [if_neg h, lk_app]
    by_cases hy : y = a
    · rw [hy, lk_none.mpr h, if_pos rfl]
      show (if a = a then some x else none) = some x
      rw [if_pos rfl]
    · rw [if_neg hy]
      cases e : lk D y with
      | some z => rfl
      | none =>
        show (if a = y then some x else none) = none
        rw [if_neg (fun q => hy q.symm)]
/-- what is stored and what the law knows of it -/
theorem setB_nodup {B : Blbs} {a : Str} {x : Blb} (h : (B.map (·.1)).Nodup) : ((setB B a x).map (·.1)).Nodup := by
  rw [set_keys]
  split
  · exact h
  · rename_i n
    exact List.nodup_append.mpr ⟨h, List.nodup_cons.mpr ⟨(fun z => nomatch z), List.nodup_nil⟩, fun y hy z hz e => n (by rw [List.mem_singleton.mp hz] at e; rw [← e]; exact hy)⟩
theorem lk_key {B : Blbs} {y : Str} : (lk B y).isSome = true ↔ y ∈ B.map (·.1) := by
  constructor
  · intro h
    refine Classical.byContradiction fun n => ?_
    rw [lk_none.mpr n] at h; cases h
  · intro h
    cases e : lk B y with
    | none => exact absurd h (lk_none.mp e)
    | some _ => rfl
theorem drop_keys (B : Blbs) (a : Str) : (dropB B a).map (·.1) = (B.map (·.1)).filter fun y => decide (y ≠ a) := by
  unfold dropB
  rw [List.filter_map]
  rfl
end LW
namespace LW
open PySem PySem.Spec PyProof.Rows L2 GxR
theorem cut_mid {α : Type} (g : α → V) (ls : List α) (h : 2 ≤ ls.length) : cutV (ls.map g) (some 1) (some (-1)) = ((ls.drop 1).dropLast).map g := by
  unfold cutV
  rw [List.length_map]
  have e1 : HT.sIx ls.length 0 (some 1) = 1 := by
    have : HT.sIx ls.length 0 (some ((1 : Nat) : Int)) = min 1 ls.length := HT.sIx_nat ls.length 0 1
    rw [show (1 : Int) = ((1 : Nat) : Int) from rfl, this]; omega
  have e2 : HT.sIx ls.length ls.length (some (-1)) = ls.length - 1 := by
    show (if (-1 : Int) < 0 then (-1 + (ls.length : Int)).toNat else min (-1 : Int).toNat ls.length) = _
    rw [if_pos (by omega)]; omega
  rw [e1, e2, ← List.map_drop, ← List.map_take, List.dropLast_eq_take, List.length_drop]
theorem fault_two {b : Bool} {t : Str} (h : faultN b (lns t) = none) : 2 ≤ (lns t).length := by
  unfold faultN at h
  cases e : behN (word b) (lns t) with
  | some k => rw [e] at h; cases h
  | none => exact beh_two (lns_ne t) (by cases b <;> decide) e
theorem dn_all {n : Nat} {B : Blbs} {a : Str} {x : Blb} (h : dn (n + 1) B a = true) (e : lk B a = some x) : ∀ r ∈ refsOf x, dn n B r = true := by
  rw [dn_some e] at h
  exact fun r hr => List.all_eq_true.mp h r hr
structure KE7 where
  i : Nat
  li : Addr
  xs : List Str
def outK (L : List KE7) : List (Key × V) := L.map fun e => (Sum.inl (e.i : Int), V.ref e.li)
theorem ok_val {L : List KE7} (nd : (L.map (·.i)).Nodup) {e : KE7} (he : e ∈ L) : valV (outK L) (.inl (e.i : Int)) = some (.ref e.li) := by
  induction L with
  | nil => cases he
  | cons f r ih =>
    obtain ⟨n1, n2⟩ := List.nodup_cons.mp nd
    rw [outK, List.map_cons]
    rcases List.mem_cons.mp he with rfl | he
    · exact valV_pos rfl
    · rw [valV_neg (fun z => n1 (List.mem_map.mpr ⟨e, he, ?_⟩))]
      · exact ih n2 he
      · have : (f.i : Int) = (e.i : Int) := by injection z
        show e.i = f.i
        omega
def kadL (L : List KE7) (cl : Int) (p : Addr) (ad : Str) : List KE7 := L.map fun e => if (e.i : Int) = cl then ⟨e.i, p, e.xs ++ [ad]⟩ else e
theorem kadL_i (L : List KE7) (cl : Int) (p : Addr) (ad : Str) : (kadL L cl p ad).map (·.i) = L.map (·.i) := by
  rw [kadL, List.map_map]
  apply List.map_congr_left
  intro e _
  show (if (e.i : Int) = cl then (⟨e.i, p, e.xs ++ [ad]⟩ : KE7) else e).i = e.i
  split <;> rfl
theorem outK_any (L : List KE7) (cl : Int) : ((outK L).any fun kv => decide (kv.1 = (.inl cl : Key))) = decide (∃ e ∈ L, (e.i : Int) = cl) := by
  rw [Bool.eq_iff_iff, List.any_eq_true, decide_eq_true_eq]
  constructor
  · rintro ⟨kv, h, e⟩
    obtain ⟨y, hy, rfl⟩ := List.mem_map.mp h
    have e := of_decide_eq_true e
    exact ⟨y, hy, by injection e⟩
  · rintro ⟨y, hy, e⟩
    exact ⟨_, List.mem_map.mpr ⟨y, hy, rfl⟩, decide_eq_true (by rw [← e])⟩
theorem outK_add {L : List KE7} {cl : Int} (h : ∃ e ∈ L, (e.i : Int) = cl) (p : Addr) (ad : Str) : putK (outK L) (.inl cl) (.ref p) = outK (kadL L cl p ad) := by
  unfold putK
  rw [outK_any, if_pos (decide_eq_true h), outK, outK, kadL, List.map_map, List.map_map]
  apply List.map_congr_left
  intro e _
  show (if ((Sum.inl (e.i : Int) : Key)) = Sum.inl cl then _ else _) = ((Sum.inl ((if (e.i : Int) = cl then (⟨e.i, p, e.xs ++ [ad]⟩ : KE7) else e).i : Int) : Key), V.ref (if (e.i : Int) = cl then (⟨e.i, p, e.xs ++ [ad]⟩ : KE7) else e).li)
  by_cases h' : (e.i : Int) = cl
  · rw [if_pos (by rw [h']), if_pos h']
  · rw [if_neg (fun z => h' (by injection z)), if_neg h']
theorem outK_new {L : List KE7} {n : Nat} (h : ∀ e ∈ L, e.i ≠ n) (p : Addr) : putK (outK L) (.inl (n : Int)) (.ref p) = outK (L ++ [⟨n, p, []⟩]) := by
  unfold putK
  rw [outK_any, if_neg (fun z => by
    obtain ⟨e, he, q⟩ := of_decide_eq_true z
    exact h e he (by omega)), outK, outK, List.map_append]; rfl
/-! ### the law's model in the heap -/
structure M6 where
  md : Addr
  bl : Addr
  nm : Addr
  pn : Addr
  tx : Addr
  L : List KE7
  B : Blbs
  N : List (Str × Str)
  n : Nat
  m : Nat
  U : List (Nat × Str)
def mdK (M : M6) : List (Key × V) := [(.inr "blobs", .ref M.bl), (.inr "names", .ref M.nm), (.inr "pins", .ref M.pn), (.inr "texts", .ref M.tx), (.inr "opened", .int (M.n : Int)), (.inr "last", .int (M.m : Int))]
def hdM (M : M6) : List Addr := [M.md, M.bl, M.nm, M.pn, M.tx]
structure MO (M : M6) (H : Hp) : Prop where
  hm : H M.md = some (.dK (mdK M))
  hb : DB H M.bl M.B
  hn : H M.nm = some (.dK (nmK M.N))
  hp : H M.pn = some (.dK (outK M.L))
  hl : ∀ e ∈ M.L, H e.li = some (.lst (e.xs.map V.str))
  ht : H M.tx = some (.dK (LW.tx M.U))
  al : (hdM M).Nodup
theorem MO.same {M : M6} {H H' : Hp} (h : MO M H) (s : Same H H') : MO M H' := ⟨s _ _ h.hm, h.hb.same s, s _ _ h.hn, s _ _ h.hp, fun e he => s _ _ (h.hl e he), s _ _ h.ht, h.al⟩
section
variable {M : M6} {H : Hp}
theorem MO.g1 (h : MO M H) : DGet H M.md (.str "blobs") (some (.ref M.bl)) := DGet.k (k := .inr "blobs") h.hm
theorem MO.g2 (h : MO M H) : DGet H M.md (.str "names") (some (.ref M.nm)) := DGet.k (k := .inr "names") h.hm
theorem MO.g3 (h : MO M H) : DGet H M.md (.str "pins") (some (.ref M.pn)) := DGet.k (k := .inr "pins") h.hm
theorem MO.g4 (h : MO M H) : DGet H M.md (.str "texts") (some (.ref M.tx)) := DGet.k (k := .inr "texts") h.hm
theorem MO.g5 (h : MO M H) : DGet H M.md (.str "opened") (some (.int (M.n : Int))) := DGet.k (k := .inr "opened") h.hm
theorem MO.g6 (h : MO M H) : DGet H M.md (.str "last") (some (.int (M.m : Int))) := DGet.k (k := .inr "last") h.hm
end
end LW
namespace LW
open PySem PySem.Spec PyProof.Rows L2 GxR
def sp_refs6 : Sp := fun vs H Q _ => ∃ x : Blb, vs = [.str x.1, .str x.2] ∧ Good x ∧ ∀ q H', H q = none → Same H H' → H' q = some (.lst ((refsOf x).map V.str)) → Q (.ref q) H'
def sp_whole6 (r : Nat) : Sp := fun vs H Q _ => ∃ (M : M6) (a : Str), vs = [.ref M.md, .str a] ∧ MO M H ∧ (∀ e ∈ M.B, Good e.2) ∧ 0 < r ∧ (∀ x, lk M.B a = some x → rk x.1 < r) ∧ ∀ H', Same H H' → Q (.bl (wholeN r M.B a)) H'
abbrev s_law_refs : Stmt := topS 44
abbrev N_law_refs : List Str := ["kind", "text", "lines", "line"]
abbrev P_law_refs : List Str := ["kind", "text"]
theorem sc_law_refs : FnScope N_law_refs P_law_refs (defScope s_law_refs) := ⟨rfl, rfl, rfl, by decide +kernel, rfl, by decide +kernel, by decide +kernel⟩
abbrev s_law_whole : Stmt := topS 45
abbrev N_law_whole : List Str := ["model", "address", "blobs", "kind", "text", "due", "other"]
abbrev P_law_whole : List Str := ["model", "address"]
theorem sc_law_whole : FnScope N_law_whole P_law_whole (defScope s_law_whole) := ⟨rfl, rfl, rfl, by decide +kernel, rfl, by decide +kernel, by decide +kernel⟩
section
variable {P : Program} {w : World} {K : PySem.W.Frag} {mg : Str → Option Value} {base : Heap} {cM cR : Addr} {c : CA}
theorem ok_law_refs {f : Addr} {fd : FuncData} (F : Fun K "_law_refs" "_law_refs" s_law_refs f fd) (T : Tx K mg cM cR c.U) (TC : Tc K mg c.C) (TK : Tk K mg c.K c.L) (TG : Tg K w mg c.G) : FnOk P w K mg base CX0 1 f fd P_law_refs sp_refs6 := by
  refine F.ok sc_law_refs (fun vs H Q E h => ?_) (fun cdv A outer s H vs Q E hr h => ?_)
  · obtain ⟨_, rfl, _⟩ := h
    rfl
  · obtain ⟨x, rfl, hg, q⟩ := h
    have nd := sc_law_refs.nd
    refine ⟨_, pss_cons (ps_set (i := 2) nd rfl (Or.inl rfl) (pe_split (pv 1) pe_str))
  (pss_cons (ps_if (pt_cmpR op_eq (pv 0) pe_str (nomark _))
    (pss_one (ps_ret (pe_lst pa_nil)))
    (pss_nil))
  (pss_cons (ps_if (pt_cmpR op_eq (pv 0) pe_str (nomark _))
    (pss_one (ps_ret (pe_slice sl_list (pv 2) (po_some pe_int) (po_some (pe_un un_neg pe_int)))))
    (pss_nil))
  (pss_one (ps_ret (pe_lc (own := [("line", 3)]) (g := gName 3) (tt := tYes) rfl nd (pi_list (pe_slice sl_list (pv 2) (po_some pe_int) (po_some (pe_un un_neg pe_int)))) (blkOk_by (N := N_law_refs) (sc := defScope s_law_refs) (by decide +kernel)) (fun _ _ _ _ _ => (pg_name (i := 3) nd rfl (Or.inl rfl))) (fun _ _ _ _ _ => pts_nil) (fun _ _ _ _ _ => (pe_ix (show IxR _ (rIxL K) from ix_list) (pe_split (pv 3) pe_str) pe_int (fun _ _ => rfl)))))))), ?_⟩
    have hsz : x.2.length + 2 ≤ sizeLine := by have := hg.1; rw [sizeLine_eq]; omega
    refine ⟨_, rfl, ⟨_, rfl⟩, x.2, nl, rfl, rfl, by decide +kernel, hsz, fun l nl' => ?_⟩
    obtain ⟨H1, eH1⟩ : ∃ H1, H1 = L2.upd H l (.lst ((Txt.split x.2 nl).map V.str)) := ⟨_, rfl⟩
    rw [← eH1]
    have hl : H1 l = some (.lst ((lns x.2).map V.str)) := by rw [eH1]; exact upd_same
    have s1 : Same H H1 := by rw [eH1]; exact same_upd nl'
    refine ⟨_, rfl, rfl, _, rfl, ?_⟩
    rw [eq_str]
    rcases hg.2.2 with e | ⟨e, ff⟩ | ⟨e, ff⟩
    · refine ite2 (fun _ => ?_) (fun z => absurd (decide_eq_true e) z)
      refine ⟨by show 0 ≤ sizeLine; decide, fun r nr => q r _ (s1.free nr) (s1.trans (same_upd nr)) ?_⟩
      rw [upd_same]
      have : refsOf x = [] := refs_layer (by rw [e]; decide +kernel)
      rw [this]; rfl
    · refine ite2 (fun z => absurd (e.symm.trans (of_decide_eq_true z)) (by decide)) (fun _ => ?_)
      refine ⟨_, rfl, rfl, _, rfl, ?_⟩
      rw [eq_str]
      refine ite2 (fun _ => ?_) (fun z => absurd (decide_eq_true e) z)
      refine ⟨.ref l, rfl, 1, rfl, 1, rfl, -1, rfl, l, _, rfl, SqL.of hl, fun r nr => q r _ (s1.free nr) (s1.trans (same_upd nr)) ?_⟩
      rw [upd_same, cut_mid V.str _ (fault_two ff)]
      have : refsOf x = mid (lns x.2) := by unfold refsOf; rw [if_pos e]
      rw [this]; rfl
    · refine ite2 (fun z => absurd (e.symm.trans (of_decide_eq_true z)) (by decide)) (fun _ => ?_)
      refine ⟨_, rfl, rfl, _, rfl, ?_⟩
      rw [eq_str]
      refine ite2 (fun z => absurd (e.symm.trans (of_decide_eq_true z)) (by decide)) (fun _ => ?_)
      refine ⟨.ref l, rfl, 1, rfl, 1, rfl, -1, rfl, l, _, rfl, SqL.of hl, fun r nr => ?_⟩
      rw [cut_mid V.str _ (fault_two ff)]
      obtain ⟨H2, eH2⟩ : ∃ H2, H2 = L2.upd H1 r (.lst (((lns x.2).drop 1).dropLast.map V.str)) := ⟨_, rfl⟩
      rw [← eH2]
      have hr2 : H2 r = some (.lst ((mid (lns x.2)).map V.str)) := by rw [eH2]; exact upd_same
      have s2 : Same H H2 := by rw [eH2]; exact s1.trans (same_upd nr)
      obtain ⟨f1, f2⟩ := fault_ok ff
      have ml : (mid (lns x.2)).length ≤ 50 := by rw [mid_len]; omega
      refine ⟨r, rfl, ⟨_, SqL.of hr2⟩, fun D nD => lc_it (walk_list (K := K) (a := r) (xs := (mid (lns x.2)).map V.str)) (fun i H' => Same H2 H' ∧ H' D = some (.lst ((((mid (lns x.2)).take i).map adr).map V.str))) ⟨same_upd nD, upd_same⟩ (fun i H' _ h => SqL.of (h.1 r _ hr2)) ?_ ?_⟩
      · rintro i v H3 H4 hi ⟨s3, h3⟩ ⟨rfl, hv⟩
        rw [List.getElem?_map] at hv
        cases ez : (mid (lns x.2))[i]? with
        | none => rw [ez] at hv; cases hv
        | some z =>
          rw [ez] at hv
          cases hv
          have hz : z ∈ mid (lns x.2) := List.mem_of_getElem? ez
          have hil : i < (mid (lns x.2)).length := (List.getElem?_eq_some_iff.mp ez).1
          have hadr : isAddr (adr z) = true := (refs_addr hg).1 (adr z) (by
            have : refsOf x = (mid (lns x.2)).map adr := by unfold refsOf; rw [e, if_neg (by decide), if_pos rfl]
            rw [this]; exact List.mem_map_of_mem hz)
          have hw : wds z = [nam z, adr z] := by
            rcases words_of z with h | ⟨_, h⟩
            · exact h
            · rw [hadr] at h; cases h
          have hzl : z.length ≤ x.2.length := lns_mem (mid_mem hz)
          refine ⟨rfl, tyes ⟨_, rfl, ⟨_, rfl⟩, z, sp, rfl, rfl, by decide +kernel, (by have := hg.1; rw [sizeLine_eq]; omega), fun m nm => ?_⟩⟩
          have nmD : D ≠ m := ne_of_none h3 nm
          refine ⟨m, _, 1, .str (adr z), rfl, rfl, SqL.of upd_same, ?_, _, by rw [upd_ne nmD]; exact h3, ?_, ?_, ?_⟩
          · show atI ((wds z).map V.str) 1 = _
            rw [hw]; rfl
          · rw [List.length_map, List.length_map, List.length_take, sizeLine_eq]; omega
          · refine fun b o hb => ?_
            by_cases hbD : b = D
            · subst hbD
              rw [nD] at hb; cases hb
            · rw [upd_ne hbD]; exact (s3.trans (same_upd nm)) b o hb
          · rw [upd_same, List.take_add_one, ez, List.map_append, List.map_append]
            rfl
      · rintro H3 ⟨s3, h3⟩
        refine q D H3 (s2.free nD) (s2.trans s3) ?_
        rw [List.length_map, List.take_length] at h3
        have : refsOf x = (mid (lns x.2)).map adr := by unfold refsOf; rw [e, if_neg (by decide), if_pos rfl]
        rw [this]; exact h3
theorem ok_law_whole {f : Addr} {fd : FuncData} {r L : Nat} (F : Fun K "_law_whole" "_law_whole" s_law_whole f fd) (T : Tx K mg cM cR c.U) (TC : Tc K mg c.C) (TK : Tk K mg c.K c.L) (TG : Tg K w mg c.G)
    (C__law_refs : Cal P w K mg base CX0 1 "_law_refs" P_law_refs sp_refs6)
    (C__law_whole : Cal P w K mg base CX0 L "_law_whole" P_law_whole (sp_whole6 r)) : FnOk P w K mg base CX0 (L + 2) f fd P_law_whole (sp_whole6 (r + 1)) := by
  refine F.ok sc_law_whole (fun vs H Q E h => ?_) (fun cdv A outer s H vs Q E hr h => ?_)
  · obtain ⟨_, _, rfl, _⟩ := h
    rfl
  · obtain ⟨M, a, rfl, mo, hgd, _, hk, q⟩ := h
    have nd := sc_law_whole.nd
    have hu := hu_of hr
    refine ⟨_, pss_cons (ps_set (i := 2) nd rfl (Or.inl rfl) (pe_dget hu (pv 0) pe_str (fun _ _ => rfl)))
  (pss_cons (ps_if (pt_cmp (pc_dnotin hu (pv 1) (pv 2)))
    (pss_one (ps_ret pe_bl))
    (pss_nil))
  (pss_cons (ps_asg (pe_dget hu (pv 2) (pv 1) (fun _ _ => rfl)) (pg_tup rfl (pgs_cons (pg_name (i := 3) nd rfl (Or.inl rfl)) (pgs_cons (pg_name (i := 4) nd rfl (Or.inl rfl)) pgs_nil))))
  (pss_cons (ps_set (i := 5) nd rfl (Or.inl rfl) (pe_dget hu (pe_disp (pps_cons pe_str pe_str (pps_cons pe_str pe_str (pps_cons pe_str pe_str pps_nil))) (by rfl) (by rfl) (fun z => by cases z) (by decide)) (pv 3) (fun _ _ => rfl)))
  (pss_cons (ps_for PassesOwn.never rfl (pi_list (pe_cal C__law_refs hr (pa_cons (pv 3) (pa_cons (pv 4) pa_nil)) (by rfl) (by omega))) (pg_name (i := 6) nd rfl (Or.inl rfl))
    (pss_one (ps_if (PW.pt (pw_or (pt_cmp (pc_dnotin hu (pv 6) (pv 2))) (pw_or (pt_cmpR op_ne (pe_ix ix_tup (pe_dget hu (pv 2) (pv 6) (fun _ _ => rfl)) pe_int (fun _ _ => rfl)) (pv 5) (nomark _)) (pw_or1 (pt_not (pt_val (pe_cal C__law_whole hr (pa_cons (pv 0) (pa_cons (pv 6) pa_nil)) (by rfl) (by omega))))))))
    (pss_one (ps_ret pe_bl))
    (pss_nil))))
  (pss_one (ps_ret pe_bl)))))), ?_⟩
    have S := mo.hb
    refine ⟨_, rfl, M.md, _, rfl, mo.g1, ?_⟩
    obtain ⟨ov, g, eg⟩ := S.isIn a
    refine ⟨_, rfl, _, rfl, M.bl, ov, rfl, g, ?_⟩
    rw [eg]
    cases ex : lk M.B a with
    | none =>
      refine ⟨true, rfl, iteT ?_⟩
      have := q H (Same.refl H)
      rw [wholeN_none ex] at this
      exact this
    | some x =>
      refine ⟨false, rfl, iteF ?_⟩
      have hg := hgd _ (lk_mem ex)
      have hrk := hk x ex
      obtain ⟨t, g2, ht⟩ := S.get ex
      refine ⟨_, rfl, _, rfl, M.bl, _, rfl, g2, t, _, rfl, SqT.of ht, rfl, _, _, rfl, _, _, rfl, rfl, ?_⟩
      refine fun m nm => ?_
      refine ⟨upd_same, [(.inr "layer", .str ""), (.inr "image", .str "layer"), (.inr "bundle", .str "image")], rfl, by show 3 ≤ 15; decide, ?_⟩
      rw [upd_upd]
      obtain ⟨H2, eH2⟩ : ∃ H2, H2 = L2.upd H m (.dK (mergeK [] [(.inr "layer", .str ""), (.inr "image", .str "layer"), (.inr "bundle", .str "image")])) := ⟨_, rfl⟩
      rw [← eH2]
      have hm : H2 m = some (.dK [(.inr "layer", .str ""), (.inr "image", .str "layer"), (.inr "bundle", .str "image")]) := by rw [eH2, upd_same]; rfl
      have s2 : Same H H2 := by rw [eH2]; exact same_upd nm
      have S2 := S.same s2
      have hdue : DGet H2 m (.str x.1) (some (.str (due x.1))) := by
        have key : valV ([(.inr "layer", .str ""), (.inr "image", .str "layer"), (.inr "bundle", .str "image")] : List (Key × V)) (.inr x.1) = some (.str (due x.1)) := by
          rcases hg.2.2 with e | ⟨e, _⟩ | ⟨e, _⟩ <;> rw [e] <;> rfl
        rw [← key]
        exact DGet.k (k := .inr x.1) hm
      refine ⟨_, rfl, m, _, rfl, hdue, ?_⟩
      refine ⟨_, rfl, _, rfl, x, rfl, hg, fun l H3 nl s3 hl => ?_⟩
      have s03 := s2.trans s3
      have hw := whole_iwo (r := r) ex
      refine ⟨l, rfl, ⟨_, SqL.of hl⟩, ?_⟩
      refine for_it (walk_list (K := K) (a := l) (xs := (refsOf x).map V.str)) (fun i σ H' => Same H3 H' ∧ (∀ z ∈ (refsOf x).take i, iwo r M.B (due x.1) z = true) ∧ ∃ v, σ = [some (.ref M.md), some (.str a), some (.ref M.bl), some (.str x.1), some (.str x.2), some (.str (due x.1)), v])
        ⟨Same.refl _, by simp, none, rfl⟩ (fun _ _ _ _ h => SqL.of (h.1 l _ hl)) ?_ ?_
      · rintro i v σ H4 H5 hi ⟨s4, hall, v0, rfl⟩ ⟨rfl, hv⟩
        rw [List.getElem?_map] at hv
        cases ez : (refsOf x)[i]? with
        | none => rw [ez] at hv; cases hv
        | some z =>
          rw [ez] at hv
          cases hv
          have hz : z ∈ refsOf x := List.mem_of_getElem? ez
          have ne : refsOf x ≠ [] := fun h => by rw [h] at hz; cases hz
          have s04 := s03.trans s4
          have S4 := S.same s04
          have hrd := rk_due (r := r) (by omega) ne
          have no : iwo r M.B (due x.1) z = false → ∀ H', Same H5 H' → Q (.bl false) H' := fun h H' s' => by
            have := q H' (s04.trans s')
            rw [hw, show ((refsOf x).all fun z => iwo r M.B (due x.1) z) = false from List.all_eq_false.mpr ⟨z, hz, by rw [h]; exact Bool.false_ne_true⟩] at this
            exact this
          obtain ⟨oz, gz, egz⟩ := S4.isIn z
          refine ⟨_, rfl, _, rfl, M.bl, oz, rfl, gz, ?_⟩
          rw [egz]
          unfold iwo at no
          cases ey : lk M.B z with
          | none =>
            rw [ey] at no
            exact ⟨true, rfl, iteT (iteT (no rfl H5 (Same.refl _)))⟩
          | some y =>
            rw [ey] at no
            dsimp only at no
            obtain ⟨t3, g4, ht3⟩ := S4.get ey
            refine ⟨false, rfl, iteF ⟨_, rfl, _, rfl, M.bl, _, rfl, g4, t3, [.str y.1, .str y.2], 0, .str y.1, rfl, rfl, SqT.of ht3, at2_0, _, rfl, rfl, _, rfl, ?_⟩⟩
            rw [neq_str]
            refine ite2 (fun e => ?_) (fun e => ?_)
            · refine iteT (no ?_ H5 (Same.refl _))
              rw [decide_eq_false (of_decide_eq_true e), Bool.false_and]
            · have ed : y.1 = due x.1 := Classical.not_not.mp (of_decide_eq_false (eq_false_of_ne_true e))
              refine ⟨_, rfl, _, rfl, M, z, rfl, mo.same s04, hgd, by omega, fun y' hy' => ?_, fun H6 s6 => ⟨_, rfl, ?_⟩⟩
              · rw [ey] at hy'; cases hy'
                rw [ed]; exact hrd
              · rw [decide_eq_true ed, Bool.true_and] at no
                cases hwz : wholeN r M.B z with
                | false => exact iteT (no hwz H6 s6)
                | true =>
                  refine iteF ⟨s4.trans s6, fun z' hz' => ?_, _, rfl⟩
                  rw [List.take_add_one, ez] at hz'
                  rcases List.mem_append.mp hz' with h1 | h1
                  · exact hall z' h1
                  · rw [List.mem_singleton.mp h1]
                    unfold iwo
                    rw [ey]
                    dsimp only
                    rw [decide_eq_true ed, hwz]; rfl
      · rintro σ H4 ⟨s4, hall, v0, rfl⟩
        have := q H4 (s03.trans s4)
        rw [List.length_map, List.take_length] at hall
        rw [hw, show ((refsOf x).all fun z => iwo r M.B (due x.1) z) = true from List.all_eq_true.mpr hall] at this
        exact this
end
end LW
namespace LW
open PySem PySem.Spec PyProof.Rows L2 GxR
def FM (M : M6) (z : Addr) : Prop := z ∈ hdM M
theorem MO.got {M : M6} {H : Hp} (h : MO M H) : ∀ z, FM M z → ∃ kvs, H z = some (.dK kvs) := by
  intro z hz
  obtain ⟨kb, eb, _⟩ := id h.hb
  have hz : z ∈ hdM M := hz
  simp only [hdM, List.mem_cons, List.not_mem_nil, or_false] at hz
  rcases hz with rfl | rfl | rfl | rfl | rfl
  · exact ⟨_, h.hm⟩
  · exact ⟨_, eb⟩
  · exact ⟨_, h.hn⟩
  · exact ⟨_, h.hp⟩
  · exact ⟨_, h.ht⟩
/-- a step of the model -/
structure MS (M M' : M6) (H H' : Hp) : Prop where
  mo : MO M' H'
  gr : GrS (FM M) H H'
  fr : ∀ z, FM M' z → FM M z ∨ H z = none
  fl : ∀ e ∈ M'.L, (∃ e0 ∈ M.L, e0.li = e.li) ∨ H e.li = none
  em : M'.md = M.md
theorem MS.refl {M : M6} {H : Hp} (h : MO M H) : MS M M H H := ⟨h, .refl _ _, fun _ z => .inl z, fun e he => .inl ⟨e, he, rfl⟩, rfl⟩
theorem MS.trans {M M1 M2 : M6} {H H1 H2 : Hp} (a : MS M M1 H H1) (b : MS M1 M2 H1 H2) : MS M M2 H H2 := by
  refine ⟨b.mo, ⟨fun z o n e t => b.gr.keep z o (fun q => ?_) (a.gr.keep z o n e t) t, fun z t => b.gr.tab z (a.gr.tab z t), fun z n => a.gr.free z (b.gr.free z n)⟩, fun z q => ?_, fun e he => ?_, b.em.trans a.em⟩
  · rcases a.fr z q with q | q
    · exact n q
    · rw [e] at q; cases q
  · rcases b.fr z q with q | q
    · exact a.fr z q
    · exact .inr (a.gr.free z q)
  · rcases b.fl e he with ⟨e1, h1, q⟩ | q
    · rw [← q]; exact a.fl e1 h1
    · exact .inr (a.gr.free _ q)
theorem MS.same {M : M6} {H H' : Hp} (h : MO M H) (s : Same H H') : MS M M H H' := ⟨h.same s, .same s, fun _ z => .inl z, fun e he => .inl ⟨e, he, rfl⟩, rfl⟩
/-- other addresses are written -/
theorem MO.move {M : M6} {H H' : Hp} {F : Addr → Prop} (h : MO M H) (g : GrS F H H') (n : ∀ z, FM M z → ¬ F z) (nl : ∀ e ∈ M.L, ¬ F e.li) (nt : ∀ b xs, H b = some (.tup xs) → ¬ F b) : MO M H' := by
  have m : ∀ {i : Nat} {x : Addr}, (hdM M)[i]? = some x → ¬ F x := fun hi => n _ (List.mem_of_getElem? hi)
  exact ⟨g.keep _ _ (m (i := 0) rfl) h.hm (fun _ q => nomatch q), h.hb.keep (fun kvs e => g.keep _ _ (m (i := 1) rfl) e (fun _ q => nomatch q)) (fun u xs e => g.keep u _ (nt u xs e) e (fun _ q => nomatch q)), g.keep _ _ (m (i := 2) rfl) h.hn (fun _ q => nomatch q), g.keep _ _ (m (i := 3) rfl) h.hp (fun _ q => nomatch q), fun e he => g.keep _ _ (nl e he) (h.hl e he) (fun _ q => nomatch q), g.keep _ _ (m (i := 4) rfl) h.ht (fun _ q => nomatch q), h.al⟩
section
variable {M : M6} {H : Hp}
theorem MO.names (h : MO M H) (N' : List (Str × Str)) : MS M { M with N := N' } H (L2.upd H M.nm (.dK (nmK N'))) := by
  have ex : ∃ kvs, H M.nm = some (.dK kvs) := h.got _ (List.mem_of_getElem? (i := 2) rfl)
  obtain ⟨kx, ex⟩ := ex
  have g : GrS (fun z => z = M.nm) H (L2.upd H M.nm (.dK (nmK N'))) := .put rfl ex (fun _ q => nomatch q)
  exact ⟨⟨g.keep _ _ (nd_ne h.al (i := 0) (j := 2) rfl rfl (by decide)) h.hm (fun _ q => nomatch q), h.hb.keep (fun kvs e => g.keep _ _ (nd_ne h.al (i := 1) (j := 2) rfl rfl (by decide)) e (fun _ q => nomatch q)) (fun u xs e => g.keep u _ (ne_of e ex (by intro z; cases z)) e (fun _ q => nomatch q)), upd_same, g.keep _ _ (nd_ne h.al (i := 3) (j := 2) rfl rfl (by decide)) h.hp (fun _ q => nomatch q), fun e he => g.keep _ _ (ne_of (h.hl e he) ex (by intro z; cases z)) (h.hl e he) (fun _ q => nomatch q), g.keep _ _ (nd_ne h.al (i := 4) (j := 2) rfl rfl (by decide)) h.ht (fun _ q => nomatch q), h.al⟩, g.weak fun z e => by rw [e]; exact List.mem_of_getElem? (i := 2) rfl, fun _ z => .inl z, fun e he => .inl ⟨e, he, rfl⟩, rfl⟩
theorem MO.pins (h : MO M H) (L' : List KE7) (hL : ∀ e ∈ L', H e.li = some (.lst (e.xs.map V.str))) {H0 : Hp} (g0 : Same H0 H) (hf : ∀ e ∈ L', (∃ e0 ∈ M.L, e0.li = e.li) ∨ H0 e.li = none) : MS M { M with L := L' } H0 (L2.upd H M.pn (.dK (outK L'))) := by
  have ex : ∃ kvs, H M.pn = some (.dK kvs) := h.got _ (List.mem_of_getElem? (i := 3) rfl)
  obtain ⟨kx, ex⟩ := ex
  have g : GrS (fun z => z = M.pn) H (L2.upd H M.pn (.dK (outK L'))) := .put rfl ex (fun _ q => nomatch q)
  exact ⟨⟨g.keep _ _ (nd_ne h.al (i := 0) (j := 3) rfl rfl (by decide)) h.hm (fun _ q => nomatch q), h.hb.keep (fun kvs e => g.keep _ _ (nd_ne h.al (i := 1) (j := 3) rfl rfl (by decide)) e (fun _ q => nomatch q)) (fun u xs e => g.keep u _ (ne_of e ex (by intro z; cases z)) e (fun _ q => nomatch q)), g.keep _ _ (nd_ne h.al (i := 2) (j := 3) rfl rfl (by decide)) h.hn (fun _ q => nomatch q), upd_same, fun e he => g.keep _ _ (ne_of (hL e he) ex (by intro z; cases z)) (hL e he) (fun _ q => nomatch q), g.keep _ _ (nd_ne h.al (i := 4) (j := 3) rfl rfl (by decide)) h.ht (fun _ q => nomatch q), h.al⟩, (GrS.same g0).trans <| g.weak fun z e => by rw [e]; exact List.mem_of_getElem? (i := 3) rfl, fun _ z => .inl z, hf, rfl⟩
theorem MO.texts (h : MO M H) (U' : List (Nat × Str)) : MS M { M with U := U' } H (L2.upd H M.tx (.dK (LW.tx U'))) := by
  have ex : ∃ kvs, H M.tx = some (.dK kvs) := h.got _ (List.mem_of_getElem? (i := 4) rfl)
  obtain ⟨kx, ex⟩ := ex
  have g : GrS (fun z => z = M.tx) H (L2.upd H M.tx (.dK (LW.tx U'))) := .put rfl ex (fun _ q => nomatch q)
  exact ⟨⟨g.keep _ _ (nd_ne h.al (i := 0) (j := 4) rfl rfl (by decide)) h.hm (fun _ q => nomatch q), h.hb.keep (fun kvs e => g.keep _ _ (nd_ne h.al (i := 1) (j := 4) rfl rfl (by decide)) e (fun _ q => nomatch q)) (fun u xs e => g.keep u _ (ne_of e ex (by intro z; cases z)) e (fun _ q => nomatch q)), g.keep _ _ (nd_ne h.al (i := 2) (j := 4) rfl rfl (by decide)) h.hn (fun _ q => nomatch q), g.keep _ _ (nd_ne h.al (i := 3) (j := 4) rfl rfl (by decide)) h.hp (fun _ q => nomatch q), fun e he => g.keep _ _ (ne_of (h.hl e he) ex (by intro z; cases z)) (h.hl e he) (fun _ q => nomatch q), upd_same, h.al⟩, g.weak fun z e => by rw [e]; exact List.mem_of_getElem? (i := 4) rfl, fun _ z => .inl z, fun e he => .inl ⟨e, he, rfl⟩, rfl⟩
theorem MO.nums (h : MO M H) (n' m' : Nat) : MS M { M with n := n', m := m' } H (L2.upd H M.md (.dK (mdK { M with n := n', m := m' }))) := by
  have ex : ∃ kvs, H M.md = some (.dK kvs) := h.got _ (List.mem_of_getElem? (i := 0) rfl)
  obtain ⟨kx, ex⟩ := ex
  have g : GrS (fun z => z = M.md) H (L2.upd H M.md (.dK (mdK { M with n := n', m := m' }))) := .put rfl ex (fun _ q => nomatch q)
  exact ⟨⟨upd_same, h.hb.keep (fun kvs e => g.keep _ _ (nd_ne h.al (i := 1) (j := 0) rfl rfl (by decide)) e (fun _ q => nomatch q)) (fun u xs e => g.keep u _ (ne_of e ex (by intro z; cases z)) e (fun _ q => nomatch q)), g.keep _ _ (nd_ne h.al (i := 2) (j := 0) rfl rfl (by decide)) h.hn (fun _ q => nomatch q), g.keep _ _ (nd_ne h.al (i := 3) (j := 0) rfl rfl (by decide)) h.hp (fun _ q => nomatch q), fun e he => g.keep _ _ (ne_of (h.hl e he) ex (by intro z; cases z)) (h.hl e he) (fun _ q => nomatch q), g.keep _ _ (nd_ne h.al (i := 4) (j := 0) rfl rfl (by decide)) h.ht (fun _ q => nomatch q), h.al⟩, g.weak fun z e => by rw [e]; exact List.mem_of_getElem? (i := 0) rfl, fun _ z => .inl z, fun e he => .inl ⟨e, he, rfl⟩, rfl⟩
end
end LW
namespace LW
open PySem PySem.Spec PyProof.Rows L2 GxR
section
variable {M : M6} {H : Hp}
theorem put_pins (M : M6) (p : Addr) : putK (mdK M) (.inr "pins") (.ref p) = mdK { M with pn := p } := rfl
theorem put_names (M : M6) (p : Addr) : putK (mdK M) (.inr "names") (.ref p) = mdK { M with nm := p } := rfl
theorem put_texts (M : M6) (p : Addr) : putK (mdK M) (.inr "texts") (.ref p) = mdK { M with tx := p } := rfl
theorem put_opened (M : M6) (n : Nat) : putK (mdK M) (.inr "opened") (.int (n : Int)) = mdK { M with n := n } := rfl
theorem put_last (M : M6) (n : Nat) : putK (mdK M) (.inr "last") (.int (n : Int)) = mdK { M with m := n } := rfl
theorem MO.blobs (h : MO M H) {p : Addr} (np : H p = none) (ad : Str) (x : Blb) : ∃ kvs, (L2.upd H p (.tup [.str x.1, .str x.2])) M.bl = some (.dK kvs) ∧ kvs.length = M.B.length ∧ MS M { M with B := setB M.B ad x } H (L2.upd (L2.upd H p (.tup [.str x.1, .str x.2])) M.bl (.dK (putK kvs (.inr ad) (.ref p)))) := by
  have s1 := same_upd np (o := .tup [.str x.1, .str x.2])
  have h1 := h.same s1
  have hp1 : (L2.upd H p (.tup [.str x.1, .str x.2])) p = _ := upd_same
  generalize L2.upd H p (.tup [.str x.1, .str x.2]) = H1 at s1 h1 hp1
  obtain ⟨kvs, eb, pb⟩ := id h1.hb
  have g : GrS (fun z => z = M.bl) H1 (L2.upd H1 M.bl (.dK (putK kvs (.inr ad) (.ref p)))) := .put rfl eb (fun _ q => nomatch q)
  have tk : ∀ u xs, H1 u = some (.tup xs) → (L2.upd H1 M.bl (.dK (putK kvs (.inr ad) (.ref p)))) u = some (.tup xs) := fun u xs e => by rw [upd_ne (ne_of e eb (by intro z; cases z))]; exact e
  refine ⟨kvs, eb, prd_len pb, ⟨?_, (GrS.same s1).trans (g.weak fun z e => by rw [e]; exact List.mem_of_getElem? (i := 1) rfl), fun _ z => .inl z, fun e he => .inl ⟨e, he, rfl⟩, rfl⟩⟩
  exact ⟨g.keep _ _ (nd_ne h.al (i := 0) (j := 1) rfl rfl (by decide)) h1.hm (fun _ q => nomatch q), ⟨_, upd_same, put_prd pb tk (tk _ _ hp1)⟩, g.keep _ _ (nd_ne h.al (i := 2) (j := 1) rfl rfl (by decide)) h1.hn (fun _ q => nomatch q), g.keep _ _ (nd_ne h.al (i := 3) (j := 1) rfl rfl (by decide)) h1.hp (fun _ q => nomatch q), fun e he => g.keep _ _ (ne_of (h1.hl e he) eb (by intro z; cases z)) (h1.hl e he) (fun _ q => nomatch q), g.keep _ _ (nd_ne h.al (i := 4) (j := 1) rfl rfl (by decide)) h1.ht (fun _ q => nomatch q), h.al⟩
theorem MO.new (h : MO M H) {p : Addr} (n : H p = none) : p ∉ hdM M := fun z => by
  obtain ⟨kvs, e⟩ := h.got p z
  rw [n] at e; cases e
/-- the model's dict leads to another dict of pins -/
theorem MO.pinsP (h : MO M H) {p : Addr} (nM : p ∉ hdM M) {L' : List KE7} (hp : H p = some (.dK (outK L'))) (hL : ∀ e ∈ L', H e.li = some (.lst (e.xs.map V.str))) {H0 : Hp} (n0 : H0 p = none) (g0 : Same H0 H) (hf : ∀ e ∈ L', (∃ e0 ∈ M.L, e0.li = e.li) ∨ H0 e.li = none) : MS M { M with pn := p, L := L' } H0 (L2.upd H M.md (.dK (mdK { M with pn := p, L := L' }))) := by
  have g : GrS (fun z => z = M.md) H (L2.upd H M.md (.dK (mdK { M with pn := p, L := L' }))) := .put rfl h.hm (fun _ q => nomatch q)
  have pm : p ≠ M.md := fun e => nM (e ▸ List.mem_of_getElem? (i := 0) rfl)
  have tk : ∀ u xs, H u = some (.tup xs) → (L2.upd H M.md (.dK (mdK { M with pn := p, L := L' }))) u = some (.tup xs) := fun u xs e => by rw [upd_ne (ne_of e h.hm (by intro z; cases z))]; exact e
  refine ⟨⟨upd_same, h.hb.keep (fun kvs e => g.keep _ _ (nd_ne h.al (i := 1) (j := 0) rfl rfl (by decide)) e (fun _ q => nomatch q)) tk, g.keep _ _ (nd_ne h.al (i := 2) (j := 0) rfl rfl (by decide)) h.hn (fun _ q => nomatch q), g.keep _ _ pm hp (fun _ q => nomatch q), fun e he => g.keep _ _ (ne_of (hL e he) h.hm (by intro z; cases z)) (hL e he) (fun _ q => nomatch q), g.keep _ _ (nd_ne h.al (i := 4) (j := 0) rfl rfl (by decide)) h.ht (fun _ q => nomatch q), ?_⟩, (GrS.same g0).trans (g.weak fun z e => by rw [e]; exact List.mem_of_getElem? (i := 0) rfl), fun z q => ?_, hf, rfl⟩
  · exact nodup_set h.al nM 3
  · rcases List.mem_or_eq_of_mem_set (show z ∈ (hdM M).set 3 p from q) with q | q
    · exact .inl q
    · rw [q]; exact .inr n0
theorem MO.namesP (h : MO M H) {p : Addr} (nM : p ∉ hdM M) {N' : List (Str × Str)} (hp : H p = some (.dK (nmK N'))) {H0 : Hp} (n0 : H0 p = none) (g0 : Same H0 H) : MS M { M with nm := p, N := N' } H0 (L2.upd H M.md (.dK (mdK { M with nm := p, N := N' }))) := by
  have g : GrS (fun z => z = M.md) H (L2.upd H M.md (.dK (mdK { M with nm := p, N := N' }))) := .put rfl h.hm (fun _ q => nomatch q)
  have pm : p ≠ M.md := fun e => nM (e ▸ List.mem_of_getElem? (i := 0) rfl)
  have tk : ∀ u xs, H u = some (.tup xs) → (L2.upd H M.md (.dK (mdK { M with nm := p, N := N' }))) u = some (.tup xs) := fun u xs e => by rw [upd_ne (ne_of e h.hm (by intro z; cases z))]; exact e
  refine ⟨⟨upd_same, h.hb.keep (fun kvs e => g.keep _ _ (nd_ne h.al (i := 1) (j := 0) rfl rfl (by decide)) e (fun _ q => nomatch q)) tk, g.keep _ _ pm hp (fun _ q => nomatch q), g.keep _ _ (nd_ne h.al (i := 3) (j := 0) rfl rfl (by decide)) h.hp (fun _ q => nomatch q), fun e he => g.keep _ _ (ne_of (h.hl e he) h.hm (by intro z; cases z)) (h.hl e he) (fun _ q => nomatch q), g.keep _ _ (nd_ne h.al (i := 4) (j := 0) rfl rfl (by decide)) h.ht (fun _ q => nomatch q), ?_⟩, (GrS.same g0).trans (g.weak fun z e => by rw [e]; exact List.mem_of_getElem? (i := 0) rfl), fun z q => ?_, fun e he => .inl ⟨e, he, rfl⟩, rfl⟩
  · exact nodup_set h.al nM 2
  · rcases List.mem_or_eq_of_mem_set (show z ∈ (hdM M).set 2 p from q) with q | q
    · exact .inl q
    · rw [q]; exact .inr n0
theorem MO.textsP (h : MO M H) {p : Addr} (nM : p ∉ hdM M) {U' : List (Nat × Str)} (hp : H p = some (.dK (LW.tx U'))) {H0 : Hp} (n0 : H0 p = none) (g0 : Same H0 H) : MS M { M with tx := p, U := U' } H0 (L2.upd H M.md (.dK (mdK { M with tx := p, U := U' }))) := by
  have g : GrS (fun z => z = M.md) H (L2.upd H M.md (.dK (mdK { M with tx := p, U := U' }))) := .put rfl h.hm (fun _ q => nomatch q)
  have pm : p ≠ M.md := fun e => nM (e ▸ List.mem_of_getElem? (i := 0) rfl)
  have tk : ∀ u xs, H u = some (.tup xs) → (L2.upd H M.md (.dK (mdK { M with tx := p, U := U' }))) u = some (.tup xs) := fun u xs e => by rw [upd_ne (ne_of e h.hm (by intro z; cases z))]; exact e
  refine ⟨⟨upd_same, h.hb.keep (fun kvs e => g.keep _ _ (nd_ne h.al (i := 1) (j := 0) rfl rfl (by decide)) e (fun _ q => nomatch q)) tk, g.keep _ _ (nd_ne h.al (i := 2) (j := 0) rfl rfl (by decide)) h.hn (fun _ q => nomatch q), g.keep _ _ (nd_ne h.al (i := 3) (j := 0) rfl rfl (by decide)) h.hp (fun _ q => nomatch q), fun e he => g.keep _ _ (ne_of (h.hl e he) h.hm (by intro z; cases z)) (h.hl e he) (fun _ q => nomatch q), g.keep _ _ pm hp (fun _ q => nomatch q), ?_⟩, (GrS.same g0).trans (g.weak fun z e => by rw [e]; exact List.mem_of_getElem? (i := 0) rfl), fun z q => ?_, fun e he => .inl ⟨e, he, rfl⟩, rfl⟩
  · exact nodup_set h.al nM 4
  · rcases List.mem_or_eq_of_mem_set (show z ∈ (hdM M).set 4 p from q) with q | q
    · exact .inl q
    · rw [q]; exact .inr n0
end
end LW
namespace LW
open PySem PySem.Spec PyProof.Rows L2 GxR
def sp_kept6 : Sp := fun vs H Q _ => ∃ (M : M6) (cl : Int) (ad : Str) (e0 : KE7), vs = [.ref M.md, .int cl, .str ad] ∧ MO M H ∧ e0 ∈ M.L ∧ (e0.i : Int) = cl ∧ (M.L.map (·.i)).Nodup ∧ e0.xs.length ≤ 5000 ∧ M.L.length ≤ 5000 ∧ ∀ p v H', MS M { M with L := kadL M.L cl p ad } H H' → Rep H' v [.inr "kept", .inr ad] → Q v H'
def sp_without6 : Sp := fun vs H Q _ => ∃ (d : Addr) (kvs : List (Key × V)) (k : Key), vs = [.ref d, kV k] ∧ H d = some (.dK kvs) ∧ (kvs.map (·.1)).Nodup ∧ kvs.length ≤ 5000 ∧ ∀ p H', H p = none → Same H H' → H' p = some (.dK (kvs.filter fun e => decide (e.1 ≠ k))) → Q (.ref p) H'
theorem kV_eq (a b : Key) : decide (kV a = kV b) = decide (a = b) := decide_eq_decide.mpr ⟨fun h => kV_inj h, fun h => by rw [h]⟩
theorem val_at : ∀ {kvs : List (Key × V)} {i : Nat} {k : Key} {v : V}, (kvs.map (·.1)).Nodup → kvs[i]? = some (k, v) → valV kvs k = some v
  | [], _, _, _, _, h => by cases h
  | (k0, v0) :: r, 0, k, v, _, h => by
    cases h
    exact valV_pos rfl
  | (k0, v0) :: r, i + 1, k, v, nd, h => by
    obtain ⟨n1, n2⟩ := List.nodup_cons.mp nd
    have h : r[i]? = some (k, v) := h
    have z : ¬ k0 = k := fun z => n1 (List.mem_map.mpr ⟨(k, v), List.mem_of_getElem? h, z.symm⟩)
    rw [valV_neg z]
    exact val_at n2 h
theorem val_none : ∀ {kvs : List (Key × V)} {k : Key}, k ∉ kvs.map (·.1) → valV kvs k = none
  | [], _, _ => rfl
  | (k0, v0) :: r, k, h => by
    have z : ¬ k0 = k := fun z => h (List.mem_map.mpr ⟨(k0, v0), List.mem_cons_self, z⟩)
    rw [valV_neg z]
    exact val_none fun z => h (List.mem_cons_of_mem _ z)
theorem take_snoc {α : Type} {xs : List α} {i : Nat} {t : α} (h : xs[i]? = some t) : xs.take (i + 1) = xs.take i ++ [t] := by
  rw [List.take_succ, h]; rfl
theorem kval {L : List KE7} (nd : (L.map (·.i)).Nodup) {e : KE7} (he : e ∈ L) {cl : Int} (h : (e.i : Int) = cl) : valV (outK L) (.inl cl) = some (.ref e.li) := by rw [← h]; exact ok_val nd he
theorem kadL_at {L : List KE7} {cl : Int} {p : Addr} {ad : Str} {e0 : KE7} (he0 : e0 ∈ L) (hcl : (e0.i : Int) = cl) (nd : (L.map (·.i)).Nodup) {H : Hp} (hl : ∀ e ∈ L, H e.li = some (.lst (e.xs.map V.str))) (hp : H p = some (.lst ((e0.xs ++ [ad]).map V.str))) : ∀ e ∈ kadL L cl p ad, H e.li = some (.lst (e.xs.map V.str)) := fun e he => by
  obtain ⟨e1, he1, rfl⟩ := List.mem_map.mp he
  by_cases z : (e1.i : Int) = cl
  · rw [if_pos z]
    have : e1 = e0 := by
      obtain ⟨i, hi, ei⟩ := List.mem_iff_getElem.mp he1
      obtain ⟨j, hj, ej⟩ := List.mem_iff_getElem.mp he0
      have : i = j := (List.getElem_inj (h₀ := by rw [List.length_map]; exact hi) (h₁ := by rw [List.length_map]; exact hj) nd).mp (by rw [List.getElem_map, List.getElem_map, ei, ej]; omega)
      subst this
      rw [← ei, ← ej]
    rw [this]; exact hp
  · rw [if_neg z]; exact hl e1 he1
abbrev s_law_kept : Stmt := topS 46
abbrev N_law_kept : List Str := ["model", "claim", "address", "pins"]
abbrev P_law_kept : List Str := ["model", "claim", "address"]
theorem sc_law_kept : FnScope N_law_kept P_law_kept (defScope s_law_kept) := ⟨rfl, rfl, rfl, by decide +kernel, rfl, by decide +kernel, by decide +kernel⟩
abbrev s_law_without : Stmt := topS 51
abbrev N_law_without : List Str := ["things", "key", "result", "other"]
abbrev P_law_without : List Str := ["things", "key"]
theorem sc_law_without : FnScope N_law_without P_law_without (defScope s_law_without) := ⟨rfl, rfl, rfl, by decide +kernel, rfl, by decide +kernel, by decide +kernel⟩
section
variable {P : Program} {w : World} {K : PySem.W.Frag} {mg : Str → Option Value} {base : Heap} {cM cR : Addr} {c : CA}
theorem ok_law_kept {f : Addr} {fd : FuncData} (F : Fun K "_law_kept" "_law_kept" s_law_kept f fd) (T : Tx K mg cM cR c.U) (TC : Tc K mg c.C) (TK : Tk K mg c.K c.L) (TG : Tg K w mg c.G) : FnOk P w K mg base CX0 1 f fd P_law_kept sp_kept6 := by
  refine F.ok sc_law_kept (fun vs H Q E h => ?_) (fun cdv A outer s H vs Q E hr h => ?_)
  · obtain ⟨_, _, _, _, rfl, _⟩ := h
    rfl
  · obtain ⟨M, cl, ad, e0, rfl, mo, he0, hcl, ndL, lx, lL, q⟩ := h
    have nd := sc_law_kept.nd
    have hu := hu_of hr
    refine ⟨_, pss_cons (ps_set (i := 3) nd rfl (Or.inl rfl) (pe_dget hu (pv 0) pe_str (fun _ _ => rfl)))
  (pss_cons (ps_dput hu (pv 3) (pv 1) (pe_op op_cat (pe_dget hu (pv 3) (pv 1) (fun _ _ => rfl)) (pe_lst (pa_cons (pv 2) pa_nil))) rfl)
  (pss_one (ps_ret (pe_tup (pa_cons pe_str (pa_cons (pv 2) pa_nil)))))), ?_⟩
    have dgt : ∀ {H'}, MO M H' → DGet H' M.pn (.int cl) (some (.ref e0.li)) := fun mo => by rw [← kval ndL he0 hcl]; exact DGet.k (k := .inl cl) mo.hp
    refine ⟨_, rfl, M.md, _, rfl, mo.g3, ?_⟩
    refine ⟨_, rfl, _, rfl, M.pn, .ref e0.li, rfl, dgt mo, _, rfl, by show 1 ≤ sizeLine; decide, fun q1 nq1 => ?_⟩
    have s1 := same_upd nq1 (o := .lst [.str ad])
    have h1 := mo.same s1
    have hq1 : (L2.upd H q1 (.lst [.str ad])) q1 = _ := upd_same
    generalize L2.upd H q1 (.lst [.str ad]) = H1 at s1 h1 hq1
    refine ⟨e0.li, q1, _, _, rfl, rfl, h1.hl e0 he0, hq1, by rw [List.length_map, sizeLine_eq]; simp only [List.length_cons, List.length_nil]; omega, fun q2 nq2 => ?_⟩
    have s2 := same_upd nq2 (o := .lst (e0.xs.map V.str ++ [.str ad]))
    have h2 := h1.same s2
    have hq2 : (L2.upd H1 q2 (.lst (e0.xs.map V.str ++ [.str ad]))) q2 = some (.lst ((e0.xs ++ [ad]).map V.str)) := by rw [upd_same, List.map_append]; rfl
    generalize L2.upd H1 q2 (.lst (e0.xs.map V.str ++ [.str ad])) = H2 at s2 h2 hq2
    refine ⟨_, rfl, _, rfl, M.pn, _, rfl, DPut.k (k := .inl cl) h2.hp (by rw [outK, List.length_map, sizeLine_eq]; omega), ?_⟩
    rw [outK_add ⟨e0, he0, hcl⟩ q2 ad]
    have st := h2.pins (kadL M.L cl q2 ad) (kadL_at he0 hcl ndL h2.hl hq2) (s1.trans s2) fun e he => by
      obtain ⟨e1, he1, rfl⟩ := List.mem_map.mp he
      by_cases z : (e1.i : Int) = cl
      · rw [if_pos z]; exact .inr (s1.free nq2)
      · rw [if_neg z]; exact .inl ⟨e1, he1, rfl⟩
    refine ⟨_, rfl, by show 2 ≤ sizeLine; decide, fun t nt => q q2 _ _ (st.trans (.same st.mo (same_upd nt))) ⟨t, rfl, upd_same⟩⟩
theorem ok_law_without {f : Addr} {fd : FuncData} (F : Fun K "_law_without" "_law_without" s_law_without f fd) (T : Tx K mg cM cR c.U) (TC : Tc K mg c.C) (TK : Tk K mg c.K c.L) (TG : Tg K w mg c.G) : FnOk P w K mg base CX0 1 f fd P_law_without sp_without6 := by
  refine F.ok sc_law_without (fun vs H Q E h => ?_) (fun cdv A outer s H vs Q E hr h => ?_)
  · obtain ⟨_, _, _, rfl, _⟩ := h
    rfl
  · obtain ⟨d, kvs, k, rfl, hd, ndk, lk0, q⟩ := h
    have nd := sc_law_without.nd
    have hu := hu_of hr
    refine ⟨_, pss_cons (ps_set (i := 2) nd rfl (Or.inl rfl) pe_dnewK)
  (pss_cons (ps_lock (ps_for PassesOwn.never rfl (pi_keys (pv 0)) (pg_name (i := 3) nd rfl (Or.inl rfl))
    (pss_one (ps_if (pt_cmpR op_ne (pv 3) (pv 1) (nomark _))
    (pss_one (ps_dput hu (pv 2) (pv 3) (pe_dget hu (pv 0) (pv 3) (fun _ _ => rfl)) rfl))
    (pss_nil)))))
  (pss_one (ps_ret (pv 2)))), ?_⟩
    refine fun D nD => ?_
    have dD : d ≠ D := ne_of_none hd nD
    have s1 := same_upd nD (o := .dK [])
    have hd1 := s1 _ _ hd
    have hD1 : (L2.upd H D (.dK [])) D = _ := upd_same
    generalize L2.upd H D (.dK []) = H1 at s1 hd1 hD1
    refine ⟨d, .dK kvs, hd1, True.intro, fun od => ?_⟩
    have hl : (L2.upd H1 d (.frz od (.dK kvs))) d = some (.frz od (.dK kvs)) := upd_same
    have hDl : (L2.upd H1 d (.frz od (.dK kvs))) D = some (.dK []) := by rw [upd_ne dD.symm]; exact hD1
    generalize eHl : L2.upd H1 d (.frz od (.dK kvs)) = Hl at hl hDl
    refine ⟨_, rfl, d, od, rfl, .inl ⟨kvs, hl, ?_⟩⟩
    refine for_it (walk_keys (d := d) (o := od) (kvs := kvs)) (fun j σ H' => Kp (fun z => z = D) Hl H' ∧ H' D = some (.dK ((kvs.take j).filter fun e => decide (e.1 ≠ k))) ∧ ∃ v3, σ = [some (.ref d), some (kV k), some (.ref D), v3]) ⟨.refl _ _, hDl, none, rfl⟩ (fun j σ H' _ z => z.1.keep d _ dD hl) ?_ ?_
    · rintro j v σ H3 H4 hj ⟨k3, h3, v3, rfl⟩ ⟨rfl, k0, v0, hk, rfl⟩
      have hd4 := k3.keep d _ dD hl
      refine ⟨_, rfl, _, rfl, by cases k0 <;> cases k <;> rfl, _, rfl, ?_⟩
      rw [kV_eq]
      by_cases z : k0 = k
      · rw [decide_eq_true z]
        refine iteF ⟨k3, ?_, _, rfl⟩
        rw [take_snoc hk, List.filter_append, h3, List.filter_cons, if_neg (by simp [z])]
        simp
      · rw [decide_eq_false z]
        have dg : DGet H4 d (kV k0) (some v0) := .inl ⟨kvs, k0, .inr ⟨od, hd4⟩, rfl, (val_at ndk hk).symm⟩
        refine iteT ⟨_, rfl, _, rfl, d, v0, rfl, dg, _, rfl, _, rfl, D, _, rfl, DPut.k (k := k0) h3 ?_, ?_⟩
        · have := List.length_filter_le (fun e : Key × V => decide (e.1 ≠ k)) (kvs.take j)
          rw [List.length_take] at this
          rw [sizeLine_eq]; omega
        refine ⟨k3.put rfl (by rw [h3]; exact fun z => by cases z), ?_, _, rfl⟩
        rw [upd_same, putK_new _ ?_, take_snoc hk, List.filter_append, List.filter_cons, if_pos (by simpa using z)]
        · rfl
        · refine val_none fun hin => ?_
          obtain ⟨e, he, ek⟩ := List.mem_map.mp hin
          obtain ⟨i, hi, ei⟩ := List.mem_iff_getElem.mp (List.mem_filter.mp he).1
          rw [List.length_take] at hi
          rw [List.getElem_take] at ei
          have hj' : j < kvs.length := hj
          have e2 : kvs[j] = (k0, v0) := by
            have := List.getElem?_eq_getElem hj'
            rw [hk] at this
            exact (Option.some.inj this).symm
          have : i = j := (List.getElem_inj (h₀ := by rw [List.length_map]; omega) (h₁ := by rw [List.length_map]; exact hj') ndk).mp (by rw [List.getElem_map, List.getElem_map, e2]; show kvs[i].1 = k0; rw [ei]; exact ek)
          omega
    · rintro σ H3 ⟨k3, h3, v3, rfl⟩
      refine ⟨k3.keep d _ dD hl, ?_⟩
      rw [List.take_length] at h3
      have s13 : Same H (L2.upd H3 d (.dK kvs)) := fun b o e => by
        by_cases hb : b = d
        · rw [hb, upd_same]; rw [hb, hd] at e; exact e
        · rw [upd_ne hb]
          exact k3.keep b o (ne_of_none e nD) (by rw [← eHl, upd_ne hb]; exact s1 _ _ e)
      exact ⟨_, rfl, q D _ nD s13 (by rw [upd_ne dD.symm]; exact h3)⟩
end
end LW
namespace LW
open PySem PySem.Spec PyProof.Rows L2 GxR
/-- the registry and the law's model tell the same, after i turns -/
structure E6 (i : Nat) (A : Ab) (M : M6) : Prop where
  b : M.B = A.B
  n : M.N = A.N
  c : M.n = A.n
  m : M.m = A.m
  u : M.U = A.U
  ids : M.L.map (·.i) = A.P.map (·.1)
  eq : ∀ e ∈ M.L, ∀ p ∈ A.P, p.1 = e.i → ∀ y, y ∈ e.xs ↔ y ∈ p.2
  nd : (A.P.map (·.1)).Nodup
  lP : ∀ e ∈ A.P, e.1 ≤ A.n
  lx : ∀ e ∈ M.L, e.xs.length ≤ i
  sm : (M.L.map (·.xs.length)).sum ≤ i
  lp : ∀ e ∈ A.P, e.2.length ≤ i
  nP : A.P.length ≤ i
  nB : A.B.length ≤ i
  nN : A.N.length ≤ i
  nU : A.U.length ≤ i
  good : ∀ e ∈ A.B, Good e.2
  adr : ∀ e ∈ A.B, isAddr e.1 = true
  dr : ∀ e ∈ A.U, (∀ z ∈ e.2.cps.toList, z ∈ drawn) ∧ e.2.length ≤ 3 * i
  ndU : (A.U.map (·.1)).Nodup
  lU : ∀ e ∈ A.U, e.1 ≤ A.m
  ndN : (A.N.map (·.1)).Nodup
  ph : A.ph = "idle"
  cn : A.n ≤ i
  cm : A.m ≤ i
section
variable {i : Nat} {A : Ab} {M : M6}
theorem E6.mono {j : Nat} (e : E6 i A M) (h : i ≤ j) : E6 j A M := { e with lx := fun x hx => Nat.le_trans (e.lx x hx) h, sm := Nat.le_trans e.sm h, lp := fun x hx => Nat.le_trans (e.lp x hx) h, nP := Nat.le_trans e.nP h, nB := Nat.le_trans e.nB h, nN := Nat.le_trans e.nN h, nU := Nat.le_trans e.nU h, dr := fun x hx => ⟨(e.dr x hx).1, by have := (e.dr x hx).2; omega⟩, cn := Nat.le_trans e.cn h, cm := Nat.le_trans e.cm h }
theorem E6.ndL (e : E6 i A M) : (M.L.map (·.i)).Nodup := by rw [e.ids]; exact e.nd
theorem E6.at (e : E6 i A M) {cl : Int} (op : opn A.P cl = true) : ∃ x ∈ M.L, (x.i : Int) = cl := by
  obtain ⟨p, hp, q⟩ := List.any_eq_true.mp op
  have q := of_decide_eq_true q
  have : p.1 ∈ M.L.map (·.i) := by rw [e.ids]; exact List.mem_map.mpr ⟨p, hp, rfl⟩
  obtain ⟨x, hx, ex⟩ := List.mem_map.mp this
  exact ⟨x, hx, by omega⟩
theorem E6.isOpen (e : E6 i A M) (cl : Int) : (valV (outK M.L) (.inl cl)).isSome = opn A.P cl := by
  cases op : opn A.P cl with
  | true =>
    obtain ⟨x, hx, ex⟩ := e.at op
    rw [kval e.ndL hx ex]; rfl
  | false =>
    rw [val_none fun z => ?_]; rfl
    obtain ⟨kv, hkv, ek⟩ := List.mem_map.mp z
    obtain ⟨x, hx, rfl⟩ := List.mem_map.mp hkv
    have ek : (x.i : Int) = cl := by injection ek
    have : x.i ∈ A.P.map (·.1) := by rw [← e.ids]; exact List.mem_map.mpr ⟨x, hx, rfl⟩
    obtain ⟨p, hp, ep⟩ := List.mem_map.mp this
    have : opn A.P cl = true := List.any_eq_true.mpr ⟨p, hp, decide_eq_true (by have ep : p.1 = x.i := ep; omega)⟩
    rw [op] at this; cases this
theorem kadd_mem {ks : List Str} {x y : Str} : y ∈ kadd ks x ↔ y ∈ ks ∨ y = x := by
  unfold kadd
  split
  · rename_i h
    exact ⟨.inl, fun z => z.elim id fun z => z ▸ h⟩
  · rw [List.mem_append, List.mem_singleton]
theorem kadd_len (ks : List Str) (x : Str) : (kadd ks x).length ≤ ks.length + 1 := by
  unfold kadd
  split
  · omega
  · rw [List.length_append]; simp
theorem sum_kad {cl : Int} {p : Addr} {ad : Str} : ∀ {L : List KE7}, (L.map (·.i)).Nodup → ((kadL L cl p ad).map (·.xs.length)).sum ≤ (L.map (·.xs.length)).sum + 1
  | [], _ => Nat.zero_le _
  | e :: r, nd => by
    obtain ⟨n1, n2⟩ := List.nodup_cons.mp nd
    rw [kadL, List.map_cons, List.map_cons, List.map_cons, List.sum_cons, List.sum_cons]
    by_cases w : (e.i : Int) = cl
    · have same : ∀ x ∈ r, (if (x.i : Int) = cl then (⟨x.i, p, x.xs ++ [ad]⟩ : KE7) else x) = x := fun x hx => if_neg fun z => n1 (List.mem_map.mpr ⟨x, hx, by show x.i = e.i; omega⟩)
      rw [List.map_congr_left same, if_pos w]
      show (e.xs ++ [ad]).length + _ ≤ _
      rw [List.length_append, List.map_id']
      simp only [List.length_cons, List.length_nil]
      omega
    · have ih := sum_kad (cl := cl) (p := p) (ad := ad) n2
      rw [kadL] at ih
      rw [if_neg w]
      omega
theorem E6.kept (e : E6 i A M) (p : Addr) (cl : Int) (ad : Str) : E6 (i + 1) (pinA A cl ad) { M with L := kadL M.L cl p ad } := by
  have q := e.mono (Nat.le_succ i)
  have ids : (pinP A.P cl ad).map (·.1) = A.P.map (·.1) := by
    rw [pinP, List.map_map]
    apply List.map_congr_left
    intro x _
    show (if (x.1 : Int) = cl then (x.1, kadd x.2 ad) else x).1 = x.1
    split <;> rfl
  refine { q with ids := ?_, eq := fun x hx p0 hp0 z y => ?_, nd := ?_, lP := fun x hx => ?_, lx := fun x hx => ?_, sm := Nat.le_trans (sum_kad e.ndL) (Nat.succ_le_succ e.sm), lp := fun x hx => ?_, nP := ?_ }
  · show (kadL M.L cl p ad).map (·.i) = (pinP A.P cl ad).map (·.1)
    rw [kadL_i, ids]; exact e.ids
  · obtain ⟨x1, hx1, rfl⟩ := List.mem_map.mp hx
    obtain ⟨p1, hp1, rfl⟩ := List.mem_map.mp hp0
    have z : p1.1 = x1.i := by
      have a1 : (if (p1.1 : Int) = cl then (p1.1, kadd p1.2 ad) else p1).1 = p1.1 := by split <;> rfl
      have a2 : (if (x1.i : Int) = cl then (⟨x1.i, p, x1.xs ++ [ad]⟩ : KE7) else x1).i = x1.i := by split <;> rfl
      rw [a1, a2] at z; exact z
    by_cases w : (x1.i : Int) = cl
    · rw [if_pos w, if_pos (by rw [z]; exact w)]
      show y ∈ x1.xs ++ [ad] ↔ y ∈ kadd p1.2 ad
      rw [kadd_mem, List.mem_append, List.mem_singleton, e.eq x1 hx1 p1 hp1 z y]
    · rw [if_neg w, if_neg (by rw [z]; exact w)]
      exact e.eq x1 hx1 p1 hp1 z y
  · show ((pinP A.P cl ad).map (·.1)).Nodup
    rw [ids]; exact e.nd
  · obtain ⟨x1, hx1, rfl⟩ := List.mem_map.mp hx
    have := e.lP x1 hx1
    show (if (x1.1 : Int) = cl then (x1.1, kadd x1.2 ad) else x1).1 ≤ A.n
    split <;> exact this
  · obtain ⟨x1, hx1, rfl⟩ := List.mem_map.mp hx
    have := e.lx x1 hx1
    split
    · show (x1.xs ++ [ad]).length ≤ i + 1
      rw [List.length_append]; simp only [List.length_cons, List.length_nil]; omega
    · omega
  · obtain ⟨x1, hx1, rfl⟩ := List.mem_map.mp hx
    have := e.lp x1 hx1
    split
    · have := kadd_len x1.2 ad
      show (kadd x1.2 ad).length ≤ i + 1
      omega
    · omega
  · show (pinP A.P cl ad).length ≤ i + 1
    have := e.nP
    rw [pinP, List.length_map]; omega
theorem E6.store (e : E6 i A M) {x : Blb} (g : Good x) {ad : Str} (ha : isAddr ad = true) : E6 (i + 1) { A with B := setB A.B ad x } { M with B := setB M.B ad x } := by
  have q := e.mono (Nat.le_succ i)
  refine { q with b := ?_, nB := ?_, good := fun z hz => ?_, adr := fun z hz => ?_ }
  · show setB M.B ad x = setB A.B ad x
    rw [e.b]
  · show (setB A.B ad x).length ≤ i + 1
    exact Nat.le_trans (set_len _ _ _) (by have := e.nB; omega)
  · rcases set_mem hz with h | rfl
    · exact e.good z h
    · exact g
  · rcases set_mem hz with h | rfl
    · exact e.adr z h
    · exact ha
theorem E6.dropU (e : E6 i A M) (u : Int) : E6 i { A with U := dropU A.U u } { M with U := LW.dropU M.U u } := by
  have sub : ∀ x ∈ LW.dropU A.U u, x ∈ A.U := fun x hx => (List.mem_filter.mp hx).1
  refine { e with u := ?_, nU := ?_, dr := fun x hx => e.dr x (sub x hx), ndU := ?_, lU := fun x hx => e.lU x (sub x hx) }
  · show LW.dropU M.U u = LW.dropU A.U u
    rw [e.u]
  · have := List.length_filter_le (fun x : Nat × Str => decide ((x.1 : Int) ≠ u)) A.U
    exact Nat.le_trans this e.nU
  · exact e.ndU.sublist (List.Sublist.map _ List.filter_sublist)
end
end LW
namespace LW
open PySem PySem.Spec PyProof.Rows L2 GxR
def sp_finish6 : Sp := fun vs H Q _ => ∃ (M : M6) (A : Ab) (i : Nat) (u cl : Int) (ad : Str), vs = [.ref M.md, .int u, .int cl, .str ad] ∧ MO M H ∧ E6 i A M ∧ i ≤ 400 ∧ opn A.P cl = true ∧ ∀ M' v H', MS M M' H H' → E6 (i + 2) (finA A u cl ad).1 M' → Rep H' v (finA A u cl ad).2 → Q v H'
/-- a put's text as the law makes it -/
def TxOk (b : Bool) (t : Str) : Prop := t.length ≤ 5000 ∧ (faultN b (lns t) = none → Good (word b, t) ∧ (lns t)[0]? = some (word b) ∧ cutS t (some (-1)) none = "\n") ∧ (faultN b (lns t) ≠ none → ¬ ((lns t)[0]? = some (word b) ∧ cutS t (some (-1)) none = "\n"))
def sp_put6 : Sp := fun vs H Q _ => ∃ (M : M6) (A : Ab) (i : Nat) (cl : Int) (b : Bool) (t : Str), vs = [.ref M.md, .int cl, .str (word b), .str t] ∧ MO M H ∧ E6 i A M ∧ i ≤ 400 ∧ opn A.P cl = true ∧ TxOk b t ∧ ∀ M' v H', MS M M' H H' → E6 (i + 2) (putA A cl b t).1 M' → Rep H' v (putA A cl b t).2 → Q v H'
theorem rk3 (B : Blbs) (a : Str) : ∀ x, lk B a = some x → rk x.1 < 3 := fun x _ => by have := rk_lt x.1; omega
section
variable {i : Nat} {A : Ab} {M : M6} {H : Hp} {cl : Int}
/-- what _law_kept wants and gives -/
theorem E6.keep (e : E6 i A M) (mo : MO M H) (hi : i ≤ 500) (op : opn A.P cl = true) (ad : Str) {Q : VK} {E : XK} (q : ∀ M' v H', MS M M' H H' → E6 (i + 1) (pinA A cl ad) M' → Rep H' v [.inr "kept", .inr ad] → Q v H') : sp_kept6 [.ref M.md, .int cl, .str ad] H Q E := by
  obtain ⟨e0, he0, hcl⟩ := e.at op
  refine ⟨M, cl, ad, e0, rfl, mo, he0, hcl, e.ndL, by have := e.lx e0 he0; omega, ?_, fun p v H' S rp => q _ v H' S (e.kept p cl ad) rp⟩
  have := congrArg List.length e.ids
  rw [List.length_map, List.length_map] at this
  have := e.nP
  omega
end
abbrev s_law_finish : Stmt := topS 47
abbrev N_law_finish : List Str := ["model", "upload", "claim", "address", "texts", "text", "blobs"]
abbrev P_law_finish : List Str := ["model", "upload", "claim", "address"]
theorem sc_law_finish : FnScope N_law_finish P_law_finish (defScope s_law_finish) := ⟨rfl, rfl, rfl, by decide +kernel, rfl, by decide +kernel, by decide +kernel⟩
abbrev s_law_put : Stmt := topS 48
abbrev N_law_put : List Str := ["model", "claim", "kind", "text", "other", "blobs", "due", "address"]
abbrev P_law_put : List Str := ["model", "claim", "kind", "text"]
theorem sc_law_put : FnScope N_law_put P_law_put (defScope s_law_put) := ⟨rfl, rfl, rfl, by decide +kernel, rfl, by decide +kernel, by decide +kernel⟩
section
variable {P : Program} {w : World} {K : PySem.W.Frag} {mg : Str → Option Value} {base : Heap} {cM cR : Addr} {c : CA}
theorem ok_law_finish {f : Addr} {fd : FuncData} (F : Fun K "_law_finish" "_law_finish" s_law_finish f fd) (T : Tx K mg cM cR c.U) (TC : Tc K mg c.C) (TK : Tk K mg c.K c.L) (TG : Tg K w mg c.G)
    (C__law_kept : Cal P w K mg base CX0 1 "_law_kept" P_law_kept sp_kept6)
    (C__law_whole : Cal P w K mg base CX0 6 "_law_whole" P_law_whole (sp_whole6 3))
    (C_address_of : Cal P w K mg base CX0 1 "address_of" P_address_of spAddr) : FnOk P w K mg base CX0 8 f fd P_law_finish sp_finish6 := by
  refine F.ok sc_law_finish (fun vs H Q E h => ?_) (fun cdv A outer s H vs Q E hr h => ?_)
  · obtain ⟨_, _, _, _, _, _, rfl, _⟩ := h
    rfl
  · obtain ⟨M, A, i, u, cl, ad, rfl, mo, e6, hi, op, q⟩ := h
    have nd := sc_law_finish.nd
    have hu := hu_of hr
    refine ⟨_, pss_cons (ps_set (i := 4) nd rfl (Or.inl rfl) (pe_dget hu (pv 0) pe_str (fun _ _ => rfl)))
  (pss_cons (ps_if (pt_cmp (pc_dnotin hu (pv 1) (pv 4)))
    (pss_cons (ps_if (pt_val (pe_cal C__law_whole hr (pa_cons (pv 0) (pa_cons (pv 3) pa_nil))))
    (pss_one (ps_ret (pe_cal C__law_kept hr (pa_cons (pv 0) (pa_cons (pv 2) (pa_cons (pv 3) pa_nil))))))
    (pss_nil))
  (pss_one (ps_ret (pe_tup (pa_cons pe_str (pa_cons (pv 1) pa_nil))))))
    (pss_nil))
  (pss_cons (ps_set (i := 5) nd rfl (Or.inl rfl) (pe_dget hu (pv 4) (pv 1) (fun _ _ => rfl)))
  (pss_cons (ps_expr (pe_dpop1 (pv 4) (pv 1) ⟨rfl, rfl, rfl, rfl⟩))
  (pss_cons (ps_if (pt_cmpR op_ne (pe_cal C_address_of hr (pa_cons pe_str (pa_cons (pv 5) pa_nil))) (pv 3) (nomark _))
    (pss_one (ps_ret (pe_tup (pa_cons pe_str (pa_cons (pv 3) pa_nil)))))
    (pss_nil))
  (pss_cons (ps_set (i := 6) nd rfl (Or.inl rfl) (pe_dget hu (pv 0) pe_str (fun _ _ => rfl)))
  (pss_cons (ps_dput hu (pv 6) (pv 3) (pe_tup (pa_cons pe_str (pa_cons (pv 5) pa_nil))) rfl)
  (pss_one (ps_ret (pe_cal C__law_kept hr (pa_cons (pv 0) (pa_cons (pv 2) (pa_cons (pv 3) pa_nil)))))))))))), ?_⟩
    have gd : ∀ x ∈ M.B, Good x.2 := by rw [e6.b]; exact e6.good
    obtain ⟨ov, gov, eov⟩ : ∃ ov, DGet H M.tx (.int u) ov ∧ ov = (lkU A.U u).map V.str := ⟨_, DGet.k (k := .inl u) mo.ht, by rw [tx_lk, e6.u]⟩
    refine ⟨_, rfl, M.md, _, rfl, mo.g4, ?_⟩
    refine ⟨_, rfl, _, rfl, M.tx, ov, rfl, gov, ?_⟩
    unfold finA at q
    cases eu : lkU A.U u with
    | none =>
      rw [eu] at eov q
      rw [eov]
      dsimp only at q
      refine ⟨true, rfl, iteT ⟨_, rfl, _, rfl, M, ad, rfl, mo, gd, by decide, rk3 _ _, fun H1 s1 => ⟨_, rfl, ?_⟩⟩⟩
      have mo1 := mo.same s1
      rw [e6.b]
      by_cases w : wholeN 3 A.B ad = true
      · rw [if_pos w] at q
        rw [w]
        refine iteT ⟨_, rfl, _, rfl, _, rfl, e6.keep (E := E) mo1 (by omega) op ad fun M' v H' S e' rp => q M' v H' ((MS.same mo s1).trans S) (e'.mono (by omega)) rp⟩
      · rw [if_neg w] at q
        rw [eq_false_of_ne_true w]
        refine iteF ⟨_, rfl, by show 2 ≤ sizeLine; decide, fun p np => q M _ _ ((MS.same mo s1).trans (.same mo1 (same_upd np))) (e6.mono (by omega)) ⟨p, rfl, upd_same⟩⟩
    | some t =>
      rw [eu] at eov q
      rw [eov] at gov ⊢
      dsimp only at q
      refine ⟨false, rfl, iteF ⟨_, rfl, _, rfl, M.tx, .str t, rfl, gov, ?_⟩⟩
      have hval : valV (LW.tx M.U) (.inl u) = some (.str t) := by rw [tx_lk, e6.u, eu]; rfl
      refine ⟨_, rfl, M.tx, rfl, .inl ⟨_, .inl mo.ht⟩, _, rfl, LW.tx M.U, .inl u, .str t, mo.ht, rfl, hval, ?_⟩
      rw [show dropK (LW.tx M.U) (.inl u) = LW.tx (dropU M.U u) from tx_drop M.U u]
      have S1 := mo.texts (dropU M.U u)
      have e1 := e6.dropU u
      have ht : t ∈ A.U.map (·.2) := by
        have key : ∀ U : List (Nat × Str), lkU U u = some t → t ∈ U.map (·.2) := by
          intro U
          induction U with
          | nil => intro h; cases h
          | cons x r ih =>
            intro h
            obtain ⟨j, y⟩ := x
            unfold lkU at h
            by_cases z : (j : Int) = u
            · rw [if_pos z] at h; cases h; exact List.mem_cons_self
            · rw [if_neg z] at h; exact List.mem_cons_of_mem _ (ih h)
        exact key _ eu
      obtain ⟨x, hx, ex⟩ := List.mem_map.mp ht
      have hd := e6.dr x hx
      have ex : x.2 = t := ex
      rw [ex] at hd
      have gl : Good (("layer" : Str), t) := by
        refine ⟨by show t.length ≤ 5000; omega, fun c hc => ?_, .inl rfl⟩
        have key : ∀ z ∈ drawn, z < 1000 := by decide
        exact key c (hd.1 c hc)
      generalize L2.upd H M.tx (.dK (LW.tx (dropU M.U u))) = H1 at S1
      have mo1 := S1.mo
      refine ⟨_, rfl, "layer", t, 0, rfl, rfl, by decide, _, rfl, rfl, _, rfl, ?_⟩
      rw [show (hexS (addrNum 0 t.cps.toList)) = adOf 0 t from rfl, neq_str]
      by_cases ea : adOf 0 t = ad
      · rw [if_pos ea] at q
        rw [decide_eq_false (fun z => z ea)]
        refine iteF ⟨_, rfl, M.md, _, rfl, mo1.g1, ?_⟩
        refine ⟨_, rfl, by show 2 ≤ sizeLine; decide, fun p np => ?_⟩
        obtain ⟨kvs, eb, lkv, S2⟩ := mo1.blobs np ad (("layer" : Str), t)
        refine ⟨_, rfl, _, rfl, M.bl, _, rfl, DPut.k (k := .inr ad) eb ?_, ?_⟩
        · rw [lkv, sizeLine_eq]
          show M.B.length < _
          rw [e6.b]; have := e6.nB; omega
        have e2 := e1.store gl (ad := ad) (by rw [← ea]; exact isAddr_hexS _)
        exact ⟨_, rfl, _, rfl, _, rfl, e2.keep (E := E) S2.mo (by omega) op ad fun M' v H' S e' rp => q M' v H' ((S1.trans S2).trans S) e' rp⟩
      · rw [if_neg ea] at q
        rw [decide_eq_true ea]
        exact iteT ⟨_, rfl, by show 2 ≤ sizeLine; decide, fun p np => q _ _ _ (S1.trans (.same mo1 (same_upd np))) (e1.mono (by omega)) ⟨p, rfl, upd_same⟩⟩
theorem ok_law_put {f : Addr} {fd : FuncData} (F : Fun K "_law_put" "_law_put" s_law_put f fd) (T : Tx K mg cM cR c.U) (TC : Tc K mg c.C) (TK : Tk K mg c.K c.L) (TG : Tg K w mg c.G)
    (C__law_kept : Cal P w K mg base CX0 1 "_law_kept" P_law_kept sp_kept6)
    (C__law_refs : Cal P w K mg base CX0 1 "_law_refs" P_law_refs sp_refs6)
    (C__law_whole : Cal P w K mg base CX0 6 "_law_whole" P_law_whole (sp_whole6 3))
    (C_address_of : Cal P w K mg base CX0 1 "address_of" P_address_of spAddr) : FnOk P w K mg base CX0 8 f fd P_law_put sp_put6 := by
  refine F.ok sc_law_put (fun vs H Q E h => ?_) (fun cdv A outer s H vs Q E hr h => ?_)
  · obtain ⟨_, _, _, _, _, _, rfl, _⟩ := h
    rfl
  · obtain ⟨M, A, i, cl, b, t, rfl, mo, e6, hi, op, tok, q⟩ := h
    have nd := sc_law_put.nd
    have hu := hu_of hr
    refine ⟨_, pss_cons (ps_if (PW.pt (pw_or (pt_cmpR op_ne (pe_ix ix_list (pe_split (pv 3) pe_str) pe_int (fun _ _ => rfl)) (pv 2) (nomark _)) (pw_or1 (pt_cmpR op_ne (pe_slice sl_str (pv 3) (po_some (pe_un un_neg pe_int)) po_none) pe_str (nomark _)))))
    (pss_one (ps_ret (pe_tup (pa_cons pe_str pa_nil))))
    (pss_nil))
  (pss_cons (ps_for PassesOwn.never rfl (pi_list (pe_cal C__law_refs hr (pa_cons (pv 2) (pa_cons (pv 3) pa_nil)))) (pg_name (i := 4) nd rfl (Or.inl rfl))
    (pss_cons (ps_set (i := 5) nd rfl (Or.inl rfl) (pe_dget hu (pv 0) pe_str (fun _ _ => rfl)))
  (pss_cons (ps_set (i := 6) nd rfl (Or.inl rfl) (pe_dget hu (pe_disp (pps_cons pe_str pe_str (pps_cons pe_str pe_str pps_nil)) (by rfl) (by rfl) (fun z => by cases z) (by decide)) (pv 2) (fun _ _ => rfl)))
  (pss_one (ps_if (PW.pt (pw_or (pt_cmp (pc_dnotin hu (pv 4) (pv 5))) (pw_or (pt_cmpR op_ne (pe_ix ix_tup (pe_dget hu (pv 5) (pv 4) (fun _ _ => rfl)) pe_int (fun _ _ => rfl)) (pv 6) (nomark _)) (pw_or1 (pt_not (pt_val (pe_cal C__law_whole hr (pa_cons (pv 0) (pa_cons (pv 4) pa_nil)))))))))
    (pss_one (ps_ret (pe_tup (pa_cons pe_str (pa_cons (pv 4) pa_nil)))))
    (pss_nil))))))
  (pss_cons (ps_set (i := 5) nd rfl (Or.inl rfl) (pe_dget hu (pv 0) pe_str (fun _ _ => rfl)))
  (pss_cons (ps_set (i := 7) nd rfl (Or.inl rfl) (pe_cal C_address_of hr (pa_cons (pv 2) (pa_cons (pv 3) pa_nil))))
  (pss_cons (ps_dput hu (pv 5) (pv 7) (pe_tup (pa_cons (pv 2) (pa_cons (pv 3) pa_nil))) rfl)
  (pss_one (ps_ret (pe_cal C__law_kept hr (pa_cons (pv 0) (pa_cons (pv 1) (pa_cons (pv 7) pa_nil)))))))))), ?_⟩
    obtain ⟨hl5, tn, tf⟩ := tok
    have gd : ∀ x ∈ M.B, Good x.2 := by rw [e6.b]; exact e6.good
    have hsz : t.length + 2 ≤ sizeLine := by rw [sizeLine_eq]; omega
    refine ⟨_, rfl, ⟨_, rfl⟩, t, nl, rfl, rfl, by decide +kernel, hsz, fun l nl' => ?_⟩
    have s1 : Same H (L2.upd H l (.lst ((Txt.split t nl).map V.str))) := same_upd nl'
    have hl : (L2.upd H l (.lst ((Txt.split t nl).map V.str))) l = some (.lst ((lns t).map V.str)) := upd_same
    generalize L2.upd H l (.lst ((Txt.split t nl).map V.str)) = H1 at s1 hl
    obtain ⟨w0, ew0⟩ : ∃ w0, (lns t)[0]? = some w0 := by
      cases e : (lns t)[0]? with
      | some x => exact ⟨x, rfl⟩
      | none =>
        exact absurd (List.length_eq_zero_iff.mp (Nat.le_zero.mp (List.getElem?_eq_none_iff.mp e))) (lns_ne t)
    refine ⟨l, _, _, .str w0, rfl, rfl, SqL.of hl, atI_nat (j := 0) (by rw [List.getElem?_map, ew0]; rfl), ?_⟩
    refine ⟨_, rfl, rfl, ?_⟩
    rw [neq_str]
    have mo1 := mo.same s1
    have S1 := MS.same mo s1
    have mal : ¬ (w0 = word b ∧ cutS t (some (-1)) none = "\n") → ∀ p, H1 p = none → Q (.ref p) (L2.upd H1 p (.tup [.str "malformed"])) := fun n p np => by
      have f : faultN b (lns t) ≠ none := fun z => by
        obtain ⟨_, h1, h2⟩ := tn z
        rw [ew0] at h1
        exact n ⟨by injection h1, h2⟩
      refine q M _ _ (S1.trans (.same mo1 (same_upd np))) ?_ ⟨p, rfl, ?_⟩
      · unfold putA; rw [if_pos f]; exact e6.mono (by omega)
      · unfold putA; rw [if_pos f, upd_same]; rfl
    by_cases h0 : w0 = word b
    · rw [decide_eq_false (fun z => z h0)]
      refine ⟨_, rfl, iteF ⟨_, rfl, 1, rfl, -1, rfl, t, rfl, by omega, rfl, _, rfl, ?_⟩⟩
      rw [neq_str]
      by_cases h1 : cutS t (some (-1)) none = "\n"
      · rw [decide_eq_false (fun z => z h1)]
        refine iteF ?_
        have fn : faultN b (lns t) = none := by
          cases z : faultN b (lns t) with
          | none => rfl
          | some k => exact absurd ⟨by rw [ew0, h0], h1⟩ (tf (by rw [z]; exact fun w => nomatch w))
        have hg := (tn fn).1
        unfold putA at q
        rw [if_neg (fun z => z fn)] at q
        refine ⟨_, rfl, _, rfl, (word b, t), rfl, hg, fun r H2 nr s2 hr2 => ?_⟩
        have s02 := s1.trans s2
        have mo2 := mo.same s02
        have S2 := MS.same mo s02
        have kj : kinds[kN b]? = some (word b) ∧ kN b < 3 := by cases b <;> exact ⟨rfl, by decide⟩
        refine ⟨r, rfl, ⟨_, SqL.of hr2⟩, ?_⟩
        refine for_it (walk_list (K := K) (a := r) (xs := (refsOf (word b, t)).map V.str)) (fun j σ H' => Same H2 H' ∧ (∀ z ∈ (refsOf (word b, t)).take j, iwo 3 M.B (due (word b)) z = true) ∧ ∃ v4 v5 v6, σ = [some (.ref M.md), some (.int cl), some (.str (word b)), some (.str t), v4, v5, v6, none])
          ⟨Same.refl _, by simp, none, none, none, rfl⟩ (fun _ _ _ _ h => SqL.of (h.1 r _ hr2)) ?_ ?_
        · rintro j v σ H4 H5 hj ⟨s4, hall, v4, v5, v6, rfl⟩ ⟨rfl, hv⟩
          rw [List.getElem?_map] at hv
          cases ez : (refsOf (word b, t))[j]? with
          | none => rw [ez] at hv; cases hv
          | some z =>
            rw [ez] at hv
            cases hv
            have s04 := s02.trans s4
            have mo4 := mo.same s04
            refine ⟨_, rfl, M.md, _, rfl, mo4.g1, ?_⟩
            refine fun m nm => ?_
            refine ⟨upd_same, [(.inr "image", .str "layer"), (.inr "bundle", .str "image")], rfl, by show 2 ≤ 15; decide, ?_⟩
            rw [upd_upd]
            obtain ⟨H6, eH6⟩ : ∃ H6, H6 = L2.upd H5 m (.dK (mergeK [] [(.inr "image", .str "layer"), (.inr "bundle", .str "image")])) := ⟨_, rfl⟩
            rw [← eH6]
            have hm : H6 m = some (.dK [(.inr "image", .str "layer"), (.inr "bundle", .str "image")]) := by rw [eH6, upd_same]; rfl
            have s56 : Same H5 H6 := by rw [eH6]; exact same_upd nm
            have hdue : DGet H6 m (.str (word b)) (some (.str (due (word b)))) := by
              have key : valV ([(.inr "image", .str "layer"), (.inr "bundle", .str "image")] : List (Key × V)) (.inr (word b)) = some (.str (due (word b))) := by cases b <;> rfl
              rw [← key]
              exact DGet.k (k := .inr (word b)) hm
            refine ⟨_, rfl, m, _, rfl, hdue, ?_⟩
            have s46 := s4.trans s56
            have s06 := s04.trans s56
            have mo6 := mo.same s06
            have D6 := mo6.hb
            have bad : iwo 3 M.B (due (word b)) z = false → ∀ H', Same H6 H' → ∀ p, H' p = none → Q (.ref p) (L2.upd H' p (.tup [.str "lacks", .str z])) := fun h H' s' p np => by
              have br : badR A.B (due (word b)) (refsOf (word b, t)) = some z := by
                unfold badR
                rw [List.find?_eq_some_iff_getElem]
                have hil : j < (refsOf (word b, t)).length := (List.getElem?_eq_some_iff.mp ez).1
                refine ⟨by rw [← e6.b, h]; rfl, j, hil, (List.getElem?_eq_some_iff.mp ez).2, fun k hk => ?_⟩
                rw [← e6.b, hall _ (List.mem_iff_getElem?.mpr ⟨k, by rw [List.getElem?_take_of_lt hk]; exact List.getElem?_eq_getElem _⟩)]; rfl
              rw [br] at q
              exact q M _ _ ((MS.same mo (s06.trans s')).trans (.same (mo6.same s') (same_upd np))) (e6.mono (by omega)) ⟨p, rfl, upd_same⟩
            obtain ⟨oz, gz, egz⟩ := D6.isIn z
            refine ⟨_, rfl, _, rfl, M.bl, oz, rfl, gz, ?_⟩
            rw [egz]
            unfold iwo at bad
            cases ey : lk M.B z with
            | none =>
              rw [ey] at bad
              exact ⟨true, rfl, iteT (iteT ⟨_, rfl, by show 2 ≤ sizeLine; decide, bad rfl H6 (Same.refl _)⟩)⟩
            | some y =>
              rw [ey] at bad
              dsimp only at bad
              obtain ⟨t3, g4, ht3⟩ := D6.get ey
              refine ⟨false, rfl, iteF ⟨_, rfl, _, rfl, M.bl, _, rfl, g4, t3, [.str y.1, .str y.2], 0, .str y.1, rfl, rfl, SqT.of ht3, at2_0, _, rfl, rfl, _, rfl, ?_⟩⟩
              rw [neq_str]
              refine ite2 (fun e => ?_) (fun e => ?_)
              · refine iteT ⟨_, rfl, by show 2 ≤ sizeLine; decide, bad ?_ H6 (Same.refl _)⟩
                rw [decide_eq_false (of_decide_eq_true e), Bool.false_and]
              · have ed : y.1 = due (word b) := Classical.not_not.mp (of_decide_eq_false (eq_false_of_ne_true e))
                refine ⟨_, rfl, _, rfl, M, z, rfl, mo6, gd, by decide, rk3 _ _, fun H7 s7 => ⟨_, rfl, ?_⟩⟩
                rw [decide_eq_true ed, Bool.true_and] at bad
                cases hwz : wholeN 3 M.B z with
                | false => exact iteT ⟨_, rfl, by show 2 ≤ sizeLine; decide, bad hwz H7 s7⟩
                | true =>
                  refine iteF ⟨s46.trans s7, fun z' hz' => ?_, _, _, _, rfl⟩
                  rw [List.take_add_one, ez] at hz'
                  rcases List.mem_append.mp hz' with h1 | h1
                  · exact hall z' h1
                  · rw [List.mem_singleton.mp h1]
                    unfold iwo
                    rw [ey]
                    dsimp only
                    rw [decide_eq_true ed, hwz]; rfl
        · rintro σ H4 ⟨s4, hall, v4, v5, v6, rfl⟩
          rw [List.length_map, List.take_length] at hall
          have br : badR A.B (due (word b)) (refsOf (word b, t)) = none := by
            unfold badR
            rw [List.find?_eq_none]
            intro z hz
            show ¬ (!iwo 3 A.B (due (word b)) z) = true
            rw [← e6.b, hall z hz]; decide
          rw [br] at q
          dsimp only at q
          have s04 := s02.trans s4
          have mo4 := mo.same s04
          refine ⟨_, rfl, M.md, _, rfl, mo4.g1, ?_⟩
          refine ⟨_, rfl, _, rfl, word b, t, kN b, rfl, kj.1, kj.2, ?_⟩
          rw [show (hexS (addrNum (kN b) t.cps.toList)) = adOf (kN b) t from rfl]
          refine ⟨_, rfl, _, rfl, by show 2 ≤ sizeLine; decide, fun p np => ?_⟩
          obtain ⟨kvs, eb, lkv, S5⟩ := mo4.blobs np (adOf (kN b) t) (word b, t)
          refine ⟨_, rfl, _, rfl, M.bl, _, rfl, DPut.k (k := .inr (adOf (kN b) t)) eb ?_, ?_⟩
          · rw [lkv, sizeLine_eq]
            rw [e6.b]; have := e6.nB; omega
          have e2 := e6.store hg (ad := adOf (kN b) t) (isAddr_hexS _)
          exact ⟨_, rfl, _, rfl, _, rfl, e2.keep (E := E) S5.mo (by omega) op _ fun M' v H' S e' rp => q M' v H' (((MS.same mo s04).trans S5).trans S) e' rp⟩
      · rw [decide_eq_true h1]
        exact iteT ⟨by show 1 ≤ sizeLine; decide, fun p np => mal (fun z => h1 z.2) p np⟩
    · rw [decide_eq_true h0]
      exact ⟨_, rfl, iteT (iteT ⟨by show 1 ≤ sizeLine; decide, fun p np => mal (fun z => h0 z.1) p np⟩)⟩
end
end LW
namespace LW
open PySem PySem.Spec PyProof.Rows L2 GxR
section
variable {i : Nat} {A : Ab} {M : M6}
theorem nodup_snoc {α : Type} {l : List α} {x : α} (h : l.Nodup) (n : x ∉ l) : (l ++ [x]).Nodup := List.nodup_append.mpr ⟨h, List.nodup_cons.mpr ⟨List.not_mem_nil, List.nodup_nil⟩, fun y hy z hz e => n (by rw [List.mem_singleton.mp hz] at e; rw [← e]; exact hy)⟩
theorem E6.opened (e : E6 i A M) (p : Addr) : E6 (i + 1) { A with n := A.n + 1, P := A.P ++ [(A.n + 1, [])] } { M with n := M.n + 1, L := M.L ++ [⟨A.n + 1, p, []⟩] } := by
  have q := e.mono (Nat.le_succ i)
  refine { q with c := ?_, ids := ?_, eq := fun x hx p0 hp0 z y => ?_, nd := ?_, lP := fun x hx => ?_, lx := fun x hx => ?_, sm := ?_, lp := fun x hx => ?_, nP := ?_, cn := Nat.succ_le_succ e.cn }
  · show M.n + 1 = A.n + 1
    rw [e.c]
  · rw [List.map_append, List.map_append, e.ids]; rfl
  · rcases List.mem_append.mp hx with hx | hx
    · rcases List.mem_append.mp hp0 with hp0 | hp0
      · exact e.eq x hx p0 hp0 z y
      · have hin : x.i ∈ A.P.map (·.1) := by rw [← e.ids]; exact List.mem_map.mpr ⟨x, hx, rfl⟩
        obtain ⟨p1, hp1, e1⟩ := List.mem_map.mp hin
        have := e.lP p1 hp1
        rw [List.mem_singleton.mp hp0] at z
        have z : A.n + 1 = x.i := z
        have e1 : p1.1 = x.i := e1
        omega
    · rw [List.mem_singleton.mp hx] at z ⊢
      rcases List.mem_append.mp hp0 with hp0 | hp0
      · have := e.lP p0 hp0
        have z : p0.1 = A.n + 1 := z
        omega
      · rw [List.mem_singleton.mp hp0]
  · rw [List.map_append]
    refine nodup_snoc e.nd fun z => ?_
    obtain ⟨p1, hp1, e1⟩ := List.mem_map.mp z
    have := e.lP p1 hp1
    have e1 : p1.1 = A.n + 1 := e1
    omega
  · rcases List.mem_append.mp hx with hx | hx
    · exact Nat.le_succ_of_le (e.lP x hx)
    · rw [List.mem_singleton.mp hx]; exact Nat.le_refl _
  · rcases List.mem_append.mp hx with hx | hx
    · exact q.lx x hx
    · rw [List.mem_singleton.mp hx]; exact Nat.zero_le _
  · rw [List.map_append, List.sum_append]
    have := e.sm
    show (M.L.map (·.xs.length)).sum + (0 + 0) ≤ i + 1
    omega
  · rcases List.mem_append.mp hx with hx | hx
    · exact q.lp x hx
    · rw [List.mem_singleton.mp hx]; exact Nat.zero_le _
  · show (A.P ++ [(A.n + 1, [])]).length ≤ i + 1
    rw [List.length_append]
    have := e.nP
    simp; omega
def dropL (L : List KE7) (cl : Int) : List KE7 := L.filter fun e => decide ((e.i : Int) ≠ cl)
theorem outK_drop (L : List KE7) (cl : Int) : ((outK L).filter fun e => decide (e.1 ≠ (.inl cl : Key))) = outK (dropL L cl) := by
  rw [outK, outK, dropL, List.filter_map]
  congr 1
  apply List.filter_congr
  intro e _
  show decide ((Sum.inl (e.i : Int) : Key) ≠ Sum.inl cl) = _
  exact decide_eq_decide.mpr ⟨fun z h => z (by rw [h]), fun z h => z (by injection h)⟩
theorem sum_filter (f : KE7 → Bool) : ∀ L : List KE7, ((L.filter f).map (·.xs.length)).sum ≤ (L.map (·.xs.length)).sum
  | [] => Nat.le_refl _
  | e :: r => by
    have ih := sum_filter f r
    rw [List.filter_cons]
    split
    · rw [List.map_cons, List.map_cons, List.sum_cons, List.sum_cons]; omega
    · rw [List.map_cons, List.sum_cons]; omega
theorem E6.closed (e : E6 i A M) (cl : Int) : E6 i { A with P := dropP A.P cl } { M with L := dropL M.L cl } := by
  have sP : ∀ x ∈ dropP A.P cl, x ∈ A.P := fun x hx => (List.mem_filter.mp hx).1
  have sL : ∀ x ∈ dropL M.L cl, x ∈ M.L := fun x hx => (List.mem_filter.mp hx).1
  refine { e with ids := ?_, eq := fun x hx p0 hp0 => e.eq x (sL x hx) p0 (sP p0 hp0), nd := e.nd.sublist (List.Sublist.map _ List.filter_sublist), lP := fun x hx => e.lP x (sP x hx), lx := fun x hx => e.lx x (sL x hx), sm := Nat.le_trans (sum_filter _ _) e.sm, lp := fun x hx => e.lp x (sP x hx), nP := Nat.le_trans (List.length_filter_le _ _) e.nP }
  show (dropL M.L cl).map (·.i) = (dropP A.P cl).map (·.1)
  have h1 : (dropL M.L cl).map (·.i) = (M.L.map (·.i)).filter fun j : Nat => decide ((j : Int) ≠ cl) := by rw [List.filter_map]; rfl
  have h2 : (dropP A.P cl).map (·.1) = (A.P.map (·.1)).filter fun j : Nat => decide ((j : Int) ≠ cl) := by rw [List.filter_map]; rfl
  rw [h1, h2, e.ids]
theorem nmK_drop (N : List (Str × Str)) (nm : Str) : ((nmK N).filter fun e => decide (e.1 ≠ (.inr nm : Key))) = nmK (dropN N nm) := nm_drop N nm
theorem E6.dropped (e : E6 i A M) (nm : Str) : E6 i { A with N := dropN A.N nm } { M with N := dropN M.N nm } := by
  refine { e with n := ?_, nN := Nat.le_trans (List.length_filter_le _ _) e.nN, ndN := e.ndN.sublist (List.Sublist.map _ List.filter_sublist) }
  show dropN M.N nm = dropN A.N nm
  rw [e.n]
theorem E6.fall (e : E6 i A M) : E6 i { A with U := [], ph := "idle", W := [], M := [] } { M with U := [] } :=
  { e with u := rfl, nU := Nat.zero_le _, dr := (fun x hx => nomatch hx), ndU := List.nodup_nil, lU := (fun x hx => nomatch hx), ph := rfl }
theorem E6.started (e : E6 i A M) : E6 (i + 1) { A with m := A.m + 1, U := A.U ++ [(A.m + 1, ("" : Str))] } { M with m := M.m + 1, U := M.U ++ [(M.m + 1, ("" : Str))] } := by
  have q := e.mono (Nat.le_succ i)
  refine { q with m := ?_, u := ?_, nU := ?_, dr := fun x hx => ?_, ndU := ?_, lU := fun x hx => ?_, cm := Nat.succ_le_succ e.cm }
  · show M.m + 1 = A.m + 1
    rw [e.m]
  · show M.U ++ [(M.m + 1, ("" : Str))] = A.U ++ [(A.m + 1, ("" : Str))]
    rw [e.u, e.m]
  · show (A.U ++ [(A.m + 1, ("" : Str))]).length ≤ i + 1
    rw [List.length_append]
    have := e.nU
    simp; omega
  · rcases List.mem_append.mp hx with hx | hx
    · exact q.dr x hx
    · rw [List.mem_singleton.mp hx]
      refine ⟨fun z hz => ?_, Nat.zero_le _⟩
      have h0 : (("" : Str)).cps.toList = [] := rfl
      have hz : z ∈ (("" : Str)).cps.toList := hz
      rw [h0] at hz; cases hz
  · rw [List.map_append]
    refine nodup_snoc e.ndU fun z => ?_
    obtain ⟨p1, hp1, e1⟩ := List.mem_map.mp z
    have := e.lU p1 hp1
    have e1 : p1.1 = A.m + 1 := e1
    omega
  · rcases List.mem_append.mp hx with hx | hx
    · exact Nat.le_succ_of_le (e.lU x hx)
    · rw [List.mem_singleton.mp hx]; exact Nat.le_refl _
theorem setN_keys (N : List (Str × Str)) (nm a : Str) (nd : (N.map (·.1)).Nodup) : ((setN N nm a).map (·.1)).Nodup := by
  unfold setN
  split
  · rw [List.map_map]
    have : (N.map ((·.1) ∘ fun e : Str × Str => if e.1 = nm then (e.1, a) else e)) = N.map (·.1) := by
      apply List.map_congr_left
      intro e _
      show (if e.1 = nm then (e.1, a) else e).1 = e.1
      split <;> rfl
    rw [this]; exact nd
  · rename_i h
    rw [List.map_append]
    exact nodup_snoc nd h
theorem E6.named (e : E6 i A M) (nm a : Str) : E6 (i + 1) { A with N := setN A.N nm a } { M with N := setN M.N nm a } := by
  have q := e.mono (Nat.le_succ i)
  refine { q with n := ?_, nN := ?_, ndN := setN_keys _ _ _ e.ndN }
  · show setN M.N nm a = setN A.N nm a
    rw [e.n]
  · show (setN A.N nm a).length ≤ i + 1
    have := e.nN
    unfold setN
    split
    · rw [List.length_map]; omega
    · rw [List.length_append]; simp; omega
end
end LW
namespace LW
open PySem PySem.Spec PyProof.Rows L2 GxR
def sp_claimed6 : Sp := fun vs H Q _ => ∃ (M : M6) (A : Ab) (i : Nat) (qa : Addr) (rq : Rq) (cl : Int), vs = [.ref M.md, .ref qa] ∧ rq.cl = some cl ∧ MO M H ∧ E6 i A M ∧ i ≤ 400 ∧ H qa = some (.tup (rq.keys.map kV)) ∧ (∀ c b t, rq = .put c b t → TxOk b t) ∧ ∀ M' v H', MS M M' H H' → E6 (i + 2) (ansA A rq).1 M' → Rep H' v (ansA A rq).2 → Q v H'
theorem ans_open {A : Ab} {rq : Rq} {cl : Int} (h : rq.cl = some cl) (op : opn A.P cl = true) : ansA A rq = underA A rq := by
  unfold ansA
  rw [h]
  exact if_pos op
theorem ans_shut {A : Ab} {rq : Rq} {cl : Int} (h : rq.cl = some cl) (op : opn A.P cl = false) : ansA A rq = (A, [.inr "lapsed", .inl cl]) := by
  unfold ansA
  rw [h]
  exact if_neg (by rw [op]; decide)
abbrev s_law_claimed : Stmt := topS 49
abbrev N_law_claimed : List Str := ["model", "request", "kind", "claim", "texts", "name", "address", "names"]
abbrev P_law_claimed : List Str := ["model", "request"]
theorem sc_law_claimed : FnScope N_law_claimed P_law_claimed (defScope s_law_claimed) := ⟨rfl, rfl, rfl, by decide +kernel, rfl, by decide +kernel, by decide +kernel⟩
section
variable {P : Program} {w : World} {K : PySem.W.Frag} {mg : Str → Option Value} {base : Heap} {cM cR : Addr} {c : CA}
theorem ok_law_claimed {f : Addr} {fd : FuncData} (F : Fun K "_law_claimed" "_law_claimed" s_law_claimed f fd) (T : Tx K mg cM cR c.U) (TC : Tc K mg c.C) (TK : Tk K mg c.K c.L) (TG : Tg K w mg c.G)
    (C__law_finish : Cal P w K mg base CX0 8 "_law_finish" P_law_finish sp_finish6)
    (C__law_kept : Cal P w K mg base CX0 1 "_law_kept" P_law_kept sp_kept6)
    (C__law_put : Cal P w K mg base CX0 8 "_law_put" P_law_put sp_put6)
    (C__law_whole : Cal P w K mg base CX0 6 "_law_whole" P_law_whole (sp_whole6 3)) : FnOk P w K mg base CX0 10 f fd P_law_claimed sp_claimed6 := by
  refine F.ok sc_law_claimed (fun vs H Q E h => ?_) (fun cdv A outer s H vs Q E hr h => ?_)
  · obtain ⟨_, _, _, _, _, _, rfl, _⟩ := h
    rfl
  · obtain ⟨M, A, i, qa, rq, cl, rfl, hcl, mo, e6, hi, hq, tok, q⟩ := h
    have nd := sc_law_claimed.nd
    have hu := hu_of hr
    refine ⟨_, pss_cons (ps_set (i := 2) nd rfl (Or.inl rfl) (pe_ix ix_tup (pv 1) pe_int (fun _ _ => rfl)))
  (pss_cons (ps_set (i := 3) nd rfl (Or.inl rfl) (pe_ix ix_tup (pv 1) pe_int (fun _ _ => rfl)))
  (pss_cons (ps_if (pt_cmpR op_eq (pv 2) pe_str (nomark _))
    (pss_one (ps_set (i := 3) nd rfl (Or.inl rfl) (pe_ix ix_tup (pv 1) pe_int (fun _ _ => rfl))))
    (pss_nil))
  (pss_cons (ps_if (pt_cmp (pc_dnotin hu (pv 3) (pe_dget hu (pv 0) pe_str (fun _ _ => rfl))))
    (pss_one (ps_ret (pe_tup (pa_cons pe_str (pa_cons (pv 3) pa_nil)))))
    (pss_nil))
  (pss_cons (ps_if (pt_cmpR op_eq (pv 2) pe_str (nomark _))
    (pss_cons (ps_if (pt_val (pe_cal C__law_whole hr (pa_cons (pv 0) (pa_cons (pe_ix ix_tup (pv 1) pe_int (fun _ _ => rfl)) pa_nil))))
    (pss_one (ps_ret (pe_cal C__law_kept hr (pa_cons (pv 0) (pa_cons (pv 3) (pa_cons (pe_ix ix_tup (pv 1) pe_int (fun _ _ => rfl)) pa_nil))))))
    (pss_nil))
  (pss_one (ps_ret (pe_tup (pa_cons pe_str (pa_cons (pe_ix ix_tup (pv 1) pe_int (fun _ _ => rfl)) pa_nil))))))
    (pss_nil))
  (pss_cons (ps_if (pt_cmpR op_eq (pv 2) pe_str (nomark _))
    (pss_cons (ps_dput hu (pv 0) pe_str (pe_op op_add (pe_dget hu (pv 0) pe_str (fun _ _ => rfl)) pe_int) rfl)
  (pss_cons (ps_set (i := 4) nd rfl (Or.inl rfl) (pe_dget hu (pv 0) pe_str (fun _ _ => rfl)))
  (pss_cons (ps_dput hu (pv 4) (pe_dget hu (pv 0) pe_str (fun _ _ => rfl)) pe_str rfl)
  (pss_one (ps_ret (pe_tup (pa_cons pe_str (pa_cons (pe_dget hu (pv 0) pe_str (fun _ _ => rfl)) pa_nil))))))))
    (pss_nil))
  (pss_cons (ps_if (pt_cmpR op_eq (pv 2) pe_str (nomark _))
    (pss_one (ps_ret (pe_cal C__law_finish hr (pa_cons (pv 0) (pa_cons (pe_ix ix_tup (pv 1) pe_int (fun _ _ => rfl)) (pa_cons (pv 3) (pa_cons (pe_ix ix_tup (pv 1) pe_int (fun _ _ => rfl)) pa_nil)))))))
    (pss_nil))
  (pss_cons (ps_if (pt_cmpR op_eq (pv 2) pe_str (nomark _))
    (pss_one (ps_ret (pe_cal C__law_put hr (pa_cons (pv 0) (pa_cons (pv 3) (pa_cons (pe_ix ix_tup (pv 1) pe_int (fun _ _ => rfl)) (pa_cons (pe_ix ix_tup (pv 1) pe_int (fun _ _ => rfl)) pa_nil)))))))
    (pss_nil))
  (pss_cons (ps_asg (pe_slice L2.sl_tup (pv 1) (po_some pe_int) po_none) (pg_tup rfl (pgs_cons (pg_name (i := 5) nd rfl (Or.inl rfl)) (pgs_cons (pg_name (i := 6) nd rfl (Or.inl rfl)) pgs_nil))))
  (pss_cons (ps_if (PW.pt (pw_or (pt_not (pt_val (pe_cal C__law_whole hr (pa_cons (pv 0) (pa_cons (pv 6) pa_nil))))) (pw_or1 (pt_cmpR op_eq (pe_ix ix_tup (pe_dget hu (pe_dget hu (pv 0) pe_str (fun _ _ => rfl)) (pv 6) (fun _ _ => rfl)) pe_int (fun _ _ => rfl)) pe_str (nomark _)))))
    (pss_one (ps_ret (pe_tup (pa_cons pe_str (pa_cons (pv 6) pa_nil)))))
    (pss_nil))
  (pss_cons (ps_set (i := 7) nd rfl (Or.inl rfl) (pe_dget hu (pv 0) pe_str (fun _ _ => rfl)))
  (pss_cons (ps_dput hu (pv 7) (pv 5) (pv 6) rfl)
  (pss_cons (ps_expr (pe_cal C__law_kept hr (pa_cons (pv 0) (pa_cons (pv 3) (pa_cons (pv 6) pa_nil)))))
  (pss_one (ps_ret (pe_tup (pa_cons pe_str (pa_cons (pv 5) (pa_cons (pv 6) pa_nil)))))))))))))))))), ?_⟩
    have gd : ∀ x ∈ M.B, Good x.2 := by rw [e6.b]; exact e6.good
    obtain ⟨ov, gov, eov⟩ : ∃ ov, DGet H M.pn (.int cl) ov ∧ ov.isSome = opn A.P cl := ⟨_, DGet.k (k := .inl cl) mo.hp, e6.isOpen cl⟩
    cases rq with
    | has c a =>
      cases hcl
      refine ⟨_, rfl, qa, _, 0, .str "has", rfl, rfl, SqT.of hq, rfl, _, rfl, qa, _, 1, .int cl, rfl, rfl, SqT.of hq, rfl, ?_⟩
      refine ⟨_, rfl, rfl, _, rfl, ?_⟩
      rw [dec_str, decide_eq_false (show ¬ ("has" : Str) = "finish" from by decide +kernel)]
      refine iteF ?_
      refine ⟨_, rfl, _, rfl, M.md, _, rfl, mo.g3, M.pn, ov, rfl, gov, ?_⟩
      rw [eov]
      cases op : opn A.P cl with
      | false =>
        rw [ans_shut rfl op] at q
        exact ⟨true, rfl, iteT ⟨_, rfl, by show 2 ≤ sizeLine; decide, fun p np => q M _ _ (.same mo (same_upd np)) (e6.mono (by omega)) ⟨p, rfl, upd_same⟩⟩⟩
      | true =>
        rw [ans_open rfl op] at q
        refine ⟨false, rfl, iteF ?_⟩
        refine ⟨_, rfl, rfl, _, rfl, ?_⟩
        rw [dec_str, decide_eq_true (show ("has" : Str) = ("has" : Str) from rfl)]
        refine iteT ?_
        refine ⟨_, rfl, _, rfl, qa, _, 2, .str a, rfl, rfl, SqT.of hq, rfl, M, a, rfl, mo, gd, by decide, rk3 _ _, fun H1 s1 => ⟨_, rfl, ?_⟩⟩
        have mo1 := mo.same s1
        have hq1 := s1 _ _ hq
        rw [e6.b]
        unfold underA at q
        dsimp only at q
        by_cases w : wholeN 3 A.B a = true
        · rw [if_pos w] at q
          rw [w]
          refine iteT ⟨_, rfl, _, rfl, _, rfl, qa, _, 2, .str a, rfl, rfl, SqT.of hq1, rfl, e6.keep (E := E) mo1 (by omega) op a fun M' v H' S e' rp => q M' v H' ((MS.same mo s1).trans S) (e'.mono (by omega)) rp⟩
        · rw [if_neg w] at q
          rw [eq_false_of_ne_true w]
          exact iteF ⟨_, rfl, qa, _, 2, .str a, rfl, rfl, SqT.of hq1, rfl, by show 2 ≤ sizeLine; decide, fun p np => q M _ _ ((MS.same mo s1).trans (.same mo1 (same_upd np))) (e6.mono (by omega)) ⟨p, rfl, upd_same⟩⟩
    | start c =>
      cases hcl
      refine ⟨_, rfl, qa, _, 0, .str "start", rfl, rfl, SqT.of hq, rfl, _, rfl, qa, _, 1, .int cl, rfl, rfl, SqT.of hq, rfl, ?_⟩
      refine ⟨_, rfl, rfl, _, rfl, ?_⟩
      rw [dec_str, decide_eq_false (show ¬ ("start" : Str) = "finish" from by decide +kernel)]
      refine iteF ?_
      refine ⟨_, rfl, _, rfl, M.md, _, rfl, mo.g3, M.pn, ov, rfl, gov, ?_⟩
      rw [eov]
      cases op : opn A.P cl with
      | false =>
        rw [ans_shut rfl op] at q
        exact ⟨true, rfl, iteT ⟨_, rfl, by show 2 ≤ sizeLine; decide, fun p np => q M _ _ (.same mo (same_upd np)) (e6.mono (by omega)) ⟨p, rfl, upd_same⟩⟩⟩
      | true =>
        rw [ans_open rfl op] at q
        refine ⟨false, rfl, iteF ?_⟩
        refine ⟨_, rfl, rfl, _, rfl, ?_⟩
        rw [dec_str, decide_eq_false (show ¬ ("start" : Str) = ("has" : Str) from by decide +kernel)]
        refine iteF ?_
        refine ⟨_, rfl, rfl, _, rfl, ?_⟩
        rw [dec_str, decide_eq_true (show ("start" : Str) = ("start" : Str) from rfl)]
        refine iteT ?_
        refine ⟨_, rfl, M.md, _, rfl, mo.g6, _, _, rfl, rfl, _, rfl, M.md, _, rfl, DPut.k (k := .inr "last") mo.hm (by show 6 < sizeLine; decide), ?_⟩
        have S1 := mo.nums M.n (M.m + 1)
        rw [show putK (mdK M) (.inr "last") (.int ((M.m : Int) + 1)) = mdK { M with m := M.m + 1 } from rfl]
        generalize L2.upd H M.md (.dK (mdK { M with m := M.m + 1 })) = H1 at S1
        have mo1 : MO { M with m := M.m + 1 } H1 := S1.mo
        refine ⟨_, rfl, M.md, _, rfl, mo1.g4, ?_⟩
        refine ⟨_, rfl, _, rfl, M.md, _, rfl, mo1.g6, M.tx, _, rfl, DPut.k (k := .inl ((M.m + 1 : Nat) : Int)) mo1.ht ?_, ?_⟩
        · rw [tx_len, sizeLine_eq]
          show M.U.length < _
          rw [e6.u]; have := e6.nU; omega
        rw [show putK (LW.tx ({ M with m := M.m + 1 } : M6).U) (.inl ((M.m + 1 : Nat) : Int)) (.str "") = LW.tx (M.U ++ [(M.m + 1, ("" : Str))]) from tx_new (fun e he => by rw [e6.u] at he; rw [e6.m]; exact e6.lU e he) ""]
        have S2 := mo1.texts (M.U ++ [(M.m + 1, ("" : Str))])
        have S12 : MS M { M with m := M.m + 1, U := M.U ++ [(M.m + 1, ("" : Str))] } H _ := S1.trans S2
        refine ⟨_, rfl, M.md, _, rfl, S2.mo.g6, by show 2 ≤ sizeLine; decide, fun p np => ?_⟩
        refine q _ _ _ (S12.trans (.same S12.mo (same_upd np))) (e6.started.mono (by omega)) ⟨p, rfl, ?_⟩
        rw [upd_same]
        show some (HO.tup [.str "upload", .int ((M.m + 1 : Nat) : Int)]) = some (HO.tup [.str "upload", .int ((A.m + 1 : Nat) : Int)])
        rw [e6.m]
    | fin u c a =>
      cases hcl
      refine ⟨_, rfl, qa, _, 0, .str "finish", rfl, rfl, SqT.of hq, rfl, _, rfl, qa, _, 1, .int u, rfl, rfl, SqT.of hq, rfl, ?_⟩
      refine ⟨_, rfl, rfl, _, rfl, ?_⟩
      rw [dec_str, decide_eq_true (show ("finish" : Str) = "finish" from rfl)]
      refine iteT ⟨_, rfl, qa, _, 2, .int cl, rfl, rfl, SqT.of hq, rfl, ?_⟩
      refine ⟨_, rfl, _, rfl, M.md, _, rfl, mo.g3, M.pn, ov, rfl, gov, ?_⟩
      rw [eov]
      cases op : opn A.P cl with
      | false =>
        rw [ans_shut rfl op] at q
        exact ⟨true, rfl, iteT ⟨_, rfl, by show 2 ≤ sizeLine; decide, fun p np => q M _ _ (.same mo (same_upd np)) (e6.mono (by omega)) ⟨p, rfl, upd_same⟩⟩⟩
      | true =>
        rw [ans_open rfl op] at q
        refine ⟨false, rfl, iteF ?_⟩
        refine ⟨_, rfl, rfl, _, rfl, ?_⟩
        rw [dec_str, decide_eq_false (show ¬ ("finish" : Str) = ("has" : Str) from by decide +kernel)]
        refine iteF ?_
        refine ⟨_, rfl, rfl, _, rfl, ?_⟩
        rw [dec_str, decide_eq_false (show ¬ ("finish" : Str) = ("start" : Str) from by decide +kernel)]
        refine iteF ?_
        refine ⟨_, rfl, rfl, _, rfl, ?_⟩
        rw [dec_str, decide_eq_true (show ("finish" : Str) = ("finish" : Str) from rfl)]
        refine iteT ?_
        refine ⟨_, rfl, _, rfl, qa, _, 1, .int u, rfl, rfl, SqT.of hq, rfl, _, rfl, _, rfl, qa, _, 4, .str a, rfl, rfl, SqT.of hq, rfl, M, A, i, u, cl, a, rfl, mo, e6, hi, op, fun M' v H' S e' rp => q M' v H' S e' rp⟩
    | put c b t =>
      cases hcl
      refine ⟨_, rfl, qa, _, 0, .str "put", rfl, rfl, SqT.of hq, rfl, _, rfl, qa, _, 1, .int cl, rfl, rfl, SqT.of hq, rfl, ?_⟩
      refine ⟨_, rfl, rfl, _, rfl, ?_⟩
      rw [dec_str, decide_eq_false (show ¬ ("put" : Str) = "finish" from by decide +kernel)]
      refine iteF ?_
      refine ⟨_, rfl, _, rfl, M.md, _, rfl, mo.g3, M.pn, ov, rfl, gov, ?_⟩
      rw [eov]
      cases op : opn A.P cl with
      | false =>
        rw [ans_shut rfl op] at q
        exact ⟨true, rfl, iteT ⟨_, rfl, by show 2 ≤ sizeLine; decide, fun p np => q M _ _ (.same mo (same_upd np)) (e6.mono (by omega)) ⟨p, rfl, upd_same⟩⟩⟩
      | true =>
        rw [ans_open rfl op] at q
        refine ⟨false, rfl, iteF ?_⟩
        refine ⟨_, rfl, rfl, _, rfl, ?_⟩
        rw [dec_str, decide_eq_false (show ¬ ("put" : Str) = ("has" : Str) from by decide +kernel)]
        refine iteF ?_
        refine ⟨_, rfl, rfl, _, rfl, ?_⟩
        rw [dec_str, decide_eq_false (show ¬ ("put" : Str) = ("start" : Str) from by decide +kernel)]
        refine iteF ?_
        refine ⟨_, rfl, rfl, _, rfl, ?_⟩
        rw [dec_str, decide_eq_false (show ¬ ("put" : Str) = ("finish" : Str) from by decide +kernel)]
        refine iteF ?_
        refine ⟨_, rfl, rfl, _, rfl, ?_⟩
        rw [dec_str, decide_eq_true (show ("put" : Str) = ("put" : Str) from rfl)]
        refine iteT ?_
        exact ⟨_, rfl, _, rfl, _, rfl, qa, _, 2, .str (word b), rfl, rfl, SqT.of hq, rfl, _, rfl, qa, _, 3, .str t, rfl, rfl, SqT.of hq, rfl, M, A, i, cl, b, t, rfl, mo, e6, hi, op, tok _ _ _ rfl, fun M' v H' S e' rp => q M' v H' S e' rp⟩
    | name c nm a =>
      cases hcl
      refine ⟨_, rfl, qa, _, 0, .str "name", rfl, rfl, SqT.of hq, rfl, _, rfl, qa, _, 1, .int cl, rfl, rfl, SqT.of hq, rfl, ?_⟩
      refine ⟨_, rfl, rfl, _, rfl, ?_⟩
      rw [dec_str, decide_eq_false (show ¬ ("name" : Str) = "finish" from by decide +kernel)]
      refine iteF ?_
      refine ⟨_, rfl, _, rfl, M.md, _, rfl, mo.g3, M.pn, ov, rfl, gov, ?_⟩
      rw [eov]
      cases op : opn A.P cl with
      | false =>
        rw [ans_shut rfl op] at q
        exact ⟨true, rfl, iteT ⟨_, rfl, by show 2 ≤ sizeLine; decide, fun p np => q M _ _ (.same mo (same_upd np)) (e6.mono (by omega)) ⟨p, rfl, upd_same⟩⟩⟩
      | true =>
        rw [ans_open rfl op] at q
        refine ⟨false, rfl, iteF ?_⟩
        refine ⟨_, rfl, rfl, _, rfl, ?_⟩
        rw [dec_str, decide_eq_false (show ¬ ("name" : Str) = ("has" : Str) from by decide +kernel)]
        refine iteF ?_
        refine ⟨_, rfl, rfl, _, rfl, ?_⟩
        rw [dec_str, decide_eq_false (show ¬ ("name" : Str) = ("start" : Str) from by decide +kernel)]
        refine iteF ?_
        refine ⟨_, rfl, rfl, _, rfl, ?_⟩
        rw [dec_str, decide_eq_false (show ¬ ("name" : Str) = ("finish" : Str) from by decide +kernel)]
        refine iteF ?_
        refine ⟨_, rfl, rfl, _, rfl, ?_⟩
        rw [dec_str, decide_eq_false (show ¬ ("name" : Str) = ("put" : Str) from by decide +kernel)]
        refine iteF ?_
        refine ⟨_, rfl, 2, rfl, qa, _, rfl, SqT.of hq, (by show ¬ (HT.sIx 4 0 (some 2) = 0 ∧ _); exact fun z => absurd z.1 (by decide)), fun p0 np0 => ?_⟩
        have s1 : Same H (L2.upd H p0 (.tup [.str nm, .str a])) := same_upd np0
        have hp0 : (L2.upd H p0 (.tup [.str nm, .str a])) p0 = some (.tup [.str nm, .str a]) := upd_same
        rw [show cutV ((Rq.name cl nm a).keys.map kV) (some 2) none = [.str nm, .str a] from rfl]
        generalize L2.upd H p0 (.tup [.str nm, .str a]) = H1 at s1 hp0
        have mo1 := mo.same s1
        refine ⟨p0, _, rfl, SqT.of hp0, rfl, _, _, rfl, _, _, rfl, rfl, ?_⟩
        unfold underA nameA at q
        dsimp only at q
        refine ⟨_, rfl, _, rfl, M, a, rfl, mo1, gd, by decide, rk3 _ _, fun H2 s2 => ⟨_, rfl, ?_⟩⟩
        have s02 := s1.trans s2
        have mo2 := mo.same s02
        have S2 := MS.same mo s02
        have lacks : (iwo 3 A.B "image" a || iwo 3 A.B "bundle" a) = false → ∀ p, H2 p = none → Q (.ref p) (L2.upd H2 p (.tup [.str "lacks", .str a])) := fun h p np => by
          rw [h] at q
          exact q M _ _ (S2.trans (.same mo2 (same_upd np))) (e6.mono (by omega)) ⟨p, rfl, upd_same⟩
        have iw : ∀ k, iwo 3 A.B k a = match lk A.B a with | none => false | some y => decide (y.1 = k) && wholeN 3 A.B a := fun k => rfl
        rw [e6.b]
        cases hw : wholeN 3 A.B a with
        | false =>
          refine iteT (iteT ⟨_, rfl, by show 2 ≤ sizeLine; decide, lacks ?_⟩)
          rw [iw, iw, hw]
          cases lk A.B a with
          | none => rfl
          | some y => simp
        | true =>
          refine iteF ?_
          obtain ⟨x, ex⟩ : ∃ x, lk A.B a = some x := by
            cases e : lk A.B a with
            | none => rw [wholeN_none e] at hw; cases hw
            | some x => exact ⟨x, rfl⟩
          have gx : Good x := e6.good _ (lk_mem ex)
          obtain ⟨t, g, ht⟩ := mo2.hb.get (a := a) (x := x) (by rw [e6.b]; exact ex)
          refine ⟨_, rfl, M.md, _, rfl, mo2.g1, _, rfl, M.bl, .ref t, rfl, g, t, [.str x.1, .str x.2], 0, .str x.1, rfl, rfl, SqT.of ht, at2_0, rfl, _, rfl, ?_⟩
          rw [dec_str]
          rw [iw, iw, hw, ex] at q
          rw [iw, iw, hw, ex] at lacks
          dsimp only at q lacks
          by_cases hk : x.1 = "layer"
          · rw [decide_eq_true hk]
            refine iteT ⟨_, rfl, by show 2 ≤ sizeLine; decide, lacks ?_⟩
            rw [hk]; decide +kernel
          · rw [decide_eq_false hk]
            have ok : ((decide (x.1 = "image") && true) || (decide (x.1 = "bundle") && true)) = true := by
              rcases gx.2.2 with e | ⟨e, _⟩ | ⟨e, _⟩
              · exact absurd e hk
              · rw [decide_eq_true e]; rfl
              · rw [decide_eq_true e]; simp
            rw [if_pos ok] at q
            refine iteF ⟨_, rfl, M.md, _, rfl, mo2.g2, ?_⟩
            refine ⟨_, rfl, _, rfl, _, rfl, M.nm, _, rfl, DPut.k (k := .inr nm) mo2.hn ?_, ?_⟩
            · rw [nm_len, sizeLine_eq, e6.n]; have := e6.nN; omega
            rw [nm_put]
            have S3 := mo2.names (setN M.N nm a)
            have e3 := e6.named nm a
            refine ⟨_, rfl, _, rfl, _, rfl, e3.keep (E := E) S3.mo (by omega) op a fun M' v H' S e' rp => ?_⟩
            refine ⟨_, rfl, _, rfl, by show 3 ≤ sizeLine; decide, fun p np => ?_⟩
            exact q M' _ _ (((S2.trans S3).trans S).trans (.same S.mo (same_upd np))) e' ⟨p, rfl, upd_same⟩
    | opn => cases hcl
    | part u at_ t => cases hcl
    | close c => cases hcl
    | look nm => cases hcl
    | get a at_ cnt => cases hcl
    | drop nm => cases hcl
end
end LW
namespace LW
open PySem PySem.Spec PyProof.Rows L2 GxR
def sp_answer6 : Sp := fun vs H Q _ => ∃ (M : M6) (A : Ab) (i : Nat) (qa : Addr) (rq : Rq), vs = [.ref M.md, .ref qa] ∧ MO M H ∧ E6 i A M ∧ i ≤ 400 ∧ H qa = some (.tup (rq.keys.map kV)) ∧ (∀ c b t, rq = .put c b t → TxOk b t) ∧ (∀ u a t, rq = .part u a t → (∀ z ∈ t.cps.toList, z ∈ drawn) ∧ t.length ≤ 3) ∧ ∀ M' v H', MS M M' H H' → E6 (i + 2) (ansA A rq).1 M' → Rep H' v (ansA A rq).2 → Q v H'
theorem ans_look0 {A : Ab} {nm : Str} (h : lkN A.N nm = none) : ansA A (.look nm) = (A, [.inr "nothing", .inr nm]) := by
  unfold ansA
  dsimp only [Rq.cl]
  rw [h]
theorem ans_look1 {A : Ab} {nm x : Str} (h : lkN A.N nm = some x) : ansA A (.look nm) = (A, [.inr "leads", .inr nm, .inr x]) := by
  unfold ansA
  dsimp only [Rq.cl]
  rw [h]
theorem ans_get0 {A : Ab} {a : Str} {at_ cnt : Int} (h : lk A.B a = none) : ansA A (.get a at_ cnt) = (A, [.inr "lacks", .inr a]) := by
  unfold ansA
  dsimp only [Rq.cl]
  rw [h]
theorem ans_get1 {A : Ab} {a : Str} {at_ cnt : Int} {x : Blb} (h : lk A.B a = some x) : ansA A (.get a at_ cnt) = (A, [.inr "piece", .inr a, .inr x.1, .inl at_, .inr (cutS x.2 (some at_) (some (at_ + cnt))), .inl x.2.length]) := by
  unfold ansA
  dsimp only [Rq.cl]
  rw [h]
theorem ans_part {A : Ab} {u at_ : Int} {t : Str} : ansA A (.part u at_ t) = partA A u at_ t := rfl
theorem E6.part {i : Nat} {A : Ab} {M : M6} (e : E6 i A M) {u : Int} {z t : Str} (h : lkU A.U u = some z) (ht : (∀ c ∈ t.cps.toList, c ∈ drawn) ∧ t.length ≤ 3) : E6 (i + 1) { A with U := setUi A.U u (z ++ t) } { M with U := setUi M.U u (z ++ t) } := by
  have q := e.mono (Nat.le_succ i)
  obtain ⟨e0, he0, _, ez⟩ := lkU_mem h
  have hd := e.dr e0 he0
  rw [ez] at hd
  refine { q with u := ?_, nU := ?_, dr := fun x hx => ?_, ndU := by rw [setUi_fst]; exact e.ndU, lU := fun x hx => ?_ }
  · show setUi M.U u (z ++ t) = setUi A.U u (z ++ t)
    rw [e.u]
  · show (setUi A.U u (z ++ t)).length ≤ i + 1
    have := e.nU
    rw [setUi, List.length_map]; omega
  · obtain ⟨x1, hx1, rfl⟩ := List.mem_map.mp hx
    by_cases w : (x1.1 : Int) = u
    · rw [if_pos w]
      have tc : (z ++ t).cps.toList = z.cps.toList ++ t.cps.toList := TL.tl_append z t
      refine ⟨fun c hc => ?_, ?_⟩
      · have hc : c ∈ (z ++ t).cps.toList := hc
        rw [tc] at hc
        rcases List.mem_append.mp hc with hc | hc
        · exact hd.1 c hc
        · exact ht.1 c hc
      · show (z ++ t).length ≤ 3 * (i + 1)
        have : (z ++ t).length = z.length + t.length := by
          show (z ++ t).cps.size = z.cps.size + t.cps.size
          rw [← Array.length_toList, tc, List.length_append, Array.length_toList, Array.length_toList]
        have := hd.2
        have := ht.2
        omega
    · rw [if_neg w]; exact q.dr x1 hx1
  · have : x.1 ∈ (setUi A.U u (z ++ t)).map (·.1) := List.mem_map.mpr ⟨x, hx, rfl⟩
    rw [setUi_fst] at this
    obtain ⟨e', he', q'⟩ := List.mem_map.mp this
    rw [← q']; exact e.lU e' he'
theorem outK_keys (L : List KE7) (nd : (L.map (·.i)).Nodup) : ((outK L).map (·.1)).Nodup := by
  rw [outK, List.map_map]
  have : L.map ((·.1) ∘ fun e : KE7 => ((Sum.inl (e.i : Int) : Key), V.ref e.li)) = (L.map (·.i)).map fun j : Nat => (Sum.inl (j : Int) : Key) := by rw [List.map_map]; rfl
  rw [this]
  exact List.Pairwise.map _ (fun a b n h => n (by injection h with h; omega)) nd
theorem nmK_keys (N : List (Str × Str)) (nd : (N.map (·.1)).Nodup) : ((nmK N).map (·.1)).Nodup := by
  rw [nmK, List.map_map]
  have : N.map ((·.1) ∘ fun e : Str × Str => ((Sum.inr e.1 : Key), V.str e.2)) = (N.map (·.1)).map fun j : Str => (Sum.inr j : Key) := by rw [List.map_map]; rfl
  rw [this]
  exact List.Pairwise.map _ (fun a b n h => n (by injection h)) nd
abbrev s_law_answer : Stmt := topS 50
abbrev N_law_answer : List Str := ["model", "request", "kind", "pins", "texts", "address", "at", "count", "text"]
abbrev P_law_answer : List Str := ["model", "request"]
theorem sc_law_answer : FnScope N_law_answer P_law_answer (defScope s_law_answer) := ⟨rfl, rfl, rfl, by decide +kernel, rfl, by decide +kernel, by decide +kernel⟩
section
variable {P : Program} {w : World} {K : PySem.W.Frag} {mg : Str → Option Value} {base : Heap} {cM cR : Addr} {c : CA}
theorem ok_law_answer {f : Addr} {fd : FuncData} (F : Fun K "_law_answer" "_law_answer" s_law_answer f fd) (T : Tx K mg cM cR c.U) (TC : Tc K mg c.C) (TK : Tk K mg c.K c.L) (TG : Tg K w mg c.G)
    (C__law_claimed : Cal P w K mg base CX0 10 "_law_claimed" P_law_claimed sp_claimed6)
    (C__law_without : Cal P w K mg base CX0 1 "_law_without" P_law_without sp_without6) : FnOk P w K mg base CX0 11 f fd P_law_answer sp_answer6 := by
  refine F.ok sc_law_answer (fun vs H Q E h => ?_) (fun cdv A outer s H vs Q E hr h => ?_)
  · obtain ⟨_, _, _, _, _, rfl, _⟩ := h
    rfl
  · obtain ⟨M, A, i, qa, rq, rfl, mo, e6, hi, hq, tok, pok, q⟩ := h
    have nd := sc_law_answer.nd
    have hu := hu_of hr
    refine ⟨_, pss_cons (ps_set (i := 2) nd rfl (Or.inl rfl) (pe_ix ix_tup (pv 1) pe_int (fun _ _ => rfl)))
  (pss_cons (ps_if (pt_cmpR op_in_seq (pv 2) (pe_lst (pa_cons pe_str (pa_cons pe_str (pa_cons pe_str (pa_cons pe_str (pa_cons pe_str pa_nil)))))) (by rfl))
    (pss_one (ps_ret (pe_cal C__law_claimed hr (pa_cons (pv 0) (pa_cons (pv 1) pa_nil)))))
    (pss_nil))
  (pss_cons (ps_if (pt_cmpR op_eq (pv 2) pe_str (nomark _))
    (pss_cons (ps_dput hu (pv 0) pe_str (pe_op op_add (pe_dget hu (pv 0) pe_str (fun _ _ => rfl)) pe_int) rfl)
  (pss_cons (ps_set (i := 3) nd rfl (Or.inl rfl) (pe_dget hu (pv 0) pe_str (fun _ _ => rfl)))
  (pss_cons (ps_dput hu (pv 3) (pe_dget hu (pv 0) pe_str (fun _ _ => rfl)) (pe_lst pa_nil) rfl)
  (pss_one (ps_ret (pe_tup (pa_cons pe_str (pa_cons (pe_dget hu (pv 0) pe_str (fun _ _ => rfl)) pa_nil))))))))
    (pss_nil))
  (pss_cons (ps_if (pt_cmpR op_eq (pv 2) pe_str (nomark _))
    (pss_cons (ps_set (i := 4) nd rfl (Or.inl rfl) (pe_dget hu (pv 0) pe_str (fun _ _ => rfl)))
  (pss_cons (ps_if (pt_cmp (pc_dnotin hu (pe_ix ix_tup (pv 1) pe_int (fun _ _ => rfl)) (pv 4)))
    (pss_one (ps_ret (pe_tup (pa_cons pe_str (pa_cons (pe_ix ix_tup (pv 1) pe_int (fun _ _ => rfl)) pa_nil)))))
    (pss_nil))
  (pss_cons (ps_if (pt_cmpR op_eq (pe_ix ix_tup (pv 1) pe_int (fun _ _ => rfl)) (pe_callB call_len_str (by rfl) T.len (by decide +kernel) (pa_cons (pe_dget hu (pv 4) (pe_ix ix_tup (pv 1) pe_int (fun _ _ => rfl)) (fun _ _ => rfl)) pa_nil)) (nomark _))
    (pss_one (ps_dput hu (pv 4) (pe_ix ix_tup (pv 1) pe_int (fun _ _ => rfl)) (pe_op op_add_str (pe_dget hu (pv 4) (pe_ix ix_tup (pv 1) pe_int (fun _ _ => rfl)) (fun _ _ => rfl)) (pe_ix ix_tup (pv 1) pe_int (fun _ _ => rfl))) rfl))
    (pss_nil))
  (pss_one (ps_ret (pe_tup (pa_cons pe_str (pa_cons (pe_ix ix_tup (pv 1) pe_int (fun _ _ => rfl)) (pa_cons (pe_callB call_len_str (by rfl) T.len (by decide +kernel) (pa_cons (pe_dget hu (pv 4) (pe_ix ix_tup (pv 1) pe_int (fun _ _ => rfl)) (fun _ _ => rfl)) pa_nil)) pa_nil)))))))))
    (pss_nil))
  (pss_cons (ps_if (pt_cmpR op_eq (pv 2) pe_str (nomark _))
    (pss_cons (ps_dput hu (pv 0) pe_str (pe_cal C__law_without hr (pa_cons (pe_dget hu (pv 0) pe_str (fun _ _ => rfl)) (pa_cons (pe_ix ix_tup (pv 1) pe_int (fun _ _ => rfl)) pa_nil))) rfl)
  (pss_one (ps_ret (pe_tup (pa_cons pe_str (pa_cons (pe_ix ix_tup (pv 1) pe_int (fun _ _ => rfl)) pa_nil))))))
    (pss_nil))
  (pss_cons (ps_if (pt_cmpR op_eq (pv 2) pe_str (nomark _))
    (pss_cons (ps_dput hu (pv 0) pe_str (pe_cal C__law_without hr (pa_cons (pe_dget hu (pv 0) pe_str (fun _ _ => rfl)) (pa_cons (pe_ix ix_tup (pv 1) pe_int (fun _ _ => rfl)) pa_nil))) rfl)
  (pss_one (ps_ret (pe_tup (pa_cons pe_str (pa_cons (pe_ix ix_tup (pv 1) pe_int (fun _ _ => rfl)) pa_nil))))))
    (pss_nil))
  (pss_cons (ps_if (pt_cmpR op_eq (pv 2) pe_str (nomark _))
    (pss_cons (ps_if (pt_cmp (pc_din hu (pe_ix ix_tup (pv 1) pe_int (fun _ _ => rfl)) (pe_dget hu (pv 0) pe_str (fun _ _ => rfl))))
    (pss_one (ps_ret (pe_tup (pa_cons pe_str (pa_cons (pe_ix ix_tup (pv 1) pe_int (fun _ _ => rfl)) (pa_cons (pe_dget hu (pe_dget hu (pv 0) pe_str (fun _ _ => rfl)) (pe_ix ix_tup (pv 1) pe_int (fun _ _ => rfl)) (fun _ _ => rfl)) pa_nil))))))
    (pss_nil))
  (pss_one (ps_ret (pe_tup (pa_cons pe_str (pa_cons (pe_ix ix_tup (pv 1) pe_int (fun _ _ => rfl)) pa_nil))))))
    (pss_nil))
  (pss_cons (ps_asg (pe_slice L2.sl_tup (pv 1) (po_some pe_int) po_none) (pg_tup rfl (pgs_cons (pg_name (i := 5) nd rfl (Or.inl rfl)) (pgs_cons (pg_name (i := 6) nd rfl (Or.inl rfl)) (pgs_cons (pg_name (i := 7) nd rfl (Or.inl rfl)) pgs_nil)))))
  (pss_cons (ps_if (pt_cmp (pc_dnotin hu (pv 5) (pe_dget hu (pv 0) pe_str (fun _ _ => rfl))))
    (pss_one (ps_ret (pe_tup (pa_cons pe_str (pa_cons (pv 5) pa_nil)))))
    (pss_nil))
  (pss_cons (ps_asg (pe_dget hu (pe_dget hu (pv 0) pe_str (fun _ _ => rfl)) (pv 5) (fun _ _ => rfl)) (pg_tup rfl (pgs_cons (pg_name (i := 2) nd rfl (Or.inl rfl)) (pgs_cons (pg_name (i := 8) nd rfl (Or.inl rfl)) pgs_nil))))
  (pss_one (ps_ret (pe_tup (pa_cons pe_str (pa_cons (pv 5) (pa_cons (pv 2) (pa_cons (pv 6) (pa_cons (pe_slice sl_str (pv 8) (po_some (pv 6)) (po_some (pe_op op_add (pv 6) (pv 7)))) (pa_cons (pe_callB call_len_str (by rfl) T.len (by decide +kernel) (pa_cons (pv 8) pa_nil)) pa_nil)))))))))))))))))), ?_⟩
    cases rq with
    | has c a =>
      refine ⟨_, rfl, qa, _, 0, .str "has", rfl, rfl, SqT.of hq, rfl, ?_⟩
      refine ⟨_, rfl, by show 5 ≤ sizeLine; decide, fun l0 nl0 => ⟨l0, _, rfl, .inl (SqL.of upd_same), rfl, rfl, _, rfl, ?_⟩⟩
      have s0 := same_upd nl0 (o := .lst [.str "has", .str "start", .str "finish", .str "put", .str "name"])
      generalize L2.upd H l0 (.lst [.str "has", .str "start", .str "finish", .str "put", .str "name"]) = H0 at s0
      have mo0 := mo.same s0
      have S0 := MS.same mo s0
      have hq0 := s0 _ _ hq
      rw [show (if false = true then !inV (.str "has") [V.str "has", V.str "start", V.str "finish", V.str "put", V.str "name"] else inV (.str "has") [V.str "has", V.str "start", V.str "finish", V.str "put", V.str "name"]) = true from by decide +kernel]
      exact iteT ⟨_, rfl, _, rfl, M, A, i, qa, _, c, rfl, rfl, mo0, e6, hi, hq0, tok, fun M' v H' S e' rp => q M' v H' (S0.trans S) e' rp⟩
    | start c =>
      refine ⟨_, rfl, qa, _, 0, .str "start", rfl, rfl, SqT.of hq, rfl, ?_⟩
      refine ⟨_, rfl, by show 5 ≤ sizeLine; decide, fun l0 nl0 => ⟨l0, _, rfl, .inl (SqL.of upd_same), rfl, rfl, _, rfl, ?_⟩⟩
      have s0 := same_upd nl0 (o := .lst [.str "has", .str "start", .str "finish", .str "put", .str "name"])
      generalize L2.upd H l0 (.lst [.str "has", .str "start", .str "finish", .str "put", .str "name"]) = H0 at s0
      have mo0 := mo.same s0
      have S0 := MS.same mo s0
      have hq0 := s0 _ _ hq
      rw [show (if false = true then !inV (.str "start") [V.str "has", V.str "start", V.str "finish", V.str "put", V.str "name"] else inV (.str "start") [V.str "has", V.str "start", V.str "finish", V.str "put", V.str "name"]) = true from by decide +kernel]
      exact iteT ⟨_, rfl, _, rfl, M, A, i, qa, _, c, rfl, rfl, mo0, e6, hi, hq0, tok, fun M' v H' S e' rp => q M' v H' (S0.trans S) e' rp⟩
    | fin u c a =>
      refine ⟨_, rfl, qa, _, 0, .str "finish", rfl, rfl, SqT.of hq, rfl, ?_⟩
      refine ⟨_, rfl, by show 5 ≤ sizeLine; decide, fun l0 nl0 => ⟨l0, _, rfl, .inl (SqL.of upd_same), rfl, rfl, _, rfl, ?_⟩⟩
      have s0 := same_upd nl0 (o := .lst [.str "has", .str "start", .str "finish", .str "put", .str "name"])
      generalize L2.upd H l0 (.lst [.str "has", .str "start", .str "finish", .str "put", .str "name"]) = H0 at s0
      have mo0 := mo.same s0
      have S0 := MS.same mo s0
      have hq0 := s0 _ _ hq
      rw [show (if false = true then !inV (.str "finish") [V.str "has", V.str "start", V.str "finish", V.str "put", V.str "name"] else inV (.str "finish") [V.str "has", V.str "start", V.str "finish", V.str "put", V.str "name"]) = true from by decide +kernel]
      exact iteT ⟨_, rfl, _, rfl, M, A, i, qa, _, c, rfl, rfl, mo0, e6, hi, hq0, tok, fun M' v H' S e' rp => q M' v H' (S0.trans S) e' rp⟩
    | put c b t =>
      refine ⟨_, rfl, qa, _, 0, .str "put", rfl, rfl, SqT.of hq, rfl, ?_⟩
      refine ⟨_, rfl, by show 5 ≤ sizeLine; decide, fun l0 nl0 => ⟨l0, _, rfl, .inl (SqL.of upd_same), rfl, rfl, _, rfl, ?_⟩⟩
      have s0 := same_upd nl0 (o := .lst [.str "has", .str "start", .str "finish", .str "put", .str "name"])
      generalize L2.upd H l0 (.lst [.str "has", .str "start", .str "finish", .str "put", .str "name"]) = H0 at s0
      have mo0 := mo.same s0
      have S0 := MS.same mo s0
      have hq0 := s0 _ _ hq
      rw [show (if false = true then !inV (.str "put") [V.str "has", V.str "start", V.str "finish", V.str "put", V.str "name"] else inV (.str "put") [V.str "has", V.str "start", V.str "finish", V.str "put", V.str "name"]) = true from by decide +kernel]
      exact iteT ⟨_, rfl, _, rfl, M, A, i, qa, _, c, rfl, rfl, mo0, e6, hi, hq0, tok, fun M' v H' S e' rp => q M' v H' (S0.trans S) e' rp⟩
    | name c nm a =>
      refine ⟨_, rfl, qa, _, 0, .str "name", rfl, rfl, SqT.of hq, rfl, ?_⟩
      refine ⟨_, rfl, by show 5 ≤ sizeLine; decide, fun l0 nl0 => ⟨l0, _, rfl, .inl (SqL.of upd_same), rfl, rfl, _, rfl, ?_⟩⟩
      have s0 := same_upd nl0 (o := .lst [.str "has", .str "start", .str "finish", .str "put", .str "name"])
      generalize L2.upd H l0 (.lst [.str "has", .str "start", .str "finish", .str "put", .str "name"]) = H0 at s0
      have mo0 := mo.same s0
      have S0 := MS.same mo s0
      have hq0 := s0 _ _ hq
      rw [show (if false = true then !inV (.str "name") [V.str "has", V.str "start", V.str "finish", V.str "put", V.str "name"] else inV (.str "name") [V.str "has", V.str "start", V.str "finish", V.str "put", V.str "name"]) = true from by decide +kernel]
      exact iteT ⟨_, rfl, _, rfl, M, A, i, qa, _, c, rfl, rfl, mo0, e6, hi, hq0, tok, fun M' v H' S e' rp => q M' v H' (S0.trans S) e' rp⟩
    | opn =>
      refine ⟨_, rfl, qa, _, 0, .str "open", rfl, rfl, SqT.of hq, rfl, ?_⟩
      refine ⟨_, rfl, by show 5 ≤ sizeLine; decide, fun l0 nl0 => ⟨l0, _, rfl, .inl (SqL.of upd_same), rfl, rfl, _, rfl, ?_⟩⟩
      have s0 := same_upd nl0 (o := .lst [.str "has", .str "start", .str "finish", .str "put", .str "name"])
      generalize L2.upd H l0 (.lst [.str "has", .str "start", .str "finish", .str "put", .str "name"]) = H0 at s0
      have mo0 := mo.same s0
      have S0 := MS.same mo s0
      have hq0 := s0 _ _ hq
      rw [show (if false = true then !inV (.str "open") [V.str "has", V.str "start", V.str "finish", V.str "put", V.str "name"] else inV (.str "open") [V.str "has", V.str "start", V.str "finish", V.str "put", V.str "name"]) = false from by decide +kernel]
      refine iteF ?_
      refine ⟨_, rfl, rfl, _, rfl, ?_⟩
      rw [dec_str, decide_eq_true (show ("open" : Str) = ("open" : Str) from rfl)]
      refine iteT ?_
      refine ⟨_, rfl, M.md, _, rfl, mo0.g5, _, _, rfl, rfl, _, rfl, M.md, _, rfl, DPut.k (k := .inr "opened") mo0.hm (by show 6 < sizeLine; decide), ?_⟩
      have S1 := mo0.nums (M.n + 1) M.m
      rw [show putK (mdK M) (.inr "opened") (.int ((M.n : Int) + 1)) = mdK { M with n := M.n + 1 } from rfl]
      generalize L2.upd H0 M.md (.dK (mdK { M with n := M.n + 1 })) = H1 at S1
      have mo1 : MO { M with n := M.n + 1 } H1 := S1.mo
      refine ⟨_, rfl, M.md, _, rfl, mo1.g3, ?_⟩
      refine ⟨Nat.zero_le _, fun p np => ?_⟩
      have s2 := same_upd np (o := .lst [])
      have mo2 := mo1.same s2
      have hp2 : (L2.upd H1 p (.lst [])) p = some (.lst (([] : List Str).map V.str)) := upd_same
      generalize L2.upd H1 p (.lst []) = H2 at s2 mo2 hp2
      have lL : M.L.length ≤ i := by
        have := congrArg List.length e6.ids
        rw [List.length_map, List.length_map] at this
        have := e6.nP; omega
      refine ⟨_, rfl, _, rfl, M.md, _, rfl, mo2.g5, M.pn, _, rfl, DPut.k (k := .inl ((M.n + 1 : Nat) : Int)) mo2.hp (by show (outK M.L).length < _; rw [outK, List.length_map, sizeLine_eq]; omega), ?_⟩
      have nw : ∀ e ∈ M.L, e.i ≠ M.n + 1 := fun e he z => by
        have hin : e.i ∈ A.P.map (·.1) := by rw [← e6.ids]; exact List.mem_map.mpr ⟨e, he, rfl⟩
        obtain ⟨p1, hp1, e1⟩ := List.mem_map.mp hin
        have := e6.lP p1 hp1
        have e1 : p1.1 = e.i := e1
        rw [e6.c] at z
        omega
      rw [show putK (outK ({ M with n := M.n + 1 } : M6).L) (.inl ((M.n + 1 : Nat) : Int)) (.ref p) = outK (M.L ++ [⟨M.n + 1, p, []⟩]) from outK_new nw p]
      have S3 := mo2.pins (M.L ++ [⟨M.n + 1, p, []⟩]) (H0 := H1) (fun e he => by
        rcases List.mem_append.mp he with he | he
        · exact mo2.hl e he
        · rw [List.mem_singleton.mp he]; exact hp2)
        s2 fun e he => by
        rcases List.mem_append.mp he with he | he
        · exact .inl ⟨e, he, rfl⟩
        · rw [List.mem_singleton.mp he]; exact .inr np
      have S03 : MS M { M with n := M.n + 1, L := M.L ++ [⟨M.n + 1, p, []⟩] } H _ := (S0.trans S1).trans S3
      refine ⟨_, rfl, M.md, _, rfl, S03.mo.g5, by show 2 ≤ sizeLine; decide, fun p2 np2 => ?_⟩
      have eo := e6.opened p
      rw [← e6.c] at eo
      refine q _ _ _ (S03.trans (.same S03.mo (same_upd np2))) ?_ ⟨p2, rfl, ?_⟩
      · show E6 (i + 2) { A with n := A.n + 1, P := A.P ++ [(A.n + 1, [])] } _
        rw [← e6.c]
        exact eo.mono (by omega)
      · rw [upd_same]
        show some (HO.tup [.str "claim", .int ((M.n + 1 : Nat) : Int)]) = some (HO.tup [.str "claim", .int ((A.n + 1 : Nat) : Int)])
        rw [e6.c]
    | part u at_ t =>
      refine ⟨_, rfl, qa, _, 0, .str "part", rfl, rfl, SqT.of hq, rfl, ?_⟩
      refine ⟨_, rfl, by show 5 ≤ sizeLine; decide, fun l0 nl0 => ⟨l0, _, rfl, .inl (SqL.of upd_same), rfl, rfl, _, rfl, ?_⟩⟩
      have s0 := same_upd nl0 (o := .lst [.str "has", .str "start", .str "finish", .str "put", .str "name"])
      generalize L2.upd H l0 (.lst [.str "has", .str "start", .str "finish", .str "put", .str "name"]) = H0 at s0
      have mo0 := mo.same s0
      have S0 := MS.same mo s0
      have hq0 := s0 _ _ hq
      rw [show (if false = true then !inV (.str "part") [V.str "has", V.str "start", V.str "finish", V.str "put", V.str "name"] else inV (.str "part") [V.str "has", V.str "start", V.str "finish", V.str "put", V.str "name"]) = false from by decide +kernel]
      refine iteF ?_
      refine ⟨_, rfl, rfl, _, rfl, ?_⟩
      rw [dec_str, decide_eq_false (show ¬ ("part" : Str) = ("open" : Str) from by decide +kernel)]
      refine iteF ?_
      refine ⟨_, rfl, rfl, _, rfl, ?_⟩
      rw [dec_str, decide_eq_true (show ("part" : Str) = ("part" : Str) from rfl)]
      refine iteT ?_
      rw [ans_part] at q
      unfold partA at q
      refine ⟨_, rfl, M.md, _, rfl, mo0.g4, ?_⟩
      obtain ⟨ov, gov, eov⟩ : ∃ ov, DGet H0 M.tx (.int u) ov ∧ ov = (lkU A.U u).map V.str := ⟨_, DGet.k (k := .inl u) mo0.ht, by rw [tx_lk, e6.u]⟩
      refine ⟨_, rfl, qa, _, 1, .int u, rfl, rfl, SqT.of hq0, rfl, _, rfl, M.tx, ov, rfl, gov, ?_⟩
      rw [eov] at gov ⊢
      cases eu : lkU A.U u with
      | none =>
        rw [eu] at q
        exact ⟨true, rfl, iteT ⟨_, rfl, qa, _, 1, .int u, rfl, rfl, SqT.of hq0, rfl, by show 2 ≤ sizeLine; decide, fun p np => q M _ _ (S0.trans (.same mo0 (same_upd np))) (e6.mono (by omega)) ⟨p, rfl, upd_same⟩⟩⟩
      | some z =>
        rw [eu] at q gov
        dsimp only at q
        have tk := pok _ _ _ rfl
        obtain ⟨e0, he0, _, ez⟩ := lkU_mem eu
        have hd := e6.dr e0 he0
        rw [ez] at hd
        have lz : z.length ≤ sizeLine := by rw [sizeLine_eq]; omega
        refine ⟨false, rfl, iteF ⟨_, rfl, qa, _, 2, .int at_, rfl, rfl, SqT.of hq0, rfl, _, rfl, _, rfl, qa, _, 1, .int u, rfl, rfl, SqT.of hq0, rfl, M.tx, .str z, rfl, gov, z, rfl, lz, rfl, _, rfl, ?_⟩⟩
        rw [dec_int]
        by_cases ha : at_ = (z.length : Int)
        · rw [if_pos ha] at q
          rw [show (at_ == (z.length : Int)) = true from by rw [ha]; simp]
          refine iteT ⟨_, rfl, _, rfl, qa, _, 1, .int u, rfl, rfl, SqT.of hq0, rfl, M.tx, .str z, rfl, gov, _, rfl, qa, _, 3, .str t, rfl, rfl, SqT.of hq0, rfl, z, t, rfl, rfl, by rw [sizeLine_eq]; have := tk.2; omega, _, rfl, _, rfl, qa, _, 1, .int u, rfl, rfl, SqT.of hq0, rfl, M.tx, _, rfl, DPut.k (k := .inl u) mo0.ht ?_, ?_⟩
          · rw [tx_len, sizeLine_eq, e6.u]; have := e6.nU; omega
          rw [setUi_put (by rw [e6.u]; exact eu)]
          have S1 := mo0.texts (setUi M.U u (z ++ t))
          have ep := e6.part eu tk
          have hq2 := S1.gr.keep qa _ (fun z => by obtain ⟨kv, ek⟩ := mo0.got qa z; rw [hq0] at ek; cases ek) hq0 (fun _ z => nomatch z)
          have lk2 : lkU (setUi A.U u (z ++ t)) u = some (z ++ t) := by
            have key : ∀ {U : List (Nat × Str)}, lkU U u = some z → lkU (setUi U u (z ++ t)) u = some (z ++ t) := by
              intro U
              induction U with
              | nil => intro h; cases h
              | cons x r ih =>
                intro h
                obtain ⟨j, y⟩ := x
                unfold lkU at h
                unfold setUi
                rw [List.map_cons]
                by_cases w : (j : Int) = u
                · rw [if_pos (show (((j, y) : Nat × Str).1 : Int) = u from w)]
                  unfold lkU
                  rw [if_pos w]
                · rw [if_neg (show ¬ (((j, y) : Nat × Str).1 : Int) = u from w)]
                  rw [if_neg w] at h
                  unfold lkU
                  rw [if_neg w]
                  exact ih h
            exact key eu
          have gov2 : DGet (L2.upd H0 M.tx (.dK (LW.tx (setUi M.U u (z ++ t))))) M.tx (.int u) (some (.str (z ++ t))) := by
            have := DGet.k (k := .inl u) S1.mo.ht
            rw [show valV (LW.tx ({ M with U := setUi M.U u (z ++ t) } : M6).U) (.inl u) = some (.str (z ++ t)) from by
              show valV (LW.tx (setUi M.U u (z ++ t))) (.inl u) = _
              rw [tx_lk, e6.u, lk2]; rfl] at this
            exact this
          have lz2 : (z ++ t).length ≤ sizeLine := by
            obtain ⟨e1, he1, _, e1z⟩ := lkU_mem lk2
            have := (ep.dr e1 he1).2
            rw [e1z] at this
            rw [sizeLine_eq]; omega
          refine ⟨_, rfl, qa, _, 1, .int u, rfl, rfl, SqT.of hq2, rfl, _, rfl, _, rfl, qa, _, 1, .int u, rfl, rfl, SqT.of hq2, rfl, M.tx, .str (z ++ t), rfl, gov2, z ++ t, rfl, lz2, by show 3 ≤ sizeLine; decide, fun p np => ?_⟩
          exact q _ _ _ ((S0.trans S1).trans (.same S1.mo (same_upd np))) (ep.mono (by omega)) ⟨p, rfl, upd_same⟩
        · rw [if_neg ha] at q
          rw [show (at_ == (z.length : Int)) = false from by simpa using ha]
          refine iteF ⟨_, rfl, qa, _, 1, .int u, rfl, rfl, SqT.of hq0, rfl, _, rfl, _, rfl, qa, _, 1, .int u, rfl, rfl, SqT.of hq0, rfl, M.tx, .str z, rfl, gov, z, rfl, lz, by show 3 ≤ sizeLine; decide, fun p np => ?_⟩
          exact q M _ _ (S0.trans (.same mo0 (same_upd np))) (e6.mono (by omega)) ⟨p, rfl, upd_same⟩
    | close c =>
      refine ⟨_, rfl, qa, _, 0, .str "close", rfl, rfl, SqT.of hq, rfl, ?_⟩
      refine ⟨_, rfl, by show 5 ≤ sizeLine; decide, fun l0 nl0 => ⟨l0, _, rfl, .inl (SqL.of upd_same), rfl, rfl, _, rfl, ?_⟩⟩
      have s0 := same_upd nl0 (o := .lst [.str "has", .str "start", .str "finish", .str "put", .str "name"])
      generalize L2.upd H l0 (.lst [.str "has", .str "start", .str "finish", .str "put", .str "name"]) = H0 at s0
      have mo0 := mo.same s0
      have S0 := MS.same mo s0
      have hq0 := s0 _ _ hq
      rw [show (if false = true then !inV (.str "close") [V.str "has", V.str "start", V.str "finish", V.str "put", V.str "name"] else inV (.str "close") [V.str "has", V.str "start", V.str "finish", V.str "put", V.str "name"]) = false from by decide +kernel]
      refine iteF ?_
      refine ⟨_, rfl, rfl, _, rfl, ?_⟩
      rw [dec_str, decide_eq_false (show ¬ ("close" : Str) = ("open" : Str) from by decide +kernel)]
      refine iteF ?_
      refine ⟨_, rfl, rfl, _, rfl, ?_⟩
      rw [dec_str, decide_eq_false (show ¬ ("close" : Str) = ("part" : Str) from by decide +kernel)]
      refine iteF ?_
      refine ⟨_, rfl, rfl, _, rfl, ?_⟩
      rw [dec_str, decide_eq_true (show ("close" : Str) = ("close" : Str) from rfl)]
      refine iteT ?_
      refine ⟨_, rfl, M.md, _, rfl, mo0.g3, _, rfl, qa, _, 1, .int c, rfl, rfl, SqT.of hq0, rfl, M.pn, outK M.L, .inl c, rfl, mo0.hp, outK_keys _ e6.ndL, ?_, fun p H1 np s1 hp1 => ?_⟩
      · have := congrArg List.length e6.ids
        rw [List.length_map, List.length_map] at this
        rw [outK, List.length_map]
        have := e6.nP; omega
      rw [outK_drop] at hp1
      have mo1 := mo0.same s1
      have hq1 := s1 _ _ hq0
      refine ⟨_, rfl, M.md, _, rfl, DPut.k (k := .inr "pins") mo1.hm (by show 6 < sizeLine; decide), ?_⟩
      rw [show putK (mdK M) (.inr "pins") (.ref p) = mdK { M with pn := p, L := dropL M.L c } from rfl]
      have S1 := mo1.pinsP (mo0.new np) hp1 (fun e he => mo1.hl e (List.mem_filter.mp he).1) np s1 (fun e he => .inl ⟨e, (List.mem_filter.mp he).1, rfl⟩)
      have hq2 := S1.gr.keep qa _ (fun z => by obtain ⟨kv, ek⟩ := mo0.got qa z; rw [hq0] at ek; cases ek) hq0 (fun _ z => nomatch z)
      refine ⟨_, rfl, qa, _, 1, .int c, rfl, rfl, SqT.of hq2, rfl, by show 2 ≤ sizeLine; decide, fun p2 np2 => ?_⟩
      exact q _ _ _ ((S0.trans S1).trans (.same S1.mo (same_upd np2))) { (e6.closed c).mono (show i ≤ i + 2 by omega) with } ⟨p2, rfl, upd_same⟩
    | drop nm =>
      refine ⟨_, rfl, qa, _, 0, .str "drop", rfl, rfl, SqT.of hq, rfl, ?_⟩
      refine ⟨_, rfl, by show 5 ≤ sizeLine; decide, fun l0 nl0 => ⟨l0, _, rfl, .inl (SqL.of upd_same), rfl, rfl, _, rfl, ?_⟩⟩
      have s0 := same_upd nl0 (o := .lst [.str "has", .str "start", .str "finish", .str "put", .str "name"])
      generalize L2.upd H l0 (.lst [.str "has", .str "start", .str "finish", .str "put", .str "name"]) = H0 at s0
      have mo0 := mo.same s0
      have S0 := MS.same mo s0
      have hq0 := s0 _ _ hq
      rw [show (if false = true then !inV (.str "drop") [V.str "has", V.str "start", V.str "finish", V.str "put", V.str "name"] else inV (.str "drop") [V.str "has", V.str "start", V.str "finish", V.str "put", V.str "name"]) = false from by decide +kernel]
      refine iteF ?_
      refine ⟨_, rfl, rfl, _, rfl, ?_⟩
      rw [dec_str, decide_eq_false (show ¬ ("drop" : Str) = ("open" : Str) from by decide +kernel)]
      refine iteF ?_
      refine ⟨_, rfl, rfl, _, rfl, ?_⟩
      rw [dec_str, decide_eq_false (show ¬ ("drop" : Str) = ("part" : Str) from by decide +kernel)]
      refine iteF ?_
      refine ⟨_, rfl, rfl, _, rfl, ?_⟩
      rw [dec_str, decide_eq_false (show ¬ ("drop" : Str) = ("close" : Str) from by decide +kernel)]
      refine iteF ?_
      refine ⟨_, rfl, rfl, _, rfl, ?_⟩
      rw [dec_str, decide_eq_true (show ("drop" : Str) = ("drop" : Str) from rfl)]
      refine iteT ?_
      refine ⟨_, rfl, M.md, _, rfl, mo0.g2, _, rfl, qa, _, 1, .str nm, rfl, rfl, SqT.of hq0, rfl, M.nm, nmK M.N, .inr nm, rfl, mo0.hn, nmK_keys _ (by rw [e6.n]; exact e6.ndN), ?_, fun p H1 np s1 hp1 => ?_⟩
      · rw [nm_len, e6.n]
        have := e6.nN; omega
      rw [nmK_drop] at hp1
      have mo1 := mo0.same s1
      refine ⟨_, rfl, M.md, _, rfl, DPut.k (k := .inr "names") mo1.hm (by show 6 < sizeLine; decide), ?_⟩
      rw [show putK (mdK M) (.inr "names") (.ref p) = mdK { M with nm := p, N := dropN M.N nm } from rfl]
      have S1 := mo1.namesP (mo0.new np) hp1 np s1
      have hq2 := S1.gr.keep qa _ (fun z => by obtain ⟨kv, ek⟩ := mo0.got qa z; rw [hq0] at ek; cases ek) hq0 (fun _ z => nomatch z)
      refine ⟨_, rfl, qa, _, 1, .str nm, rfl, rfl, SqT.of hq2, rfl, by show 2 ≤ sizeLine; decide, fun p2 np2 => ?_⟩
      exact q _ _ _ ((S0.trans S1).trans (.same S1.mo (same_upd np2))) { (e6.dropped nm).mono (show i ≤ i + 2 by omega) with } ⟨p2, rfl, upd_same⟩
    | look nm =>
      refine ⟨_, rfl, qa, _, 0, .str "look", rfl, rfl, SqT.of hq, rfl, ?_⟩
      refine ⟨_, rfl, by show 5 ≤ sizeLine; decide, fun l0 nl0 => ⟨l0, _, rfl, .inl (SqL.of upd_same), rfl, rfl, _, rfl, ?_⟩⟩
      have s0 := same_upd nl0 (o := .lst [.str "has", .str "start", .str "finish", .str "put", .str "name"])
      generalize L2.upd H l0 (.lst [.str "has", .str "start", .str "finish", .str "put", .str "name"]) = H0 at s0
      have mo0 := mo.same s0
      have S0 := MS.same mo s0
      have hq0 := s0 _ _ hq
      rw [show (if false = true then !inV (.str "look") [V.str "has", V.str "start", V.str "finish", V.str "put", V.str "name"] else inV (.str "look") [V.str "has", V.str "start", V.str "finish", V.str "put", V.str "name"]) = false from by decide +kernel]
      refine iteF ?_
      refine ⟨_, rfl, rfl, _, rfl, ?_⟩
      rw [dec_str, decide_eq_false (show ¬ ("look" : Str) = ("open" : Str) from by decide +kernel)]
      refine iteF ?_
      refine ⟨_, rfl, rfl, _, rfl, ?_⟩
      rw [dec_str, decide_eq_false (show ¬ ("look" : Str) = ("part" : Str) from by decide +kernel)]
      refine iteF ?_
      refine ⟨_, rfl, rfl, _, rfl, ?_⟩
      rw [dec_str, decide_eq_false (show ¬ ("look" : Str) = ("close" : Str) from by decide +kernel)]
      refine iteF ?_
      refine ⟨_, rfl, rfl, _, rfl, ?_⟩
      rw [dec_str, decide_eq_false (show ¬ ("look" : Str) = ("drop" : Str) from by decide +kernel)]
      refine iteF ?_
      refine ⟨_, rfl, rfl, _, rfl, ?_⟩
      rw [dec_str, decide_eq_true (show ("look" : Str) = ("look" : Str) from rfl)]
      refine iteT ?_
      obtain ⟨ov, gov, eov⟩ : ∃ ov, DGet H0 M.nm (.str nm) ov ∧ ov = (lkN A.N nm).map V.str := ⟨_, DGet.k (k := .inr nm) mo0.hn, by rw [nm_val, e6.n]⟩
      refine ⟨_, rfl, qa, _, 1, .str nm, rfl, rfl, SqT.of hq0, rfl, _, rfl, M.md, _, rfl, mo0.g2, M.nm, ov, rfl, gov, ?_⟩
      rw [eov] at gov ⊢
      cases en : lkN A.N nm with
      | none =>
        have ea := ans_look0 en
        rw [ea] at q
        exact ⟨false, rfl, iteF ⟨_, rfl, qa, _, 1, .str nm, rfl, rfl, SqT.of hq0, rfl, by show 2 ≤ sizeLine; decide, fun p np => q M _ _ (S0.trans (.same mo0 (same_upd np))) (e6.mono (by omega)) ⟨p, rfl, upd_same⟩⟩⟩
      | some x =>
        have ea := ans_look1 en
        rw [ea] at q
        rw [en] at gov
        exact ⟨true, rfl, iteT ⟨_, rfl, qa, _, 1, .str nm, rfl, rfl, SqT.of hq0, rfl, _, rfl, M.md, _, rfl, mo0.g2, _, rfl, qa, _, 1, .str nm, rfl, rfl, SqT.of hq0, rfl, M.nm, .str x, rfl, gov, by show 3 ≤ sizeLine; decide, fun p np => q M _ _ (S0.trans (.same mo0 (same_upd np))) (e6.mono (by omega)) ⟨p, rfl, upd_same⟩⟩⟩
    | get a at_ cnt =>
      refine ⟨_, rfl, qa, _, 0, .str "get", rfl, rfl, SqT.of hq, rfl, ?_⟩
      refine ⟨_, rfl, by show 5 ≤ sizeLine; decide, fun l0 nl0 => ⟨l0, _, rfl, .inl (SqL.of upd_same), rfl, rfl, _, rfl, ?_⟩⟩
      have s0 := same_upd nl0 (o := .lst [.str "has", .str "start", .str "finish", .str "put", .str "name"])
      generalize L2.upd H l0 (.lst [.str "has", .str "start", .str "finish", .str "put", .str "name"]) = H0 at s0
      have mo0 := mo.same s0
      have S0 := MS.same mo s0
      have hq0 := s0 _ _ hq
      rw [show (if false = true then !inV (.str "get") [V.str "has", V.str "start", V.str "finish", V.str "put", V.str "name"] else inV (.str "get") [V.str "has", V.str "start", V.str "finish", V.str "put", V.str "name"]) = false from by decide +kernel]
      refine iteF ?_
      refine ⟨_, rfl, rfl, _, rfl, ?_⟩
      rw [dec_str, decide_eq_false (show ¬ ("get" : Str) = ("open" : Str) from by decide +kernel)]
      refine iteF ?_
      refine ⟨_, rfl, rfl, _, rfl, ?_⟩
      rw [dec_str, decide_eq_false (show ¬ ("get" : Str) = ("part" : Str) from by decide +kernel)]
      refine iteF ?_
      refine ⟨_, rfl, rfl, _, rfl, ?_⟩
      rw [dec_str, decide_eq_false (show ¬ ("get" : Str) = ("close" : Str) from by decide +kernel)]
      refine iteF ?_
      refine ⟨_, rfl, rfl, _, rfl, ?_⟩
      rw [dec_str, decide_eq_false (show ¬ ("get" : Str) = ("drop" : Str) from by decide +kernel)]
      refine iteF ?_
      refine ⟨_, rfl, rfl, _, rfl, ?_⟩
      rw [dec_str, decide_eq_false (show ¬ ("get" : Str) = ("look" : Str) from by decide +kernel)]
      refine iteF ?_
      refine ⟨_, rfl, 1, rfl, qa, _, rfl, SqT.of hq0, (by show ¬ (HT.sIx 4 0 (some 1) = 0 ∧ _); exact fun z => absurd z.1 (by decide)), fun p0 np0 => ?_⟩
      have s1 : Same H0 (L2.upd H0 p0 (.tup [.str a, .int at_, .int cnt])) := same_upd np0
      have hp0 : (L2.upd H0 p0 (.tup [.str a, .int at_, .int cnt])) p0 = some (.tup [.str a, .int at_, .int cnt]) := upd_same
      rw [show cutV ((Rq.get a at_ cnt).keys.map kV) (some 1) none = [.str a, .int at_, .int cnt] from rfl]
      generalize L2.upd H0 p0 (.tup [.str a, .int at_, .int cnt]) = H1 at s1 hp0
      have mo1 := mo0.same s1
      have S1 := S0.trans (.same mo0 s1)
      refine ⟨p0, _, rfl, SqT.of hp0, rfl, _, _, rfl, _, _, rfl, _, _, rfl, rfl, ?_⟩
      obtain ⟨ov, gov, eov⟩ := mo1.hb.isIn a
      refine ⟨_, rfl, _, rfl, M.md, _, rfl, mo1.g1, M.bl, ov, rfl, gov, ?_⟩
      rw [eov, e6.b]
      cases ex : lk A.B a with
      | none =>
        have ea := ans_get0 (at_ := at_) (cnt := cnt) ex
        rw [ea] at q
        exact ⟨true, rfl, iteT ⟨_, rfl, by show 2 ≤ sizeLine; decide, fun p np => q M _ _ (S1.trans (.same mo1 (same_upd np))) (e6.mono (by omega)) ⟨p, rfl, upd_same⟩⟩⟩
      | some x =>
        have ea := ans_get1 (at_ := at_) (cnt := cnt) ex
        rw [ea] at q
        obtain ⟨t, g, ht⟩ := mo1.hb.get (a := a) (x := x) (by rw [e6.b]; exact ex)
        have gx : Good x := e6.good _ (lk_mem ex)
        have lx : x.2.length ≤ sizeLine := by have := gx.1; rw [sizeLine_eq]; omega
        refine ⟨false, rfl, iteF ⟨_, rfl, M.md, _, rfl, mo1.g1, _, rfl, M.bl, .ref t, rfl, g, t, [.str x.1, .str x.2], rfl, SqT.of ht, rfl, _, _, rfl, _, _, rfl, rfl, ?_⟩⟩
        refine ⟨_, rfl, _, rfl, _, rfl, ?_⟩
        refine ⟨_, rfl, _, rfl, at_, rfl, _, rfl, _, rfl, at_, cnt, rfl, rfl, _, rfl, x.2, rfl, lx, _, rfl, x.2, rfl, lx, by show 6 ≤ sizeLine; decide, fun p np => ?_⟩
        exact q M _ _ (S1.trans (.same mo1 (same_upd np))) (e6.mono (by omega)) ⟨p, rfl, upd_same⟩
end
end LW
namespace LW
open PySem PySem.Spec PyProof.Rows L2 GxR
def sp_address6 : Sp := fun vs H Q _ => ∃ (a c0 : Addr) (M : M6), vs = [.ref a, .ref M.md] ∧ SL H a c0 ∧ MO M H ∧ (∀ e ∈ M.B, isAddr e.1 = true) ∧ M.B.length ≤ 5000 ∧ ∀ x H', isAddr x = true → SL H' a c0 → Mv a c0 H H' → Q (.str x) H'
abbrev s_law_address : Stmt := topS 52
abbrev N_law_address : List Str := ["state", "model", "known"]
abbrev P_law_address : List Str := ["state", "model"]
theorem sc_law_address : FnScope N_law_address P_law_address (defScope s_law_address) := ⟨rfl, rfl, rfl, by decide +kernel, rfl, by decide +kernel, by decide +kernel⟩
section
variable {P : Program} {w : World} {K : PySem.W.Frag} {mg : Str → Option Value} {base : Heap} {cM cR : Addr} {c : CA}
theorem ok_law_address {f : Addr} {fd : FuncData} (F : Fun K "_law_address" "_law_address" s_law_address f fd) (T : Tx K mg cM cR c.U) (TC : Tc K mg c.C) (TK : Tk K mg c.K c.L) (TG : Tg K w mg c.G)
    (C__law_take : Cal P w K mg base CX0 1 "_law_take" P_law_take spTake)
    (C__law_text : Cal P w K mg base CX0 2 "_law_text" P_law_text spText)
    (C_address_of : Cal P w K mg base CX0 1 "address_of" P_address_of spAddr) : FnOk P w K mg base CX0 3 f fd P_law_address sp_address6 := by
  refine F.ok sc_law_address (fun vs H Q E h => ?_) (fun cdv A outer s H vs Q E hr h => ?_)
  · obtain ⟨_, _, _, rfl, _⟩ := h
    rfl
  · obtain ⟨a, c0, M, rfl, sl, mo, adr, lB, q⟩ := h
    have nd := sc_law_address.nd
    have hu := hu_of hr
    refine ⟨_, pss_cons (ps_set (i := 2) nd rfl (Or.inl rfl) (pe_callB (cr_sortedDL rfl) (by rfl) T.sor (by decide +kernel) (pa_cons (pe_dget hu (pv 1) pe_str (fun _ _ => rfl)) pa_nil)))
  (pss_cons (ps_if (PW.pt (pw_or (pt_cmpR op_eq (pe_callB call_len_seq (by rfl) T.len (by decide +kernel) (pa_cons (pv 2) pa_nil)) pe_int (nomark _)) (pw_or1 (pt_cmpR op_eq (pe_cal C__law_take hr (pa_cons (pv 0) (pa_cons pe_int pa_nil))) pe_int (nomark _)))))
    (pss_one (ps_ret (pe_cal C_address_of hr (pa_cons pe_str (pa_cons (pe_cal C__law_text hr (pa_cons (pv 0) (pa_cons pe_int pa_nil))) pa_nil)))))
    (pss_nil))
  (pss_one (ps_ret (pe_ix ix_list (pv 2) (pe_cal C__law_take hr (pa_cons (pv 0) (pa_cons (pe_callB call_len_seq (by rfl) T.len (by decide +kernel) (pa_cons (pv 2) pa_nil)) pa_nil))) (fun _ _ => rfl))))), ?_⟩
    obtain ⟨kvs, eb, pb⟩ := id mo.hb
    refine ⟨_, rfl, M.md, _, rfl, mo.g1, M.bl, kvs, M.B.map (·.1), rfl, eb, keysB pb, fun ys p pm srt np => ?_⟩
    have m1 := (Mv.refl a c0 H).new np (o := .lst (ys.map V.str))
    have sl1 := sl.same (same_upd np (o := .lst (ys.map V.str)))
    have hp : (L2.upd H p (.lst (ys.map V.str))) p = some (.lst (ys.map V.str)) := upd_same
    have npa := sl.ne np
    generalize L2.upd H p (.lst (ys.map V.str)) = H1 at m1 sl1 hp
    have ly : ys.length ≤ 5000 := by rw [pm.length_eq, List.length_map]; exact lB
    refine ⟨_, rfl, p, _, rfl, .inl (SqL.of hp), rfl, ?_⟩
    rw [dec_int, List.length_map]
    by_cases y0 : ys.length = 0
    · rw [show (((ys.length : Nat) : Int) == 0) = true from by rw [y0]; rfl]
      exact ⟨_, rfl, iteT (iteT ⟨_, rfl, a, c0, 3, rfl, sl1, by decide, fun x H5 hx hz s5 m5 => ⟨"layer", x, 0, rfl, rfl, by decide, q _ H5 (isAddr_hexS _) s5 (m1.trans m5)⟩⟩)⟩
    · rw [show (((ys.length : Nat) : Int) == 0) = false from by simpa using y0]
      refine ⟨_, rfl, iteF ⟨_, rfl, a, c0, 6, rfl, sl1, by decide, by decide, fun v H2 v0 v1 e2 s2 => ⟨rfl, _, rfl, ?_⟩⟩⟩
      have m2 := m1.trans (Mv.take sl1 s2 e2)
      have hp2 : H2 p = _ := (e2 p npa.1 npa.2).trans hp
      refine ite2 (fun _ => ?_) (fun _ => ?_)
      · exact ⟨_, rfl, a, c0, 3, rfl, s2, by decide, fun x H5 hx hz s5 m5 => ⟨"layer", x, 0, rfl, rfl, by decide, q _ H5 (isAddr_hexS _) s5 (m2.trans m5)⟩⟩
      · refine ⟨_, rfl, _, rfl, _, rfl, p, _, rfl, .inl (SqL.of hp2), a, c0, _, rfl, s2, ?_, ?_, fun u H3 u0 u1 e3 s3 => ?_⟩
        · rw [List.length_map]; omega
        · rw [List.length_map]; omega
        obtain ⟨j, rfl, hj⟩ := nat_of u0 u1
        rw [List.length_map] at hj
        have hjl : j < ys.length := by omega
        have hp3 : H3 p = _ := (e3 p npa.1 npa.2).trans hp2
        refine ⟨p, _, _, .str ys[j], rfl, rfl, SqL.of hp3, atI_nat (by rw [List.getElem?_map, List.getElem?_eq_getElem hjl]; rfl), q _ H3 ?_ s3 (m2.trans (Mv.take s2 s3 e3))⟩
        obtain ⟨e, he, ee⟩ := List.mem_map.mp (pm.mem_iff.mp (List.getElem_mem hjl))
        rw [← ee]; exact adr e he
end
end LW
namespace LW
open PySem PySem.Spec PyProof.Rows L2 GxR
def sp_roots6 : Sp := fun vs H Q _ => ∃ (M : M6) (A : Ab) (i : Nat), vs = [.ref M.md] ∧ MO M H ∧ E6 i A M ∧ i ≤ 110 ∧ ∀ xs p H', H p = none → Same H H' → H' p = some (.lst (xs.map V.str)) → sortedS xs = true → xs.Nodup → (∀ y, y ∈ xs ↔ rootA A y) → Q (.ref p) H'
abbrev s_law_roots : Stmt := topS 55
abbrev N_law_roots : List Str := ["model", "found", "claim", "name"]
abbrev P_law_roots : List Str := ["model"]
theorem sc_law_roots : FnScope N_law_roots P_law_roots (defScope s_law_roots) := ⟨rfl, rfl, rfl, by decide +kernel, rfl, by decide +kernel, by decide +kernel⟩
section
variable {P : Program} {w : World} {K : PySem.W.Frag} {mg : Str → Option Value} {base : Heap} {cM cR : Addr} {c : CA}
theorem ok_law_roots {f : Addr} {fd : FuncData} (F : Fun K "_law_roots" "_law_roots" s_law_roots f fd) (T : Tx K mg cM cR c.U) (TC : Tc K mg c.C) (TK : Tk K mg c.K c.L) (TG : Tg K w mg c.G) : FnOk P w K mg base CX0 2 f fd P_law_roots sp_roots6 := by
  refine F.ok sc_law_roots (fun vs H Q E h => ?_) (fun cdv A outer s H vs Q E hr h => ?_)
  · obtain ⟨_, _, _, rfl, _⟩ := h
    rfl
  · obtain ⟨M, A, i, rfl, mo, e6, hi, q⟩ := h
    have nd := sc_law_roots.nd
    have hu := hu_of hr
    refine ⟨_, pss_cons (ps_lock (ps_setLc (i := 1) (own := [("name", 3)]) (g := gName 3) (tt := tYes) rfl nd rfl rfl (sw_true rfl rfl rfl (by decide +kernel)) (pi_keys (pe_dget hu (pv 0) pe_str (fun _ _ => rfl))) (blkOk_by (N := N_law_roots) (sc := defScope s_law_roots) (by decide +kernel)) (fun _ _ _ _ _ => (pg_name (i := 3) nd rfl (Or.inl rfl))) (fun _ _ _ _ _ => pts_nil) (fun _ _ _ _ _ => (pe_dget hu (pe_dget hu (pv 0) pe_str (fun _ _ => rfl)) (pv 3) (fun _ _ => rfl)))))
  (pss_cons (ps_lock (ps_for PassesOwn.never rfl (pi_keys (pe_dget hu (pv 0) pe_str (fun _ _ => rfl))) (pg_name (i := 2) nd rfl (Or.inl rfl))
    (pss_one (ps_set (i := 1) nd rfl (Or.inl rfl) (pe_op op_cat (pv 1) (pe_dget hu (pe_dget hu (pv 0) pe_str (fun _ _ => rfl)) (pv 2) (fun _ _ => rfl)))))))
  (pss_one (ps_ret (pe_callB (cr_sortedT rfl) (by rfl) T.sor (by decide +kernel) (pa_cons (pe_callTy (cr_setOfS rfl) (by rfl) TC.set (by decide +kernel) (pa_cons (pv 1) pa_nil)) pa_nil))))), ?_⟩
    have ndN : (M.N.map (·.1)).Nodup := by rw [e6.n]; exact e6.ndN
    refine ⟨M.nm, .dK (nmK M.N), mo.hn, True.intro, fun od => ?_⟩
    have nmd : M.md ≠ M.nm := nd_ne mo.al (i := 0) (j := 2) rfl rfl (by decide)
    have hl : (L2.upd H M.nm (.frz od (.dK (nmK M.N)))) M.nm = some (.frz od (.dK (nmK M.N))) := upd_same
    have hm : (L2.upd H M.nm (.frz od (.dK (nmK M.N)))) M.md = some (.dK (mdK M)) := by rw [upd_ne nmd]; exact mo.hm
    generalize eHl : L2.upd H M.nm (.frz od (.dK (nmK M.N))) = Hl at hl hm
    refine ⟨_, rfl, M.md, _, rfl, (DGet.k (k := .inr "names") hm), M.nm, od, rfl, .inl ⟨nmK M.N, hl, fun D nD => ?_⟩⟩
    have n0D : H D = none := by
      have : D ≠ M.nm := fun z => by rw [z, hl] at nD; cases nD
      rw [← eHl, upd_ne this] at nD; exact nD
    have dn : M.nm ≠ D := ne_of_none hl nD
    have dm : M.md ≠ D := ne_of_none hm nD
    show ∃ W : Nat → Nat → Hp → Prop, _
    refine lc_it (walk_keys (d := M.nm) (o := od) (kvs := nmK M.N)) (fun j H' => Kp (fun z => z = D) Hl H' ∧ H' D = some (.lst (((M.N.take j).map (·.2)).map V.str))) ⟨(Kp.refl _ _).new nD, upd_same⟩ (fun j H' _ z => z.1.keep M.nm _ dn hl) ?_ ?_
    · rintro j v H3 H4 hj ⟨k3, h3⟩ ⟨rfl, k0, v0, hk, rfl⟩
      rw [nmK, List.getElem?_map] at hk
      cases ez : M.N[j]? with
      | none => rw [ez] at hk; cases hk
      | some e =>
        rw [ez] at hk
        cases hk
        have hl3 := k3.keep M.nm _ dn hl
        have hm3 := k3.keep M.md _ dm hm
        have dg : DGet H4 M.nm (.str e.1) (some (.str e.2)) := .inl ⟨nmK M.N, .inr e.1, .inr ⟨od, hl3⟩, rfl, (val_at (nmK_keys _ ndN) (i := j) (by rw [nmK, List.getElem?_map, ez]; rfl)).symm⟩
        refine ⟨rfl, tyes ⟨_, rfl, M.md, _, rfl, (DGet.k (k := .inr "names") hm3), _, rfl, M.nm, .str e.2, rfl, dg, _, h3, ?_, k3.put rfl (by rw [h3]; exact fun z => by cases z), ?_⟩⟩
        · rw [List.length_map, List.length_map, List.length_take, sizeLine_eq, e6.n]
          have := e6.nN; omega
        · rw [upd_same, take_snoc ez, List.map_append, List.map_append]; rfl
    rintro H3 ⟨k3, h3⟩
    have lN : (nmK M.N).length = M.N.length := nm_len _
    rw [lN, List.take_length] at h3
    refine ⟨k3.keep M.nm _ dn hl, ?_⟩
    have s1 : Same H (L2.upd H3 M.nm (.dK (nmK M.N))) := fun b o e => by
      by_cases hb : b = M.nm
      · rw [hb, upd_same]; rw [hb, mo.hn] at e; exact e
      · rw [upd_ne hb]
        exact k3.keep b o (ne_of_none e n0D) (by rw [← eHl, upd_ne hb]; exact e)
    have hD1 : (L2.upd H3 M.nm (.dK (nmK M.N))) D = some (.lst ((M.N.map (·.2)).map V.str)) := by rw [upd_ne dn.symm]; exact h3
    generalize L2.upd H3 M.nm (.dK (nmK M.N)) = H1 at s1 hD1
    have mo1 := mo.same s1
    have ndP := outK_keys _ e6.ndL
    refine ⟨M.pn, .dK (outK M.L), mo1.hp, True.intro, fun od2 => ?_⟩
    have pmd : M.md ≠ M.pn := nd_ne mo.al (i := 0) (j := 3) rfl rfl (by decide)
    have hp2 : (L2.upd H1 M.pn (.frz od2 (.dK (outK M.L)))) M.pn = some (.frz od2 (.dK (outK M.L))) := upd_same
    have hm2 : (L2.upd H1 M.pn (.frz od2 (.dK (outK M.L)))) M.md = some (.dK (mdK M)) := by rw [upd_ne pmd]; exact mo1.hm
    have hD2 : (L2.upd H1 M.pn (.frz od2 (.dK (outK M.L)))) D = some (.lst ((M.N.map (·.2)).map V.str)) := by rw [upd_ne (ne_of hD1 mo1.hp (by intro z; cases z))]; exact hD1
    have hl2 : ∀ e ∈ M.L, (L2.upd H1 M.pn (.frz od2 (.dK (outK M.L)))) e.li = some (.lst (e.xs.map V.str)) := fun e he => by rw [upd_ne (ne_of (mo1.hl e he) mo1.hp (by intro z; cases z))]; exact mo1.hl e he
    have fr2 : ∀ z, (L2.upd H1 M.pn (.frz od2 (.dK (outK M.L)))) z = none → H1 z = none := fun z e => by
      have : z ≠ M.pn := fun w => by rw [w, upd_same] at e; cases e
      rw [upd_ne this] at e; exact e
    generalize eHl2 : L2.upd H1 M.pn (.frz od2 (.dK (outK M.L))) = Hm at hp2 hm2 hD2 hl2 fr2
    refine ⟨_, rfl, M.md, _, rfl, (DGet.k (k := .inr "pins") hm2), M.pn, od2, rfl, .inl ⟨outK M.L, hp2, ?_⟩⟩
    have sle : ∀ j, ((M.L.take j).flatMap (·.xs)).length ≤ i := fun j => by
      refine Nat.le_trans ?_ e6.sm
      conv => rhs; rw [← List.take_append_drop j M.L, List.map_append, List.sum_append]
      have : ∀ L : List KE7, (L.flatMap (·.xs)).length = (L.map (·.xs.length)).sum := by
        intro L
        induction L with
        | nil => rfl
        | cons x r ih => rw [List.flatMap_cons, List.length_append, ih, List.map_cons, List.sum_cons]
      rw [this]; omega
    refine for_it (walk_keys (d := M.pn) (o := od2) (kvs := outK M.L)) (fun j σ H' => Same Hm H' ∧ ∃ f v2, H' f = some (.lst ((M.N.map (·.2) ++ (M.L.take j).flatMap (·.xs)).map V.str)) ∧ σ = [some (.ref M.md), some (.ref f), v2, none]) ⟨Same.refl _, D, none, by rw [hD2]; simp, rfl⟩ (fun j σ H' _ z => z.1 _ _ hp2) ?_ ?_
    · rintro j v σ H5 H6 hj ⟨s5, f, v2, hf, rfl⟩ ⟨rfl, k0, v0, hk, rfl⟩
      have hk' := hk
      rw [outK, List.getElem?_map] at hk
      cases ez : M.L[j]? with
      | none => rw [ez] at hk; cases hk
      | some e =>
        rw [ez] at hk
        cases hk
        have he := List.mem_of_getElem? ez
        have dg : DGet H6 M.pn (.int (e.i : Int)) (some (.ref e.li)) := .inl ⟨outK M.L, .inl (e.i : Int), .inr ⟨od2, s5 _ _ hp2⟩, rfl, (val_at ndP (i := j) hk').symm⟩
        have sj := sle j
        have lxe := e6.lx e he
        refine ⟨_, rfl, _, rfl, M.md, _, rfl, (DGet.k (k := .inr "pins") (s5 _ _ hm2)), _, rfl, M.pn, .ref e.li, rfl, dg, f, e.li, _, _, rfl, rfl, hf, s5 _ _ (hl2 e he), ?_, fun p np => ⟨s5.trans (same_upd np), p, _, ?_, rfl⟩⟩
        · rw [List.length_map, List.length_map, List.length_append, List.length_map, sizeLine_eq, e6.n]
          have := e6.nN; omega
        · rw [upd_same, take_snoc ez, List.flatMap_append, ← List.append_assoc, ← List.map_append]
          simp
    · rintro σ H5 ⟨s5, f, v2, hf, rfl⟩
      have lL : (outK M.L).length = M.L.length := List.length_map _
      rw [lL, List.take_length] at hf
      refine ⟨s5 _ _ hp2, ?_⟩
      have s2 : Same H1 (L2.upd H5 M.pn (.dK (outK M.L))) := fun b o e => by
        by_cases hb : b = M.pn
        · rw [hb, upd_same]; rw [hb, mo1.hp] at e; exact e
        · rw [upd_ne hb]
          exact s5 b o (by rw [← eHl2, upd_ne hb]; exact e)
      have fp : f ≠ M.pn := ne_of hf (s5 _ _ hp2) (by intro z; cases z)
      have hf2 : (L2.upd H5 M.pn (.dK (outK M.L))) f = some (.lst ((M.N.map (·.2) ++ M.L.flatMap (·.xs)).map V.str)) := by rw [upd_ne fp]; exact hf
      generalize L2.upd H5 M.pn (.dK (outK M.L)) = H7 at s2 hf2
      have sj := sle M.L.length
      rw [List.take_length] at sj
      have ln : (M.N.map (·.2) ++ M.L.flatMap (·.xs)).length ≤ 2 * i := by
        rw [List.length_append, List.length_map, e6.n]
        have := e6.nN; omega
      refine ⟨_, rfl, f, _, rfl, SqL.of hf2, (by show _ < 4096; omega), fun p3 cc hc n3 => ?_⟩
      refine ⟨p3, _, cc, rfl, upd_same, fun xs p4 srt4 nod4 mem4 ln4 n4 => ?_⟩
      generalize hH8 : L2.upd _ p4 (HO.lst (xs.map V.str)) = H8
      have s8 : Same H7 H8 := by rw [← hH8]; exact (same_upd n3).trans (same_upd n4)
      have n5 : H p4 = none := s1.free (s2.free ((same_upd n3).free n4))
      refine q xs p4 H8 n5 ((s1.trans s2).trans s8) (by rw [← hH8]; exact upd_same) srt4 nod4 fun y => ?_
      rw [mem4, decide_eq_true_eq, List.mem_append, List.mem_map, List.mem_flatMap, e6.n]
      unfold rootA
      constructor
      · rintro (z | ⟨e, he, hy⟩)
        · exact .inl z
        · have hin : e.i ∈ A.P.map (·.1) := by rw [← e6.ids]; exact List.mem_map.mpr ⟨e, he, rfl⟩
          obtain ⟨p0, hp0, e1⟩ := List.mem_map.mp hin
          exact .inr ⟨p0, hp0, (e6.eq e he p0 hp0 e1 y).mp hy⟩
      · rintro (z | ⟨p0, hp0, hy⟩)
        · exact .inl z
        · have hin : p0.1 ∈ M.L.map (·.i) := by rw [e6.ids]; exact List.mem_map.mpr ⟨p0, hp0, rfl⟩
          obtain ⟨e, he, e1⟩ := List.mem_map.mp hin
          exact .inr ⟨e, he, (e6.eq e he p0 hp0 e1.symm y).mpr hy⟩
end
end LW
namespace LW
open PySem PySem.Spec PyProof.Rows L2 GxR
/-! ### the texts of puts -/
theorem tx_bad0 (b : Bool) : TxOk b "image" := ⟨by decide +kernel, fun h => absurd h (by cases b <;> decide +kernel), fun _ => by cases b <;> decide +kernel⟩
theorem tx_bad1 (b : Bool) : TxOk b "image\nx" := ⟨by decide +kernel, fun h => absurd h (by cases b <;> decide +kernel), fun _ => by cases b <;> decide +kernel⟩
theorem tx_bad2 (b : Bool) : TxOk b "images\n" := ⟨by decide +kernel, fun h => absurd h (by cases b <;> decide +kernel), fun _ => by cases b <;> decide +kernel⟩
theorem last_nl {t : Str} {xs : List Nat} (h : t.cps.toList = xs ++ [10]) : cutS t (some (-1)) none = "\n" := by
  have n : t.length = xs.length + 1 := by
    show t.cps.size = _
    rw [← Array.length_toList, h, List.length_append]; rfl
  have i1 : HT.sIx t.length 0 (some (-1)) = xs.length := by
    rw [n]; unfold HT.sIx; simp; omega
  have i2 : HT.sIx t.length t.length none = xs.length + 1 := by
    rw [n]; rfl
  unfold cutS
  rw [i1, i2, h, List.drop_left, show xs.length + 1 - xs.length = 1 from by omega]
  rfl
theorem textOf_last {ls : List Str} (n : ls ≠ []) : ∃ xs, (textOf ls).cps.toList = xs ++ [10] := by
  have e : (textOf ls).cps.toList = ((ls.map TL.tl).map (· ++ [10])).flatten := textOf_tl ls
  have d := List.dropLast_concat_getLast n
  refine ⟨((ls.dropLast.map TL.tl).map (· ++ [10])).flatten ++ TL.tl (ls.getLast n), ?_⟩
  rw [e]
  conv => lhs; rw [← d]
  rw [List.map_append, List.map_append, List.flatten_append]
  simp
theorem tx_image {rs : List Str} (h : ∀ x ∈ rs, isAddr x = true) (hl : rs.length ≤ 10) : TxOk false (textOf (word false :: rs)) := by
  have g := good_image h hl
  obtain ⟨xs, e⟩ := textOf_last (ls := word false :: rs) (by simp)
  have fn : faultN false (lns (textOf (word false :: rs))) = none := by
    rcases g.2.2 with z | ⟨_, z⟩ | ⟨z, _⟩
    · exact absurd z (show ("image" : Str) ≠ "layer" from by decide +kernel)
    · exact z
    · exact absurd z (show ("image" : Str) ≠ "bundle" from by decide +kernel)
  refine ⟨g.1, fun _ => ⟨g, ?_, last_nl e⟩, fun z => absurd fn z⟩
  rw [lns_textOf fun l hl => ?_]
  · rfl
  · rcases List.mem_cons.mp hl with z | z
    · rw [z]; exact (word_asc false).2.2
    · exact (addr_no (h l z)).2.1
theorem tx_bundle {es : List (Str × Str)} (h : ∀ q ∈ es, isPlat q.1 = true ∧ isAddr q.2 = true) (nd : (es.map (·.1)).Nodup) (l1 : 1 ≤ es.length) (l6 : es.length ≤ 10) : TxOk true (textOf (word true :: es.map ent)) := by
  have g := good_bundle h nd l1 l6
  obtain ⟨xs, e⟩ := textOf_last (ls := word true :: es.map ent) (by simp)
  have fn : faultN true (lns (textOf (word true :: es.map ent))) = none := by
    rcases g.2.2 with z | ⟨z, _⟩ | ⟨_, z⟩
    · exact absurd z (show ("bundle" : Str) ≠ "layer" from by decide +kernel)
    · exact absurd z (show ("bundle" : Str) ≠ "image" from by decide +kernel)
    · exact z
  refine ⟨g.1, fun _ => ⟨g, ?_, last_nl e⟩, fun z => absurd fn z⟩
  rw [lns_textOf fun l hl => ?_]
  · rfl
  · rcases List.mem_cons.mp hl with z | z
    · rw [z]; exact (word_asc true).2.2
    · obtain ⟨q, hq, rfl⟩ := List.mem_map.mp z
      exact (ent_ok (h q hq)).2.2
end LW
namespace LW
open PySem PySem.Spec PyProof.Rows L2 GxR
def sp_text6 : Sp := fun vs H Q _ => ∃ (a c0 : Addr) (M : M6) (b : Bool), vs = [.ref a, .ref M.md, .str (word b)] ∧ SL H a c0 ∧ MO M H ∧ (∀ e ∈ M.B, isAddr e.1 = true) ∧ M.B.length ≤ 5000 ∧ ∀ t H', TxOk b t → Asc t → SL H' a c0 → Mv a c0 H H' → Q (.str t) H'
theorem prs_keep {K : PySem.W.Frag} {H H' : Hp} {ts : List V} {es : List (Str × Str)} (k : ∀ u xs, H u = some (.tup xs) → H' u = some (.tup xs)) (h : Prs K H ts es) : Prs K H' ts es := by
  induction h with
  | nil => exact .nil
  | cons r _ ih =>
    obtain ⟨t, e, ht⟩ := r
    exact .cons ⟨t, e, k _ _ ht⟩ ih
theorem prs_snoc {K : PySem.W.Frag} {H : Hp} {ts : List V} {es : List (Str × Str)} {t : Addr} {e : Str × Str} (h : Prs K H ts es) (ht : H t = some (.tup [.str e.1, .str e.2])) : Prs K H (ts ++ [.ref t]) (es ++ (some e).toList) := by
  induction h with
  | nil => exact .cons ⟨t, rfl, ht⟩ .nil
  | cons r _ ih => exact .cons r ih
theorem zip_fst_sub : ∀ xs ys : List Str, ((xs.zip ys).map (·.1)).Sublist xs
  | [], _ => by simp
  | _ :: _, [] => by simp
  | x :: xs, y :: ys => by
    rw [List.zip_cons_cons, List.map_cons]
    exact (zip_fst_sub xs ys).cons₂ x
theorem cut_init (xs : List V) (y : V) : cutV (xs ++ [y]) none (some (-1)) = xs := by
  have n : (xs ++ [y]).length = xs.length + 1 := by rw [List.length_append]; rfl
  have i1 : HT.sIx (xs ++ [y]).length 0 none = 0 := rfl
  have i2 : HT.sIx (xs ++ [y]).length (xs ++ [y]).length (some (-1)) = xs.length := by
    rw [n]
    show (if (-1 : Int) < 0 then (-1 + ((xs.length + 1 : Nat) : Int)).toNat else min (-1 : Int).toNat (xs.length + 1)) = _
    rw [if_pos (by omega)]; omega
  unfold cutV
  rw [i1, i2]
  simp
theorem asc_of {x : Str} (h : x.cps.toList.all (fun c => decide (c < 1000)) = true) : Asc x := fun c hc => of_decide_eq_true (List.all_eq_true.mp h c hc)
theorem MO.mv {M : M6} {H H' : Hp} {a c0 : Addr} (h : MO M H) (sl : SL H a c0) (m : Mv a c0 H H') : MO M H' := by
  obtain ⟨n, cs, q1, q2, _⟩ := id sl
  refine h.move (GrS.mv sl m) (fun z hz e => ?_) (fun e he z => ?_) (fun b xs e z => ?_)
  · obtain ⟨kvs, ek⟩ := h.got z hz
    rcases e with e | e
    · rw [e, q1] at ek; cases ek
    · rw [e, q2] at ek; cases ek
  · have := sl_lst sl (h.hl e he)
    exact z.elim this.1 this.2
  · rcases z with z | z
    · rw [z, q1] at e; cases e
    · rw [z, q2] at e; cases e
abbrev s_law_text_of : Stmt := topS 53
abbrev N_law_text_of : List Str := ["state", "model", "kind", "blobs", "below", "refs", "k", "address"]
abbrev P_law_text_of : List Str := ["state", "model", "kind"]
theorem sc_law_text_of : FnScope N_law_text_of P_law_text_of (defScope s_law_text_of) := ⟨rfl, rfl, rfl, by decide +kernel, rfl, by decide +kernel, by decide +kernel⟩
section
variable {P : Program} {w : World} {K : PySem.W.Frag} {mg : Str → Option Value} {base : Heap} {cM cR : Addr} {c : CA}
theorem ok_law_text_of {f : Addr} {fd : FuncData} (F : Fun K "_law_text_of" "_law_text_of" s_law_text_of f fd) (T : Tx K mg cM cR c.U) (TC : Tc K mg c.C) (TK : Tk K mg c.K c.L) (TG : Tg K w mg c.G)
    (C__law_address : Cal P w K mg base CX0 3 "_law_address" P_law_address sp_address6)
    (C__law_take : Cal P w K mg base CX0 1 "_law_take" P_law_take spTake)
    (C_bundle_text : Cal P w K mg base CX0 2 "bundle_text" P_bundle_text (spBundle K))
    (C_image_text : Cal P w K mg base CX0 2 "image_text" P_image_text (spImage K)) : FnOk P w K mg base CX0 4 f fd P_law_text_of sp_text6 := by
  refine F.ok sc_law_text_of (fun vs H Q E h => ?_) (fun cdv A outer s H vs Q E hr h => ?_)
  · obtain ⟨_, _, _, _, rfl, _⟩ := h
    rfl
  · obtain ⟨a, c0, M, b, rfl, sl, mo, adr, lB, q⟩ := h
    have nd := sc_law_text_of.nd
    have hu := hu_of hr
    refine ⟨_, pss_cons (ps_if (pt_cmpR op_eq (pe_cal C__law_take hr (pa_cons (pv 0) (pa_cons pe_int pa_nil))) pe_int (nomark _))
    (pss_one (ps_ret (pe_op op_add_str pe_str (pe_ix ix_list (pe_lst (pa_cons pe_str (pa_cons pe_str (pa_cons pe_str pa_nil)))) (pe_cal C__law_take hr (pa_cons (pv 0) (pa_cons pe_int pa_nil))) (fun _ _ => rfl)))))
    (pss_nil))
  (pss_cons (ps_set (i := 3) nd rfl (Or.inr rfl) (pe_dget hu (pv 1) pe_str (fun _ _ => rfl)))
  (pss_cons (ps_setLc (i := 4) (own := [("address", 7)]) (g := gName 7)  rfl nd rfl rfl (sw_true rfl rfl rfl (by decide +kernel)) (pi_list (pe_callB (cr_sortedDL rfl) (by rfl) T.sor (by decide +kernel) (pa_cons (pv 3) pa_nil))) (blkOk_by (N := N_law_text_of) (sc := defScope s_law_text_of) (by decide +kernel)) (fun _ _ _ _ _ => (pg_name (i := 7) nd rfl (Or.inl rfl))) (fun _ _ _ _ _ => (pts_one (pt_cmpR op_eq (pe_ix (show IxR _ (rIxT K) from ix_tup) (pe_dget hu (pv 3) (pv 7) (fun _ _ => rfl)) pe_int (fun _ _ => rfl)) (pe_dget hu (pe_disp (pps_cons pe_str pe_str (pps_cons pe_str pe_str pps_nil)) (by rfl) (by rfl) (fun z => by cases z) (by decide)) (pv 2) (fun _ _ => rfl)) (nomark _)))) (fun _ _ _ _ _ => (pv 7)))
  (pss_cons (ps_set (i := 5) nd rfl (Or.inr rfl) (pe_lst pa_nil))
  (pss_cons (ps_for PassesOwn.never rfl (pi_range1 (by rfl) T.range (pa_cons (pe_op op_add (pe_cal C__law_take hr (pa_cons (pv 0) (pa_cons pe_int pa_nil))) (pe_callTy call_int1 (by rfl) T.int (by decide +kernel) (pa_cons (pe_cmpR op_eq (pv 2) pe_str (nomark _)) pa_nil))) pa_nil)) (pg_name (i := 6) nd rfl (Or.inl rfl))
    (pss_cons (ps_expr (pe_bm PySem.F.plainAttrs_list PySem.F.slot_list_append PySem.F.type_list_append mt_append (pv 5) (pa_cons (pe_cal C__law_address hr (pa_cons (pv 0) (pa_cons (pv 1) pa_nil))) pa_nil)))
  (pss_one (ps_if (PW.pt (pw_and (pt_cmpR op_gt (pe_callB call_len_seq (by rfl) T.len (by decide +kernel) (pa_cons (pv 4) pa_nil)) pe_int (nomark _)) (pw_and1 (pt_cmpR op_gt (pe_cal C__law_take hr (pa_cons (pv 0) (pa_cons pe_int pa_nil))) pe_int (nomark _)))))
    (pss_one (ps_set (i := 5) nd rfl (Or.inr rfl) (pe_op op_cat (pe_slice sl_list (pv 5) po_none (po_some (pe_un un_neg pe_int))) (pe_lst (pa_cons (pe_ix ix_list (pv 4) (pe_cal C__law_take hr (pa_cons (pv 0) (pa_cons (pe_callB call_len_seq (by rfl) T.len (by decide +kernel) (pa_cons (pv 4) pa_nil)) pa_nil))) (fun _ _ => rfl)) pa_nil)))))
    (pss_nil)))))
  (pss_cons (ps_if (pt_cmpR op_eq (pv 2) pe_str (nomark _))
    (pss_one (ps_ret (pe_cal C_image_text hr (pa_cons (pv 5) pa_nil))))
    (pss_nil))
  (pss_one (ps_ret (pe_cal C_bundle_text hr (pa_cons (pe_lc (own := [("k", 6)]) (g := gName 6) (tt := tYes) rfl nd (pi_range1 (by rfl) T.range (pa_cons (pe_callB call_len_seq (by rfl) T.len (by decide +kernel) (pa_cons (pv 5) pa_nil)) pa_nil)) (blkOk_by (N := N_law_text_of) (sc := defScope s_law_text_of) (by decide +kernel)) (fun _ _ _ _ _ => (pg_name (i := 6) nd rfl (Or.inl rfl))) (fun _ _ _ _ _ => pts_nil) (fun _ _ _ _ _ => (pe_tup (pa_cons (pe_ix (show IxR _ (rIxL K) from ix_list) (pe_lst (pa_cons pe_str (pa_cons pe_str (pa_cons pe_str pa_nil)))) (pv 6) (fun _ _ => rfl)) (pa_cons (pe_ix (show IxR _ (rIxL K) from ix_list) (pv 5) (pv 6) (fun _ _ => rfl)) pa_nil))))) pa_nil))))))))), ?_⟩
    obtain ⟨kvs, eb, pb⟩ := id mo.hb
    refine ⟨_, rfl, a, c0, 9, rfl, sl, by decide, by decide, fun v H1 v0 v1 e1 s1 => ⟨rfl, _, rfl, ?_⟩⟩
    have m1 : Mv a c0 H H1 := Mv.take sl s1 e1
    have mo1 := mo.mv sl m1
    refine ite2 (fun _ => ?_) (fun _ => ?_)
    · refine ⟨by show 3 ≤ sizeLine; decide, fun L nL => ?_⟩
      have m2 := m1.new (m1.free _ nL) (o := .lst [.str "", .str "\nx", .str "s\n"])
      have s2 := s1.same (same_upd nL (o := .lst [.str "", .str "\nx", .str "s\n"]))
      have hL : (L2.upd H1 L (.lst [.str "", .str "\nx", .str "s\n"])) L = _ := upd_same
      have nLa := s1.ne nL
      generalize L2.upd H1 L (.lst [.str "", .str "\nx", .str "s\n"]) = H2 at m2 s2 hL
      refine ⟨_, rfl, a, c0, 3, rfl, s2, by decide, by decide, fun u H3 u0 u1 e3 s3 => ?_⟩
      have hL3 : H3 L = _ := (e3 L nLa.1 nLa.2).trans hL
      have m3 := m2.trans (Mv.take s2 s3 e3)
      obtain ⟨x, ex, tx, lx⟩ : ∃ x : Str, atI [V.str "", V.str "\nx", V.str "s\n"] u = some (.str x) ∧ (TxOk b ("image" ++ x) ∧ Asc ("image" ++ x)) ∧ x.length ≤ 2 := by
        obtain ⟨j, rfl, hj⟩ := nat_of u0 u1
        match j, hj with
        | 0, _ => exact ⟨_, rfl, ⟨tx_bad0 b, asc_of (by decide +kernel)⟩, by decide +kernel⟩
        | 1, _ => exact ⟨_, rfl, ⟨tx_bad1 b, asc_of (by decide +kernel)⟩, by decide +kernel⟩
        | 2, _ => exact ⟨_, rfl, ⟨tx_bad2 b, asc_of (by decide +kernel)⟩, by decide +kernel⟩
        | j + 3, hj => omega
      refine ⟨L, _, _, .str x, rfl, rfl, SqL.of hL3, ex, "image", x, rfl, rfl, ?_, q _ H3 tx.1 tx.2 s3 m3⟩
      have : ("image" : Str).length = 5 := by decide +kernel
      rw [sizeLine_eq]; omega
    refine ⟨_, rfl, M.md, _, rfl, mo1.g1, ?_⟩
    obtain ⟨kvs1, eb1, pb1⟩ := id mo1.hb
    refine ⟨_, rfl, M.bl, kvs1, M.B.map (·.1), rfl, eb1, keysB pb1, fun ys p pm srt np => ?_⟩
    have m2 := m1.new (m1.free _ np) (o := .lst (ys.map V.str))
    have s2 := s1.same (same_upd np (o := .lst (ys.map V.str)))
    have mo2 := mo1.same (same_upd np (o := .lst (ys.map V.str)))
    have hp : (L2.upd H1 p (.lst (ys.map V.str))) p = some (.lst (ys.map V.str)) := upd_same
    have npa := s1.ne np
    generalize L2.upd H1 p (.lst (ys.map V.str)) = H2 at m2 s2 mo2 hp
    have ly : ys.length ≤ 5000 := by rw [pm.length_eq, List.length_map]; exact lB
    have hy : ∀ y ∈ ys, isAddr y = true := fun y hy => by
      obtain ⟨e, he, ee⟩ := List.mem_map.mp (pm.mem_iff.mp hy)
      rw [← ee]; exact adr e he
    refine ⟨p, rfl, ⟨_, SqL.of hp⟩, fun D nD => ?_⟩
    refine lc_it (walk_list (K := K) (a := p) (xs := ys.map V.str)) (fun i H' => Same H2 H' ∧ ∃ zs : List Str, H' D = some (.lst (zs.map V.str)) ∧ (∀ z ∈ zs, isAddr z = true) ∧ zs.length ≤ i) ⟨same_upd nD, [], upd_same, (fun z hz => nomatch hz), Nat.zero_le _⟩ (fun i H' _ h => SqL.of (h.1 p _ hp)) ?_ ?_
    · rintro i v H3 H4 hi ⟨s3, zs, h3, hz3, lz3⟩ ⟨rfl, hv⟩
      rw [List.getElem?_map] at hv
      cases ez : ys[i]? with
      | none => rw [ez] at hv; cases hv
      | some z =>
        rw [ez] at hv
        cases hv
        have hil : i < ys.length := (List.getElem?_eq_some_iff.mp ez).1
        have mo4 := mo2.same s3
        have hzy := List.mem_of_getElem? ez
        refine ⟨rfl, ?_⟩
        obtain ⟨e, he, ee⟩ := List.mem_map.mp (pm.mem_iff.mp hzy)
        have hin : z ∈ M.B.map (·.1) := List.mem_map.mpr ⟨e, he, ee⟩
        obtain ⟨x, ex⟩ := Option.isSome_iff_exists.mp (lk_key.mpr hin)
        obtain ⟨t, g, ht⟩ := mo4.hb.get ex
        refine ⟨_, rfl, _, rfl, M.bl, _, rfl, g, t, [.str x.1, .str x.2], 0, .str x.1, rfl, rfl, SqT.of ht, at2_0, fun m nm => ⟨upd_same, [(.inr "image", .str "layer"), (.inr "bundle", .str "image")], rfl, by show 2 ≤ 15; decide, ?_⟩⟩
        rw [upd_upd]
        have s5 := same_upd nm (o := .dK (mergeK [] [(.inr "image", .str "layer"), (.inr "bundle", .str "image")]))
        have hm : (L2.upd H4 m (.dK (mergeK [] [(.inr "image", .str "layer"), (.inr "bundle", .str "image")]))) m = some (.dK [(.inr "image", .str "layer"), (.inr "bundle", .str "image")]) := by rw [upd_same]; rfl
        have hD5 : (L2.upd H4 m (.dK (mergeK [] [(.inr "image", .str "layer"), (.inr "bundle", .str "image")]))) D = some (.lst (zs.map V.str)) := s5 _ _ h3
        have s6 := s3.trans s5
        generalize L2.upd H4 m (.dK (mergeK [] [(.inr "image", .str "layer"), (.inr "bundle", .str "image")])) = H5 at hm hD5 s6
        have hdue : DGet H5 m (.str (word b)) (some (.str (due (word b)))) := by
          have key : valV ([(.inr "image", .str "layer"), (.inr "bundle", .str "image")] : List (Key × V)) (.inr (word b)) = some (.str (due (word b))) := by cases b <;> rfl
          rw [← key]
          exact DGet.k (k := .inr (word b)) hm
        refine ⟨_, rfl, m, _, rfl, hdue, rfl, _, rfl, ite2 (fun _ => ?_) (fun _ => ⟨s6, zs, hD5, hz3, by omega⟩)⟩
        refine ⟨_, rfl, _, hD5, ?_, ?_, zs ++ [z], ?_, ?_, ?_⟩
        · rw [List.length_map, sizeLine_eq]; omega
        · refine fun b' o hb => ?_
          by_cases hbD : b' = D
          · subst hbD
            rw [nD] at hb; cases hb
          · rw [upd_ne hbD]; exact s6 b' o hb
        · rw [upd_same, List.map_append]; rfl
        · intro y hy'
          rcases List.mem_append.mp hy' with h | h
          · exact hz3 y h
          · rw [List.mem_singleton.mp h]; exact hy z hzy
        · rw [List.length_append]; simp; omega
    · rintro H3 ⟨s3, zs, h3, hz3, lz3⟩
      have hzl : zs.length ≤ 5000 := by rw [List.length_map] at lz3; omega
      have m3 := m2.trans (Mv.same s3)
      have s3' := s2.same s3
      have mo3 := mo2.same s3
      have n0D : H D = none := m2.free D nD
      refine ⟨Nat.zero_le _, fun f nf => ?_⟩
      have m4 := m3.new (m3.free _ nf) (o := .lst [])
      have s4 := s3'.same (same_upd nf (o := .lst []))
      have hf : (L2.upd H3 f (.lst [])) f = some (.lst (([] : List Str).map V.str)) := upd_same
      have h4 : (L2.upd H3 f (.lst [])) D = some (.lst (zs.map V.str)) := by rw [upd_ne (ne_of_none h3 nf)]; exact h3
      have fD : D ≠ f := ne_of_none h3 nf
      have n0f : H f = none := m3.free f nf
      generalize L2.upd H3 f (.lst []) = H4 at m4 s4 hf h4
      refine ⟨_, rfl, a, c0, 3, rfl, s4, by decide, by decide, fun v H5 v0 v1 e5 s5 => ?_⟩
      obtain ⟨n, rfl, hn⟩ := nat_of v0 v1
      have npf := sl_lst s4 hf
      have npD := sl_lst s4 h4
      have m5 := m4.trans (Mv.take s4 s5 e5)
      have hf5 : H5 f = _ := (e5 f npf.1 npf.2).trans hf
      have h5 : H5 D = _ := (e5 D npD.1 npD.2).trans h4
      refine ⟨_, rfl, rfl, .inr ⟨_, rfl, _, _, rfl, rfl, ?_⟩⟩
      obtain ⟨N, eN, lN, bN⟩ : ∃ N : Nat, ((n : Int) + (if decide (V.str (word b) = V.str "bundle") = true then 1 else 0)) = (N : Int) ∧ N ≤ 3 ∧ (b = true → 1 ≤ N) := by
        rw [dec_str]
        cases b with
        | false => exact ⟨n, by rw [decide_eq_false (show ¬ word false = "bundle" from by decide +kernel)]; simp, by omega, fun z => nomatch z⟩
        | true => exact ⟨n + 1, by rw [decide_eq_true (show word true = "bundle" from rfl)]; simp, by omega, fun _ => by omega⟩
      refine ⟨_, rfl, by rw [eN]; omega, by rw [eN]; omega, ?_⟩
      rw [eN]
      refine for_it (walk_range (lo := 0) (n := N)) (fun j σ H' => Mv a c0 H H' ∧ SL H' a c0 ∧ H' D = some (.lst (zs.map V.str)) ∧ ∃ (g : Addr) (rs : List Str) (k : Option V), H' g = some (.lst (rs.map V.str)) ∧ H g = none ∧ D ≠ g ∧ (∀ x ∈ rs, isAddr x = true) ∧ rs.length = j ∧ σ = [some (.ref a), some (.ref M.md), some (.str (word b)), some (.ref M.bl), some (.ref D), some (.ref g), k, none])
        ⟨m5, s5, h5, f, [], none, hf5, n0f, fD, (fun x hx => nomatch hx), rfl, rfl⟩ (fun _ _ _ _ _ => True.intro) ?_ ?_
      · rintro j v σ H6 H7 hj ⟨m6, s6, h6, g, rs, k, hg6, n0g, gD, hrs, lrs, rfl⟩ ⟨rfl, rfl⟩
        have mo6 := mo.mv sl m6
        refine ⟨_, rfl, .inl ⟨rfl, _, SqL.of hg6⟩, _, rfl, _, rfl, a, c0, M, rfl, s6, mo6, adr, lB, fun x H8 hx s8 m8 => ?_⟩
        have npg := sl_lst s6 hg6
        have npD := sl_lst s6 h6
        have hg8 := m8.keep g _ npg.1 npg.2 hg6
        have h8 := m8.keep D _ npD.1 npD.2 h6
        refine ⟨g, _, .str x, rfl, rfl, hg8, by rw [List.length_map, sizeLine_eq]; omega, ?_⟩
        have m9 := (m6.trans m8).new n0g (o := .lst (rs.map V.str ++ [.str x]))
        have s9 : SL (L2.upd H8 g (.lst (rs.map V.str ++ [.str x]))) a c0 := by
          obtain ⟨n1, cs, q1, q2, rr⟩ := s8
          exact ⟨n1, cs, by rw [upd_ne (Ne.symm npg.1)]; exact q1, by rw [upd_ne (Ne.symm npg.2)]; exact q2, rr⟩
        have h9 : (L2.upd H8 g (.lst (rs.map V.str ++ [.str x]))) D = _ := (upd_ne gD).trans h8
        have hg9 : (L2.upd H8 g (.lst (rs.map V.str ++ [.str x]))) g = some (.lst ((rs ++ [x]).map V.str)) := by rw [upd_same, List.map_append]; rfl
        have hrs9 : ∀ y ∈ rs ++ [x], isAddr y = true := fun y hy => (List.mem_append.mp hy).elim (hrs y) fun z => by rw [List.mem_singleton.mp z]; exact hx
        generalize L2.upd H8 g (.lst (rs.map V.str ++ [.str x])) = H9 at m9 s9 h9 hg9
        have keep : ∀ (H10 : Hp), Mv a c0 H9 H10 → Mv a c0 H H10 ∧ H10 D = some (.lst (zs.map V.str)) ∧ H10 g = some (.lst ((rs ++ [x]).map V.str)) ∧ (rs ++ [x]).length = j + 1 := fun H10 m10 =>
          ⟨m9.trans m10, m10.keep D _ npD.1 npD.2 h9, m10.keep g _ npg.1 npg.2 hg9, by rw [List.length_append, lrs]; rfl⟩
        refine ⟨_, rfl, D, _, rfl, .inl (SqL.of h9), _, _, rfl, rfl, ?_⟩
        refine ⟨_, rfl, ?_⟩
        refine ite2 (fun hpos => ?_) (fun _ => iteF (have k := keep H9 (Mv.refl _ _ _); ⟨k.1, s9, k.2.1, g, _, _, k.2.2.1, n0g, gD, hrs9, k.2.2.2, rfl⟩))
        refine ⟨_, rfl, a, c0, 6, rfl, s9, by decide, by decide, fun v H10 v0 v1 e10 s10 => ⟨_, _, rfl, rfl, _, rfl, ?_⟩⟩
        have m10 := Mv.take s9 s10 e10
        refine ite2 (fun _ => ?_) (fun _ => have k := keep H10 m10; ⟨k.1, s10, k.2.1, g, _, _, k.2.2.1, n0g, gD, hrs9, k.2.2.2, rfl⟩)
        have hg10 := m10.keep g _ npg.1 npg.2 hg9
        have h10 := m10.keep D _ npD.1 npD.2 h9
        refine ⟨_, rfl, 1, rfl, -1, rfl, g, _, rfl, SqL.of hg10, fun p2 np2 => ?_⟩
        have n0p : H p2 = none := (m9.trans m10).free p2 np2
        have m11 := (m9.trans m10).new n0p (o := .lst (cutV ((rs ++ [x]).map V.str) none (some (-1))))
        have s11 := s10.same (same_upd np2 (o := .lst (cutV ((rs ++ [x]).map V.str) none (some (-1)))))
        have hp11 : (L2.upd H10 p2 (.lst (cutV ((rs ++ [x]).map V.str) none (some (-1))))) p2 = some (.lst (rs.map V.str)) := by
          rw [upd_same, List.map_append]
          show some (HO.lst (cutV (rs.map V.str ++ [V.str x]) none (some (-1)))) = _
          rw [cut_init]
        have h11 : (L2.upd H10 p2 (.lst (cutV ((rs ++ [x]).map V.str) none (some (-1))))) D = _ := (upd_ne (ne_of_none h10 np2)).trans h10
        generalize L2.upd H10 p2 (.lst (cutV ((rs ++ [x]).map V.str) none (some (-1)))) = H11 at m11 s11 hp11 h11
        have npp := sl_lst s11 hp11
        refine ⟨_, rfl, _, rfl, _, rfl, D, _, rfl, .inl (SqL.of h11), a, c0, _, rfl, s11, ?_, ?_, fun u H12 u0 u1 e12 s12 => ?_⟩
        · have hpos : (0 : Int) < (((zs.map V.str).length : Nat) : Int) := of_decide_eq_true hpos
          omega
        · rw [List.length_map]; omega
        obtain ⟨k2, rfl, hk2⟩ := nat_of u0 u1
        rw [List.length_map] at hk2
        have hkl : k2 < zs.length := by omega
        have m12 := m11.trans (Mv.take s11 s12 e12)
        have hp12 : H12 p2 = _ := (e12 p2 npp.1 npp.2).trans hp11
        have h12 : H12 D = _ := (e12 D npD.1 npD.2).trans h11
        refine ⟨D, _, _, .str zs[k2], rfl, rfl, SqL.of h12, atI_nat (by rw [List.getElem?_map, List.getElem?_eq_getElem hkl]; rfl), by show 1 ≤ sizeLine; decide, fun L nL => ?_⟩
        have m13 := m12.new (m12.free _ nL) (o := .lst [.str zs[k2]])
        have s13 := s12.same (same_upd nL (o := .lst [.str zs[k2]]))
        have hp13 : (L2.upd H12 L (.lst [.str zs[k2]])) p2 = _ := (upd_ne (ne_of_none hp12 nL)).trans hp12
        have h13 : (L2.upd H12 L (.lst [.str zs[k2]])) D = _ := (upd_ne (ne_of_none h12 nL)).trans h12
        have hL13 : (L2.upd H12 L (.lst [.str zs[k2]])) L = _ := upd_same
        generalize L2.upd H12 L (.lst [.str zs[k2]]) = H13 at m13 s13 hp13 h13 hL13
        refine ⟨p2, L, _, _, rfl, rfl, hp13, hL13, ?_, fun p3 np3 => ?_⟩
        · rw [List.length_map, sizeLine_eq]; simp; omega
        refine ⟨m13.new (m13.free _ np3), s13.same (same_upd np3), (upd_ne (ne_of_none h13 np3)).trans h13, p3, rs ++ [zs[k2]], _, ?_, m13.free _ np3, ne_of_none h13 np3, fun y hy => ?_, ?_, rfl⟩
        · rw [upd_same, List.map_append]; rfl
        · rcases List.mem_append.mp hy with h | h
          · exact hrs y h
          · rw [List.mem_singleton.mp h]; exact hz3 _ (List.getElem_mem hkl)
        · rw [List.length_append, lrs]; rfl
      · rintro σ H6 ⟨m6, s6, h6, g, rs, k, hg6, n0g, gD, hrs, lrs, rfl⟩
        have lrs3 : rs.length ≤ 3 := by omega
        have sg : ∀ z ∈ rs, z.length ≤ 1000 := fun z hz => by
          have := (addr_no (hrs z hz)).2.2
          omega
        refine ⟨_, rfl, rfl, _, rfl, ?_⟩
        rw [dec_str]
        cases b with
        | false =>
          rw [decide_eq_true (show word false = "image" from rfl)]
          refine iteT ⟨_, rfl, g, rs, rfl, SqL.of hg6, by omega, sg, fun H7 s7 => ?_⟩
          exact q _ H7 (tx_image hrs (by omega)) (good_image hrs (by omega)).2.1 (s6.same s7) (m6.trans (Mv.same s7))
        | true =>
          rw [decide_eq_false (show ¬ word true = "image" from by decide +kernel)]
          refine iteF ?_
          have lb := bN rfl
          refine ⟨_, rfl, g, _, rfl, .inl (SqL.of hg6), _, rfl, by omega, by rw [List.length_map]; omega, fun D2 nD2 => ?_⟩
          rw [List.length_map]
          have n0D2 : H D2 = none := m6.free _ nD2
          obtain ⟨ps, eps⟩ : ∃ ps : List Str, ps = [Str.ofString "mill", Str.ofString "yard", Str.ofString "dock"] := ⟨_, rfl⟩
          refine lc_it (walk_range (lo := 0) (n := rs.length)) (fun j H' => Same H6 H' ∧ ∃ ts, H' D2 = some (.lst ts) ∧ ts.length = j ∧ Prs K H' ts ((ps.zip rs).take j)) ⟨same_upd nD2, [], upd_same, rfl, .nil⟩ (fun _ _ _ _ => True.intro) ?_ ?_
          · rintro j v H0 H7 hj ⟨s7, ts, h7, lts, pr⟩ ⟨rfl, rfl⟩
            refine ⟨rfl, tyes ?_⟩
            have lz : (ps.zip rs).length = rs.length := by rw [List.length_zip, eps]; simp; omega
            obtain ⟨e, ee⟩ : ∃ e, (ps.zip rs)[j]? = some e := ⟨_, List.getElem?_eq_getElem (by omega)⟩
            have e1 : ps[j]? = some e.1 := by
              have := List.getElem?_zip_eq_some.mp ee
              exact this.1
            have e2 : rs[j]? = some e.2 := by
              have := List.getElem?_zip_eq_some.mp ee
              exact this.2
            have hg7 := s7 _ _ hg6
            refine ⟨by show 3 ≤ sizeLine; decide, fun L nL => ?_⟩
            have s8 := same_upd nL (o := .lst [.str "mill", .str "yard", .str "dock"])
            have hL8 : (L2.upd H7 L (.lst [.str "mill", .str "yard", .str "dock"])) L = some (.lst (ps.map V.str)) := by rw [upd_same, eps]; rfl
            generalize L2.upd H7 L (.lst [.str "mill", .str "yard", .str "dock"]) = H8 at s8 hL8
            refine ⟨_, rfl, L, _, _, .str e.1, rfl, rfl, SqL.of hL8, ?_, _, rfl, _, rfl, g, _, _, .str e.2, rfl, rfl, SqL.of (s8 _ _ hg7), ?_, by show 2 ≤ sizeLine; decide, fun t nt => ?_⟩
            · show atI _ (0 + (j : Int)) = _
              rw [Int.zero_add]
              exact atI_nat (by rw [List.getElem?_map, e1]; rfl)
            · show atI _ (0 + (j : Int)) = _
              rw [Int.zero_add]
              exact atI_nat (by rw [List.getElem?_map, e2]; rfl)
            have s9 := (s7.trans s8).trans (same_upd nt (o := .tup [.str e.1, .str e.2]))
            have s79 := s8.trans (same_upd nt (o := .tup [.str e.1, .str e.2]))
            have ht9 : (L2.upd H8 t (.tup [.str e.1, .str e.2])) t = _ := upd_same
            generalize L2.upd H8 t (.tup [.str e.1, .str e.2]) = H9 at s9 s79 ht9
            have h9 := s79 _ _ h7
            refine ⟨ts, h9, by rw [lts, sizeLine_eq]; omega, ?_, ts ++ [.ref t], upd_same, by rw [List.length_append, lts]; rfl, ?_⟩
            · refine fun b' o hb => ?_
              by_cases hbD : b' = D2
              · subst hbD
                rw [nD2] at hb; cases hb
              · rw [upd_ne hbD]; exact s9 b' o hb
            · rw [List.take_add_one, ee]
              have kp : ∀ u xs, H9 u = some (.tup xs) → (L2.upd H9 D2 (.lst (ts ++ [.ref t]))) u = some (.tup xs) := fun u xs e => by rw [upd_ne (ne_of e h9 (by intro z; cases z))]; exact e
              exact prs_snoc (prs_keep (fun u xs e => kp u xs (s79 _ _ e)) pr) (kp _ _ ht9)
          · rintro H7 ⟨s7, ts, h7, lts, pr⟩
            have lz : (ps.zip rs).length = rs.length := by rw [List.length_zip, eps]; simp; omega
            rw [List.take_of_length_le (by omega)] at pr
            have hes : ∀ y ∈ ps.zip rs, isPlat y.1 = true ∧ isAddr y.2 = true := fun y hy => by
              have := List.of_mem_zip hy
              refine ⟨?_, hrs _ this.2⟩
              have h1 := this.1
              rw [eps] at h1
              simp only [List.mem_cons, List.not_mem_nil, or_false] at h1
              rcases h1 with h | h | h <;> (rw [h]; decide +kernel)
            have hnd : ((ps.zip rs).map (·.1)).Nodup := by
              refine List.Nodup.sublist (zip_fst_sub _ _) ?_
              rw [eps]; decide +kernel
            have hl : (ps.zip rs).length ≤ 10 := by omega
            refine ⟨D2, ts, ps.zip rs, rfl, SqL.of h7, pr, by omega, fun y hy => ?_, fun H8 s8 => ?_⟩
            · have := hes y hy
              have h1 := (plat_no this.1).2.2.2
              have h2 := (addr_no this.2).2.2
              omega
            · exact q _ H8 (tx_bundle hes hnd (by omega) hl) (good_bundle hes hnd (by omega) hl).2.1 ((s6.same s7).same s8) (m6.trans (Mv.same (s7.trans s8)))
end
end LW
namespace LW
open PySem PySem.Spec PyProof.Rows L2 GxR
/-- repr of a list or tuple of data, where no guard stands -/
theorem call_reprD {X : Cx} (hg : X.A.guards = some []) (hu : X.A.units + 66 < cLine) : CallR X (.builtin "repr") (fun xs H Q => ∃ (a : Addr) (d : PyData), xs = [.ref a] ∧ Dp X.K H (.ref a) d ∧ d.showable = true ∧ d.hasDict = false ∧ d.depth ≤ 64 ∧ d.shown.length ≤ sizeLine ∧ Q (.str d.shown) H) := by
  intro pins s σ H xs us Q I r h
  obtain ⟨a, d, rfl, hd, sh, nd, dp, sz, q⟩ := h
  obtain ⟨u, rfl, rx⟩ := vals1 r
  obtain ⟨as, rd⟩ := Dp.reads I d (.ref a) u hd rx
  cases rx
  refine PySem.repr_of_reads' rd sh (PyData.noDict_hsm nd) hg (by omega) (fun b o e => e) (fun h' t tk k => ?_) sz
  exact ⟨.str d.shown, H, I.kept k, ⟨t, rfl⟩, q⟩
/-- small numbers and texts -/
def KS : Key → Prop
  | .inl i => i.natAbs < 10 ^ 9
  | .inr x => (∀ c ∈ x.cps.toList, c < 1000) ∧ x.length ≤ 5000
theorem ks_shown {k : Key} (h : KS k) : (kD k).showable = true ∧ (kD k).hasDict = false ∧ (kD k).depth = 0 ∧ (kD k).shown.length ≤ 60000 := by
  match k, h with
  | .inl i, h =>
    have h : i.natAbs < 10 ^ 9 := h
    refine ⟨?_, rfl, rfl, ?_⟩
    · show decide (i.natAbs.log2 < 1920) = true
      have : i.natAbs.log2 ≤ 30 := by
        have h2 : i.natAbs < 2 ^ 30 := Nat.lt_of_lt_of_le h (by decide)
        by_cases z : i.natAbs = 0
        · rw [z]; decide
        · exact Nat.le_of_lt ((Nat.log2_lt z).mpr h2)
      exact decide_eq_true (by omega)
    · have := PySem.int_text_length_le10 (a := i) (k := 9) (by decide) h
      show (Str.ofString (toString i)).length ≤ _
      rw [PySem.ofString_length]
      omega
  | .inr x, h =>
    refine ⟨rfl, rfl, rfl, ?_⟩
    have := PySem.StrLaws.reprText_len x fun c hc => Nat.lt_trans (h.1 c hc) (by decide)
    have h2 := h.2
    show (reprText x).length ≤ _
    omega
theorem keys_shown : ∀ {ks : List Key}, (∀ k ∈ ks, KS k) → PyData.showableAll (ks.map kD) = true ∧ PyData.hasDictAll (ks.map kD) = false ∧ PyData.depthAll (ks.map kD) = 0 ∧ ((PyData.shownAll (ks.map kD)).map (·.length)).sum ≤ 60000 * ks.length ∧ (PyData.shownAll (ks.map kD)).length = ks.length
  | [], _ => ⟨rfl, rfl, rfl, Nat.le_refl _, rfl⟩
  | k :: r, h => by
    obtain ⟨a1, a2, a3, a4⟩ := ks_shown (h k List.mem_cons_self)
    obtain ⟨b1, b2, b3, b4, b5⟩ := keys_shown (ks := r) fun y hy => h y (List.mem_cons_of_mem _ hy)
    rw [List.map_cons]
    refine ⟨by rw [PyData.showableAll, a1, b1]; rfl, by rw [PyData.hasDictAll, a2, b2]; rfl, by rw [PyData.depthAll, a3, b3]; rfl, ?_, ?_⟩
    · rw [PyData.shownAll, List.map_cons, List.sum_cons, List.length_cons]
      omega
    · rw [PyData.shownAll, List.length_cons, List.length_cons, b5]
/-- repr of a reply -/
theorem tup_shown {ks : List Key} (h : ∀ k ∈ ks, KS k) (hl : ks.length ≤ 100) : (PyData.tuple (ks.map kD)).showable = true ∧ (PyData.tuple (ks.map kD)).hasDict = false ∧ (PyData.tuple (ks.map kD)).depth ≤ 64 ∧ (PyData.tuple (ks.map kD)).shown.length ≤ sizeLine := by
  obtain ⟨b1, b2, b3, b4, b5⟩ := keys_shown h
  refine ⟨b1, b2, by rw [PyData.depth, b3]; decide, ?_⟩
  have := PySem.tupleText_len_le (PyData.shownAll (ks.map kD))
  rw [sizeLine_eq]
  show (tupleText _).length ≤ _
  rw [b5] at this
  have : 60000 * ks.length ≤ 60000 * 100 := Nat.mul_le_mul_left _ hl
  omega
end LW
namespace LW
open PySem PySem.Spec PyProof.Rows L2 GxR
/-- the numbers and texts of a request that its reply may tell again -/
def Rq.told : Rq → List Key
  | .put cl _ _ => [.inl cl]
  | .part u at_ _ => [.inl u, .inl at_]
  | q => q.keys
def sp_request6 : Sp := fun vs H Q _ => ∃ (a c0 : Addr) (M : M6) (A : Ab) (i : Nat), vs = [.ref a, .ref M.md] ∧ SL H a c0 ∧ MO M H ∧ E6 i A M ∧ i ≤ 200 ∧ ∀ (rq : Rq) (qa : Addr) (H' : Hp), H' qa = some (.tup (rq.keys.map kV)) → (∀ c b t, rq = .put c b t → TxOk b t) → (∀ u p t, rq = .part u p t → (∀ z ∈ t.cps.toList, z ∈ drawn) ∧ t.length ≤ 3) → (∀ k ∈ rq.told, KS k) → SL H' a c0 → Mv a c0 H H' → Q (.ref qa) H'
theorem five {u : Int} (u0 : 0 ≤ u) (u1 : u < 5) : ∃ d : Nat, atI [V.int 0, V.int 0, V.int 0, V.int 1, V.int 2] u = some (.int (d : Int)) ∧ d ≤ 2 := by
  obtain ⟨j, rfl, hj⟩ := nat_of u0 u1
  match j, hj with
  | 0, _ => exact ⟨0, rfl, by decide⟩
  | 1, _ => exact ⟨0, rfl, by decide⟩
  | 2, _ => exact ⟨0, rfl, by decide⟩
  | 3, _ => exact ⟨1, rfl, by decide⟩
  | 4, _ => exact ⟨2, rfl, by decide⟩
  | j + 5, hj => omega
theorem ks_addr {x : Str} (h : isAddr x = true) : KS (.inr x) := by
  have := (addr_no h).2.2
  exact ⟨Asc.of_addr h, by omega⟩
theorem ks_int {z : Int} (h : z.natAbs ≤ 100000) : KS (.inl z) := by
  show z.natAbs < 10 ^ 9
  omega
def AllKS : List Key → Prop
  | [] => True
  | k :: r => KS k ∧ AllKS r
theorem ks_all : ∀ {l : List Key}, AllKS l → ∀ k ∈ l, KS k
  | [], _, _, h => nomatch h
  | x :: r, h, k, hk => (List.mem_cons.mp hk).elim (fun e => e ▸ h.1) fun e => ks_all h.2 k e
theorem ks_lit {x : Str} (h : (x.cps.toList.all (fun c => decide (c < 1000)) && decide (x.length ≤ 5000)) = true) : KS (.inr x) := by
  obtain ⟨h1, h2⟩ := Bool.and_eq_true_iff.mp h
  exact ⟨asc_of h1, of_decide_eq_true h2⟩
abbrev s_law_request : Stmt := topS 54
abbrev N_law_request : List Str := ["state", "model", "kind", "claim", "upload", "name", "at", "address", "word"]
abbrev P_law_request : List Str := ["state", "model"]
theorem sc_law_request : FnScope N_law_request P_law_request (defScope s_law_request) := ⟨rfl, rfl, rfl, by decide +kernel, rfl, by decide +kernel, by decide +kernel⟩
section
variable {P : Program} {w : World} {K : PySem.W.Frag} {mg : Str → Option Value} {base : Heap} {cM cR : Addr} {c : CA}
theorem ok_law_request {f : Addr} {fd : FuncData} (F : Fun K "_law_request" "_law_request" s_law_request f fd) (T : Tx K mg cM cR c.U) (TC : Tc K mg c.C) (TK : Tk K mg c.K c.L) (TG : Tg K w mg c.G)
    (C__law_address : Cal P w K mg base CX0 3 "_law_address" P_law_address sp_address6)
    (C__law_take : Cal P w K mg base CX0 1 "_law_take" P_law_take spTake)
    (C__law_text : Cal P w K mg base CX0 2 "_law_text" P_law_text spText)
    (C__law_text_of : Cal P w K mg base CX0 4 "_law_text_of" P_law_text_of sp_text6)
    (C_address_of : Cal P w K mg base CX0 1 "address_of" P_address_of spAddr) : FnOk P w K mg base CX0 5 f fd P_law_request sp_request6 := by
  refine F.ok sc_law_request (fun vs H Q E h => ?_) (fun cdv A outer s H vs Q E hr h => ?_)
  · obtain ⟨_, _, _, _, _, rfl, _⟩ := h
    rfl
  · obtain ⟨a, c0, M, A6, i, rfl, sl, mo, e6, hi, q⟩ := h
    have nd := sc_law_request.nd
    have hu := hu_of hr
    refine ⟨_, pss_cons (ps_set (i := 2) nd rfl (Or.inl rfl) (pe_cal C__law_take hr (pa_cons (pv 0) (pa_cons pe_int pa_nil))))
  (pss_cons (ps_set (i := 3) nd rfl (Or.inl rfl) (pe_op op_sub (pe_dget hu (pv 1) pe_str (fun _ _ => rfl)) (pe_ix ix_list (pe_lst (pa_cons pe_int (pa_cons pe_int (pa_cons pe_int (pa_cons pe_int (pa_cons pe_int pa_nil)))))) (pe_cal C__law_take hr (pa_cons (pv 0) (pa_cons pe_int pa_nil))) (fun _ _ => rfl))))
  (pss_cons (ps_set (i := 4) nd rfl (Or.inl rfl) (pe_op op_sub (pe_dget hu (pv 1) pe_str (fun _ _ => rfl)) (pe_ix ix_list (pe_lst (pa_cons pe_int (pa_cons pe_int (pa_cons pe_int (pa_cons pe_int (pa_cons pe_int pa_nil)))))) (pe_cal C__law_take hr (pa_cons (pv 0) (pa_cons pe_int pa_nil))) (fun _ _ => rfl))))
  (pss_cons (ps_set (i := 5) nd rfl (Or.inl rfl) (pe_ix ix_list (pe_lst (pa_cons pe_str (pa_cons pe_str pa_nil))) (pe_cal C__law_take hr (pa_cons (pv 0) (pa_cons pe_int pa_nil))) (fun _ _ => rfl)))
  (pss_cons (ps_if (pt_cmpR op_lt (pv 2) pe_int (nomark _))
    (pss_one (ps_ret (pe_ix ix_list (pe_lst (pa_cons (pe_tup (pa_cons pe_str pa_nil)) (pa_cons (pe_tup (pa_cons pe_str (pa_cons (pv 3) pa_nil))) pa_nil))) (pv 2) (fun _ _ => rfl))))
    (pss_nil))
  (pss_cons (ps_if (pt_cmpR op_lt (pv 2) pe_int (nomark _))
    (pss_cons (ps_set (i := 6) nd rfl (Or.inl rfl) (pe_op op_add (pe_callB call_len_str (by rfl) T.len (by decide +kernel) (pa_cons (pe_dget2 hu (pe_dget hu (pv 1) pe_str (fun _ _ => rfl)) (pv 4) pe_str ⟨rfl, rfl, rfl, rfl⟩) pa_nil)) (pe_ix ix_list (pe_lst (pa_cons pe_int (pa_cons pe_int (pa_cons pe_int (pa_cons pe_int pa_nil))))) (pe_cal C__law_take hr (pa_cons (pv 0) (pa_cons pe_int pa_nil))) (fun _ _ => rfl))))
  (pss_one (ps_ret (pe_tup (pa_cons pe_str (pa_cons (pv 4) (pa_cons (pv 6) (pa_cons (pe_cal C__law_text hr (pa_cons (pv 0) (pa_cons pe_int pa_nil))) pa_nil))))))))
    (pss_nil))
  (pss_cons (ps_if (pt_cmpR op_lt (pv 2) pe_int (nomark _))
    (pss_cons (ps_set (i := 7) nd rfl (Or.inl rfl) (pe_cal C__law_address hr (pa_cons (pv 0) (pa_cons (pv 1) pa_nil))))
  (pss_cons (ps_if (pt_cmpR op_gt (pe_cal C__law_take hr (pa_cons (pv 0) (pa_cons pe_int pa_nil))) pe_int (nomark _))
    (pss_one (ps_set (i := 7) nd rfl (Or.inl rfl) (pe_cal C_address_of hr (pa_cons pe_str (pa_cons (pe_dget2 hu (pe_dget hu (pv 1) pe_str (fun _ _ => rfl)) (pv 4) pe_str ⟨rfl, rfl, rfl, rfl⟩) pa_nil)))))
    (pss_nil))
  (pss_one (ps_ret (pe_tup (pa_cons pe_str (pa_cons (pv 4) (pa_cons (pv 3) (pa_cons pe_str (pa_cons (pv 7) pa_nil))))))))))
    (pss_nil))
  (pss_cons (ps_if (pt_cmpR op_eq (pv 2) pe_int (nomark _))
    (pss_one (ps_ret (pe_tup (pa_cons pe_str (pa_cons (pv 3) (pa_cons (pe_cal C__law_address hr (pa_cons (pv 0) (pa_cons (pv 1) pa_nil))) pa_nil))))))
    (pss_nil))
  (pss_cons (ps_if (pt_cmpR op_lt (pv 2) pe_int (nomark _))
    (pss_cons (ps_set (i := 8) nd rfl (Or.inl rfl) (pe_ix ix_list (pe_lst (pa_cons pe_str (pa_cons pe_str (pa_cons pe_str pa_nil)))) (pe_op op_sub (pv 2) pe_int) (fun _ _ => rfl)))
  (pss_one (ps_ret (pe_tup (pa_cons pe_str (pa_cons (pv 3) (pa_cons (pv 8) (pa_cons (pe_cal C__law_text_of hr (pa_cons (pv 0) (pa_cons (pv 1) (pa_cons (pv 8) pa_nil)))) pa_nil))))))))
    (pss_nil))
  (pss_cons (ps_if (pt_cmpR op_lt (pv 2) pe_int (nomark _))
    (pss_one (ps_ret (pe_tup (pa_cons pe_str (pa_cons (pv 3) (pa_cons (pv 5) (pa_cons (pe_cal C__law_address hr (pa_cons (pv 0) (pa_cons (pv 1) pa_nil))) pa_nil)))))))
    (pss_nil))
  (pss_cons (ps_if (pt_cmpR op_eq (pv 2) pe_int (nomark _))
    (pss_one (ps_ret (pe_ix ix_list (pe_lst (pa_cons (pe_tup (pa_cons pe_str (pa_cons (pv 5) pa_nil))) (pa_cons (pe_tup (pa_cons pe_str (pa_cons (pv 5) pa_nil))) pa_nil))) (pe_op op_fdiv (pe_cal C__law_take hr (pa_cons (pv 0) (pa_cons pe_int pa_nil))) pe_int) (fun _ _ => rfl))))
    (pss_nil))
  (pss_cons (ps_if (pt_cmpR op_eq (pv 2) pe_int (nomark _))
    (pss_one (ps_ret (pe_tup (pa_cons pe_str (pa_cons (pe_cal C__law_address hr (pa_cons (pv 0) (pa_cons (pv 1) pa_nil))) (pa_cons (pe_cal C__law_take hr (pa_cons (pv 0) (pa_cons pe_int pa_nil))) (pa_cons (pe_op op_add pe_int (pe_cal C__law_take hr (pa_cons (pv 0) (pa_cons pe_int pa_nil)))) pa_nil)))))))
    (pss_nil))
  (pss_one (ps_ret (pe_ix ix_list (pe_lst (pa_cons (pe_tup (pa_cons pe_str (pa_cons (pv 3) pa_nil))) (pa_cons (pe_tup (pa_cons pe_str (pa_cons (pv 3) pa_nil))) pa_nil))) (pe_op op_fdiv (pe_cal C__law_take hr (pa_cons (pv 0) (pa_cons pe_int pa_nil))) pe_int) (fun _ _ => rfl))))))))))))))), ?_⟩
    have lB : M.B.length ≤ 5000 := by rw [e6.b]; have := e6.nB; omega
    have adr : ∀ e ∈ M.B, isAddr e.1 = true := by rw [e6.b]; exact e6.adr
    refine ⟨_, rfl, a, c0, 16, rfl, sl, by decide, by decide, fun k H1 k0 k1 e1 s1 => ?_⟩
    have m1 : Mv a c0 H H1 := Mv.take sl s1 e1
    have mo1 := mo.mv sl m1
    refine ⟨_, rfl, M.md, _, rfl, mo1.g5, by show 5 ≤ sizeLine; decide, fun L nL => ?_⟩
    have m2 := m1.new (m1.free _ nL) (o := .lst [.int 0, .int 0, .int 0, .int 1, .int 2])
    have s2 := s1.same (same_upd nL (o := .lst [.int 0, .int 0, .int 0, .int 1, .int 2]))
    have hL : (L2.upd H1 L (.lst [.int 0, .int 0, .int 0, .int 1, .int 2])) L = _ := upd_same
    have nLa := s1.ne nL
    generalize L2.upd H1 L (.lst [.int 0, .int 0, .int 0, .int 1, .int 2]) = H2 at m2 s2 hL
    refine ⟨_, rfl, a, c0, 5, rfl, s2, by decide, by decide, fun u H3 u0 u1 e3 s3 => ?_⟩
    obtain ⟨d1, ed1, ld1⟩ := five u0 u1
    have m3 := m2.trans (Mv.take s2 s3 e3)
    refine ⟨L, _, _, _, rfl, rfl, SqL.of ((e3 L nLa.1 nLa.2).trans hL), ed1, _, _, rfl, rfl, ?_⟩
    obtain ⟨cl, ecl⟩ : ∃ cl : Int, cl = (M.n : Int) - (d1 : Int) := ⟨_, rfl⟩
    show gName 3 (V.int ((M.n : Int) - (d1 : Int))) _ _ _
    rw [← ecl]
    have hcl : KS (.inl cl) := ks_int (by have := e6.c; have := e6.cn; omega)
    have mo3 := mo.mv sl m3
    refine ⟨_, rfl, M.md, _, rfl, mo3.g6, by show 5 ≤ sizeLine; decide, fun L4 nL4 => ?_⟩
    have m4 := m3.new (m3.free _ nL4) (o := .lst [.int 0, .int 0, .int 0, .int 1, .int 2])
    have s4 := s3.same (same_upd nL4 (o := .lst [.int 0, .int 0, .int 0, .int 1, .int 2]))
    have hL4 : (L2.upd H3 L4 (.lst [.int 0, .int 0, .int 0, .int 1, .int 2])) L4 = _ := upd_same
    have nLa4 := s3.ne nL4
    generalize L2.upd H3 L4 (.lst [.int 0, .int 0, .int 0, .int 1, .int 2]) = H4 at m4 s4 hL4
    refine ⟨_, rfl, a, c0, 5, rfl, s4, by decide, by decide, fun u H5 u0 u1 e5 s5 => ?_⟩
    obtain ⟨d2, ed2, ld2⟩ := five u0 u1
    have m5 := m4.trans (Mv.take s4 s5 e5)
    refine ⟨L4, _, _, _, rfl, rfl, SqL.of ((e5 L4 nLa4.1 nLa4.2).trans hL4), ed2, _, _, rfl, rfl, ?_⟩
    obtain ⟨up, eup⟩ : ∃ up : Int, up = (M.m : Int) - (d2 : Int) := ⟨_, rfl⟩
    show gName 4 (V.int ((M.m : Int) - (d2 : Int))) _ _ _
    rw [← eup]
    have hup : KS (.inl up) := ks_int (by have := e6.m; have := e6.cm; omega)
    refine ⟨by show 2 ≤ sizeLine; decide, fun L6 nL6 => ?_⟩
    have m6 := m5.new (m5.free _ nL6) (o := .lst [.str "app", .str "web"])
    have s6 := s5.same (same_upd nL6 (o := .lst [.str "app", .str "web"]))
    have hL6 : (L2.upd H5 L6 (.lst [.str "app", .str "web"])) L6 = _ := upd_same
    have nLa6 := s5.ne nL6
    generalize L2.upd H5 L6 (.lst [.str "app", .str "web"]) = H6 at m6 s6 hL6
    refine ⟨_, rfl, a, c0, 2, rfl, s6, by decide, by decide, fun u H7 u0 u1 e7 s7 => ?_⟩
    obtain ⟨nm, en, hnm⟩ : ∃ nm : Str, atI [V.str "app", V.str "web"] u = some (.str nm) ∧ KS (.inr nm) := by
      obtain ⟨j, rfl, hj⟩ := nat_of u0 u1
      match j, hj with
      | 0, _ => exact ⟨_, rfl, ks_lit (by decide +kernel)⟩
      | 1, _ => exact ⟨_, rfl, ks_lit (by decide +kernel)⟩
      | j + 2, hj => omega
    have m7 := m6.trans (Mv.take s6 s7 e7)
    refine ⟨L6, _, _, .str nm, rfl, rfl, SqL.of ((e7 L6 nLa6.1 nLa6.2).trans hL6), en, ?_⟩
    have mo7 := mo.mv sl m7
    clear e1 e3 e5 e7 hL hL4 hL6 mo1 mo3
    refine ⟨_, rfl, _, _, rfl, rfl, _, rfl, ite2 (fun hk => ?_) (fun _ => ?_)⟩
    · refine ⟨by show 1 ≤ sizeLine; decide, fun t1 n1 => ?_⟩
      have a1 := same_upd n1 (o := .tup [.str "open"])
      have b1 : (L2.upd H7 t1 (.tup [.str "open"])) t1 = _ := upd_same
      generalize L2.upd H7 t1 (.tup [.str "open"]) = G1 at a1 b1
      refine ⟨_, rfl, by show 2 ≤ sizeLine; decide, fun t2 n2 => ?_⟩
      have a2 := same_upd n2 (o := .tup [.str "start", .int cl])
      have b2 : (L2.upd G1 t2 (.tup [.str "start", .int cl])) t2 = _ := upd_same
      generalize L2.upd G1 t2 (.tup [.str "start", .int cl]) = G2 at a2 b2
      refine ⟨by show 2 ≤ sizeLine; decide, fun t3 n3 => ?_⟩
      have a3 := same_upd n3 (o := .lst [.ref t1, .ref t2])
      have b3 : (L2.upd G2 t3 (.lst [.ref t1, .ref t2])) t3 = _ := upd_same
      generalize L2.upd G2 t3 (.lst [.ref t1, .ref t2]) = G3 at a3 b3
      have al := (a1.trans a2).trans a3
      have hk : k < 2 := of_decide_eq_true hk
      obtain ⟨j, rfl, hj⟩ := nat_of k0 hk
      match j, hj with
      | 0, _ => exact ⟨_, rfl, t3, _, _, .ref t1, rfl, rfl, SqL.of b3, rfl, q .opn t1 G3 (a3 _ _ (a2 _ _ b1)) (fun _ _ _ e => nomatch e) (fun _ _ _ e => nomatch e) (ks_all (l := [.inr "open"]) ⟨ks_lit (by decide +kernel), trivial⟩) (s7.same al) (m7.trans (.same al))⟩
      | 1, _ => exact ⟨_, rfl, t3, _, _, .ref t2, rfl, rfl, SqL.of b3, rfl, q (.start cl) t2 G3 (a3 _ _ b2) (fun _ _ _ e => nomatch e) (fun _ _ _ e => nomatch e) (ks_all (l := [.inr "start", .inl cl]) ⟨ks_lit (by decide +kernel), hcl, trivial⟩) (s7.same al) (m7.trans (.same al))⟩
      | j + 2, hj => omega
    refine ⟨_, rfl, _, _, rfl, rfl, _, rfl, ite2 (fun _ => ?_) (fun _ => ?_)⟩
    · -- part
      have gU : ∀ {H9 : Hp}, MO M H9 → ∃ ov, DGet H9 M.tx (.int up) ov ∧ ov = (lkU A6.U up).map V.str := fun mo => ⟨_, DGet.k (k := .inl up) mo.ht, by rw [tx_lk, e6.u]⟩
      obtain ⟨ov, g, eov⟩ := gU mo7
      have lz : ∀ z, lkU A6.U up = some z → z.length ≤ 3 * i := fun z ez => by
        obtain ⟨e0, he0, _, e1⟩ := lkU_mem ez
        have := (e6.dr e0 he0).2
        rw [e1] at this; exact this
      obtain ⟨z, ezz, lzz⟩ : ∃ z : Str, ov.getD (.str "") = .str z ∧ z.length ≤ 600 := by
        rw [eov]
        cases ez : lkU A6.U up with
        | none => exact ⟨"", rfl, Nat.zero_le _⟩
        | some z => exact ⟨z, rfl, by have := lz z ez; omega⟩
      refine ⟨_, rfl, M.md, _, rfl, mo7.g4, M.tx, rfl, .inl ⟨_, .inl mo7.ht⟩, _, rfl, ov, g, ?_⟩
      rw [ezz]
      refine ⟨z, rfl, by rw [sizeLine_eq]; omega, by show 4 ≤ sizeLine; decide, fun L nL => ?_⟩
      have m8 := m7.new (m7.free _ nL) (o := .lst [.int 0, .int 0, .int 0, .int 1])
      have s8 := s7.same (same_upd nL (o := .lst [.int 0, .int 0, .int 0, .int 1]))
      have hL : (L2.upd H7 L (.lst [.int 0, .int 0, .int 0, .int 1])) L = _ := upd_same
      have nLa := s7.ne nL
      generalize L2.upd H7 L (.lst [.int 0, .int 0, .int 0, .int 1]) = H8 at m8 s8 hL
      refine ⟨_, rfl, a, c0, 4, rfl, s8, by decide, by decide, fun u H9 u0 u1 e9 s9 => ?_⟩
      obtain ⟨d, ed, ld⟩ : ∃ d : Nat, atI [V.int 0, V.int 0, V.int 0, V.int 1] u = some (.int (d : Int)) ∧ d ≤ 1 := by
        obtain ⟨j, rfl, hj⟩ := nat_of u0 u1
        match j, hj with
        | 0, _ => exact ⟨0, rfl, by decide⟩
        | 1, _ => exact ⟨0, rfl, by decide⟩
        | 2, _ => exact ⟨0, rfl, by decide⟩
        | 3, _ => exact ⟨1, rfl, by decide⟩
        | j + 4, hj => omega
      have m9 := m8.trans (Mv.take s8 s9 e9)
      refine ⟨L, _, _, _, rfl, rfl, SqL.of ((e9 L nLa.1 nLa.2).trans hL), ed, _, _, rfl, rfl, ?_⟩
      refine ⟨_, rfl, _, rfl, _, rfl, a, c0, 3, rfl, s9, by decide, fun x H10 lx hx s10 m10 => ⟨by show 4 ≤ sizeLine; decide, fun t nt => ?_⟩⟩
      refine q (.part up ((z.length : Int) + (d : Int)) x) t _ upd_same (fun _ _ _ e => nomatch e) (fun u p t e => by cases e; exact ⟨hx, lx⟩) (ks_all (l := [.inl up, .inl _]) ⟨hup, ks_int (by omega), trivial⟩) (s10.same (same_upd nt)) ((m9.trans m10).trans (.same (same_upd nt)))
    refine ⟨_, rfl, _, _, rfl, rfl, _, rfl, ite2 (fun _ => ?_) (fun hk7 => ?_)⟩
    · -- finish
      refine ⟨_, rfl, _, rfl, a, c0, M, rfl, s7, mo7, adr, lB, fun x H8 hx s8 m8 => ?_⟩
      refine ⟨_, rfl, a, c0, 4, rfl, s8, by decide, by decide, fun u H9 u0 u1 e9 s9 => ⟨_, _, rfl, rfl, _, rfl, ?_⟩⟩
      have m9 := (m7.trans m8).trans (Mv.take s8 s9 e9)
      have fin : ∀ y, isAddr y = true → ∀ t, H9 t = none → Q (.ref t) (L2.upd H9 t (.tup [.str "finish", .int up, .int cl, .str "layer", .str y])) := fun y hy t nt =>
        q (.fin up cl y) t _ upd_same (fun _ _ _ e => nomatch e) (fun _ _ _ e => nomatch e) (ks_all (l := [.inr "finish", .inl up, .inl cl, .inr "layer", .inr y]) ⟨ks_lit (by decide +kernel), hup, hcl, ks_lit (by decide +kernel), ks_addr hy, trivial⟩) (s9.same (same_upd nt)) (m9.trans (.same (same_upd nt)))
      refine ite2 (fun _ => ?_) (fun _ => ?_)
      · have mo9 := mo.mv sl m9
        have g : DGet H9 M.tx (.int up) ((lkU A6.U up).map V.str) := by
          have := DGet.k (k := .inl up) mo9.ht
          rw [tx_lk, e6.u] at this; exact this
        obtain ⟨z, ezz, lzz⟩ : ∃ z : Str, ((lkU A6.U up).map V.str).getD (.str "a") = .str z ∧ ((∀ c ∈ z.cps.toList, c < 1000) ∧ z.length ≤ 600) := by
          cases ez : lkU A6.U up with
          | none => exact ⟨"a", rfl, asc_of (by decide +kernel), by decide +kernel⟩
          | some z =>
            obtain ⟨e0, he0, _, e1⟩ := lkU_mem ez
            have := e6.dr e0 he0
            rw [e1] at this
            have key : ∀ c ∈ drawn, c < 1000 := by decide
            exact ⟨z, rfl, fun c hc => key c (this.1 c hc), by omega⟩
        refine ⟨_, rfl, M.md, _, rfl, mo9.g4, M.tx, rfl, .inl ⟨_, .inl mo9.ht⟩, _, rfl, _, g, ?_⟩
        rw [ezz]
        refine ⟨"layer", z, 0, rfl, rfl, ?_, _, rfl, _, rfl, _, rfl, by show 5 ≤ sizeLine; decide, fun t nt => fin _ (isAddr_hexS _) t nt⟩
        decide
      · exact ⟨_, rfl, _, rfl, _, rfl, by show 5 ≤ sizeLine; decide, fun t nt => fin x hx t nt⟩
    refine ⟨_, rfl, rfl, _, rfl, ite2 (fun _ => ?_) (fun hk8 => ?_)⟩
    · -- has
      refine ⟨_, rfl, _, rfl, _, rfl, a, c0, M, rfl, s7, mo7, adr, lB, fun x H8 hx s8 m8 => ⟨by show 3 ≤ sizeLine; decide, fun t nt => ?_⟩⟩
      exact q (.has cl x) t _ upd_same (fun _ _ _ e => nomatch e) (fun _ _ _ e => nomatch e) (ks_all (l := [.inr "has", .inl cl, .inr x]) ⟨ks_lit (by decide +kernel), hcl, ks_addr hx, trivial⟩) (s8.same (same_upd nt)) ((m7.trans m8).trans (.same (same_upd nt)))
    refine ⟨_, rfl, _, _, rfl, rfl, _, rfl, ite2 (fun hk => ?_) (fun _ => ?_)⟩
    · -- put
      have hk : k < 11 := of_decide_eq_true hk
      have hk7 : ¬ k < 7 := fun z => hk7 (decide_eq_true z)
      have hk8 : k ≠ 7 := fun z => hk8 (by rw [dec_int, z]; rfl)
      refine ⟨by show 3 ≤ sizeLine; decide, fun L nL => ?_⟩
      have m8 := m7.new (m7.free _ nL) (o := .lst [.str "image", .str "image", .str "bundle"])
      have s8 := s7.same (same_upd nL (o := .lst [.str "image", .str "image", .str "bundle"]))
      have hL : (L2.upd H7 L (.lst [.str "image", .str "image", .str "bundle"])) L = _ := upd_same
      generalize L2.upd H7 L (.lst [.str "image", .str "image", .str "bundle"]) = H8 at m8 s8 hL
      obtain ⟨b, eb⟩ : ∃ b : Bool, atI [V.str "image", V.str "image", V.str "bundle"] (k - 8) = some (.str (word b)) := by
        obtain ⟨j, ej, hj⟩ := nat_of (v := k - 8) (m := 3) (by omega) (by omega)
        rw [ej]
        match j, hj with
        | 0, _ => exact ⟨false, rfl⟩
        | 1, _ => exact ⟨false, rfl⟩
        | 2, _ => exact ⟨true, rfl⟩
        | j + 3, hj => omega
      refine ⟨_, rfl, _, _, rfl, rfl, L, _, _, _, rfl, rfl, SqL.of hL, eb, ?_⟩
      refine ⟨_, rfl, _, rfl, _, rfl, _, rfl, _, rfl, a, c0, M, b, rfl, s8, mo.mv sl m8, adr, lB, fun t H9 tk ta s9 m9 => ⟨by show 4 ≤ sizeLine; decide, fun p np => ?_⟩⟩
      exact q (.put cl b t) p _ upd_same (fun c' b' t' e => by cases e; exact tk) (fun _ _ _ e => nomatch e) (ks_all (l := [.inl cl]) ⟨hcl, trivial⟩) (s9.same (same_upd np)) ((m8.trans m9).trans (.same (same_upd np)))
    refine ⟨_, rfl, _, _, rfl, rfl, _, rfl, ite2 (fun _ => ?_) (fun _ => ?_)⟩
    · -- name
      refine ⟨_, rfl, _, rfl, _, rfl, _, rfl, a, c0, M, rfl, s7, mo7, adr, lB, fun x H8 hx s8 m8 => ⟨by show 4 ≤ sizeLine; decide, fun t nt => ?_⟩⟩
      exact q (.name cl nm x) t _ upd_same (fun _ _ _ e => nomatch e) (fun _ _ _ e => nomatch e) (ks_all (l := [.inr "name", .inl cl, .inr nm, .inr x]) ⟨ks_lit (by decide +kernel), hcl, hnm, ks_addr hx, trivial⟩) (s8.same (same_upd nt)) ((m7.trans m8).trans (.same (same_upd nt)))
    refine ⟨_, rfl, rfl, _, rfl, ite2 (fun _ => ?_) (fun _ => ?_)⟩
    · -- look, drop
      refine ⟨_, rfl, by show 2 ≤ sizeLine; decide, fun t1 n1 => ?_⟩
      have a1 := same_upd n1 (o := .tup [.str "look", .str nm])
      have b1 : (L2.upd H7 t1 (.tup [.str "look", .str nm])) t1 = _ := upd_same
      generalize L2.upd H7 t1 (.tup [.str "look", .str nm]) = G1 at a1 b1
      refine ⟨_, rfl, by show 2 ≤ sizeLine; decide, fun t2 n2 => ?_⟩
      have a2 := same_upd n2 (o := .tup [.str "drop", .str nm])
      have b2 : (L2.upd G1 t2 (.tup [.str "drop", .str nm])) t2 = _ := upd_same
      generalize L2.upd G1 t2 (.tup [.str "drop", .str nm]) = G2 at a2 b2
      refine ⟨by show 2 ≤ sizeLine; decide, fun t3 n3 => ?_⟩
      have a3 := same_upd n3 (o := .lst [.ref t1, .ref t2])
      have b3 : (L2.upd G2 t3 (.lst [.ref t1, .ref t2])) t3 = _ := upd_same
      generalize L2.upd G2 t3 (.lst [.ref t1, .ref t2]) = G3 at a3 b3
      have al := (a1.trans a2).trans a3
      have s8 := s7.same al
      have n3a : t3 ≠ a ∧ t3 ≠ c0 := s7.ne ((a1.trans a2).free n3)
      refine ⟨_, rfl, a, c0, 4, rfl, s8, by decide, by decide, fun u H9 u0 u1 e9 s9 => ⟨_, _, rfl, rfl, ⟨by decide, by decide⟩, ?_⟩⟩
      have m9 := (m7.trans (.same al)).trans (Mv.take s8 s9 e9)
      have mv := Mv.take s8 s9 e9
      have h1 := mv.keep t1 _ (s7.ne n1).1 (s7.ne n1).2 (a3 _ _ (a2 _ _ b1))
      have h2 := mv.keep t2 _ (s7.ne (a1.free n2)).1 (s7.ne (a1.free n2)).2 (a3 _ _ b2)
      have h3 := mv.keep t3 _ n3a.1 n3a.2 b3
      obtain ⟨j, rfl, hj⟩ := nat_of u0 u1
      have hj4 : j < 4 := by omega
      by_cases j3 : j = 3
      · subst j3
        exact ⟨t3, _, _, .ref t2, rfl, rfl, SqL.of h3, rfl, q (.drop nm) t2 H9 h2 (fun _ _ _ e => nomatch e) (fun _ _ _ e => nomatch e) (ks_all (l := [.inr "drop", .inr nm]) ⟨ks_lit (by decide +kernel), hnm, trivial⟩) s9 m9⟩
      · have z : ((j : Nat) : Int) / 3 = 0 := by omega
        refine ⟨t3, _, _, .ref t1, rfl, rfl, SqL.of h3, by rw [z]; rfl, q (.look nm) t1 H9 h1 (fun _ _ _ e => nomatch e) (fun _ _ _ e => nomatch e) (ks_all (l := [.inr "look", .inr nm]) ⟨ks_lit (by decide +kernel), hnm, trivial⟩) s9 m9⟩
    refine ⟨_, rfl, rfl, _, rfl, ite2 (fun _ => ?_) (fun _ => ?_)⟩
    · -- get
      refine ⟨_, rfl, _, rfl, a, c0, M, rfl, s7, mo7, adr, lB, fun x H8 hx s8 m8 => ?_⟩
      refine ⟨_, rfl, a, c0, 9, rfl, s8, by decide, by decide, fun v H9 v0 v1 e9 s9 => ?_⟩
      have m9 := (m7.trans m8).trans (Mv.take s8 s9 e9)
      refine ⟨_, rfl, a, c0, 9, rfl, s9, by decide, by decide, fun y H10 y0 y1 e10 s10 => ⟨_, _, rfl, rfl, by show 4 ≤ sizeLine; decide, fun t nt => ?_⟩⟩
      have m10 := m9.trans (Mv.take s9 s10 e10)
      exact q (.get x v (1 + y)) t _ upd_same (fun _ _ _ e => nomatch e) (fun _ _ _ e => nomatch e) (ks_all (l := [.inr "get", .inr x, .inl v, .inl (1 + y)]) ⟨ks_lit (by decide +kernel), ks_addr hx, ks_int (by omega), ks_int (by omega), trivial⟩) (s10.same (same_upd nt)) (m10.trans (.same (same_upd nt)))
    refine ⟨_, rfl, by show 2 ≤ sizeLine; decide, fun t1 n1 => ?_⟩
    have a1 := same_upd n1 (o := .tup [.str "start", .int cl])
    have b1 : (L2.upd H7 t1 (.tup [.str "start", .int cl])) t1 = _ := upd_same
    generalize L2.upd H7 t1 (.tup [.str "start", .int cl]) = G1 at a1 b1
    refine ⟨_, rfl, by show 2 ≤ sizeLine; decide, fun t2 n2 => ?_⟩
    have a2 := same_upd n2 (o := .tup [.str "close", .int cl])
    have b2 : (L2.upd G1 t2 (.tup [.str "close", .int cl])) t2 = _ := upd_same
    generalize L2.upd G1 t2 (.tup [.str "close", .int cl]) = G2 at a2 b2
    refine ⟨by show 2 ≤ sizeLine; decide, fun t3 n3 => ?_⟩
    have a3 := same_upd n3 (o := .lst [.ref t1, .ref t2])
    have b3 : (L2.upd G2 t3 (.lst [.ref t1, .ref t2])) t3 = _ := upd_same
    generalize L2.upd G2 t3 (.lst [.ref t1, .ref t2]) = G3 at a3 b3
    have al := (a1.trans a2).trans a3
    have s8 := s7.same al
    have n3a : t3 ≠ a ∧ t3 ≠ c0 := s7.ne ((a1.trans a2).free n3)
    refine ⟨_, rfl, a, c0, 4, rfl, s8, by decide, by decide, fun u H9 u0 u1 e9 s9 => ⟨_, _, rfl, rfl, ⟨by decide, by decide⟩, ?_⟩⟩
    have m9 := (m7.trans (.same al)).trans (Mv.take s8 s9 e9)
    have mv := Mv.take s8 s9 e9
    have h1 := mv.keep t1 _ (s7.ne n1).1 (s7.ne n1).2 (a3 _ _ (a2 _ _ b1))
    have h2 := mv.keep t2 _ (s7.ne (a1.free n2)).1 (s7.ne (a1.free n2)).2 (a3 _ _ b2)
    have h3 := mv.keep t3 _ n3a.1 n3a.2 b3
    obtain ⟨j, rfl, hj⟩ := nat_of u0 u1
    have hj4 : j < 4 := by omega
    by_cases j3 : j = 3
    · subst j3
      exact ⟨t3, _, _, .ref t2, rfl, rfl, SqL.of h3, rfl, q (.close cl) t2 H9 h2 (fun _ _ _ e => nomatch e) (fun _ _ _ e => nomatch e) (ks_all (l := [.inr "close", .inl cl]) ⟨ks_lit (by decide +kernel), hcl, trivial⟩) s9 m9⟩
    · have z : ((j : Nat) : Int) / 3 = 0 := by omega
      refine ⟨t3, _, _, .ref t1, rfl, rfl, SqL.of h3, by rw [z]; rfl, q (.start cl) t1 H9 h1 (fun _ _ _ e => nomatch e) (fun _ _ _ e => nomatch e) (ks_all (l := [.inr "start", .inl cl]) ⟨ks_lit (by decide +kernel), hcl, trivial⟩) s9 m9⟩
end
end LW
namespace LW
open PySem PySem.Spec PyProof.Rows L2 GxR
/-! ### roots are addresses, replies are small -/
def RtA (A : Ab) : Prop := ∀ y, rootA A y → isAddr y = true
theorem wh_addr {A : Ab} (ad : ∀ e ∈ A.B, isAddr e.1 = true) {a : Str} (h : wholeN 3 A.B a = true) : isAddr a = true := by
  cases e : lk A.B a with
  | none => rw [wholeN_none e] at h; cases h
  | some x => exact ad _ (lk_mem e)
theorem iwo_wh {r : Nat} {B : Blbs} {kd a : Str} (h : iwo r B kd a = true) : wholeN r B a = true := by
  unfold iwo at h
  cases e : lk B a with
  | none => rw [e] at h; cases h
  | some x =>
    rw [e] at h
    exact (Bool.and_eq_true_iff.mp h).2
theorem RtA.pin {A A' : Ab} (h : RtA A) {cl : Int} {a : Str} (ha : isAddr a = true) (n : A'.N = A.N) (p : A'.P = A.P) : RtA (pinA A' cl a) := by
  intro y hy
  rcases hy with hy | ⟨e, he, hy⟩
  · exact h y (.inl (by rw [← n]; exact hy))
  · obtain ⟨e0, he0, rfl⟩ := List.mem_map.mp (show e ∈ pinP A'.P cl a from he)
    rw [p] at he0
    by_cases z : (e0.1 : Int) = cl
    · rw [if_pos z] at hy
      rcases kadd_mem.mp hy with hy | hy
      · exact h y (.inr ⟨e0, he0, hy⟩)
      · rw [hy]; exact ha
    · rw [if_neg z] at hy
      exact h y (.inr ⟨e0, he0, hy⟩)
theorem RtA.sub {A A' : Ab} (h : RtA A) (n : ∀ e ∈ A'.N, e ∈ A.N) (p : ∀ e ∈ A'.P, e ∈ A.P) : RtA A' := fun y hy => h y (hy.imp (fun ⟨e, he, q⟩ => ⟨e, n e he, q⟩) fun ⟨e, he, q⟩ => ⟨e, p e he, q⟩)
theorem mem_setN {N : List (Str × Str)} {nm a : Str} {e : Str × Str} (h : e ∈ setN N nm a) : e ∈ N ∨ e.2 = a := by
  unfold setN at h
  split at h
  · obtain ⟨e0, he0, rfl⟩ := List.mem_map.mp h
    split
    · exact .inr rfl
    · exact .inl he0
  · rcases List.mem_append.mp h with h | h
    · exact .inl h
    · rw [List.mem_singleton.mp h]; exact .inr rfl
theorem RtA.ans {A : Ab} (h : RtA A) (ad : ∀ e ∈ A.B, isAddr e.1 = true) (rq : Rq) : RtA (ansA A rq).1 := by
  have id_ : RtA A := h
  have u : ∀ {q : Rq} {cl : Int}, q.cl = some cl → RtA (underA A q).1 → RtA (ansA A q).1 := fun {q cl} e k => by
    unfold ansA
    rw [e]
    dsimp only
    split
    · exact k
    · exact h
  cases rq with
  | has cl a =>
    refine u rfl ?_
    unfold underA
    dsimp only
    split
    · rename_i w; exact h.pin (wh_addr ad w) rfl rfl
    · exact h
  | start cl => exact u rfl (h.sub (fun _ z => z) fun _ z => z)
  | fin uu cl a =>
    refine u rfl ?_
    unfold underA
    dsimp only
    unfold finA
    split
    · split
      · rename_i w; exact h.pin (wh_addr ad w) rfl rfl
      · exact h
    · split
      · rename_i w; exact h.pin (by rw [← w]; exact isAddr_hexS _) rfl rfl
      · exact h.sub (fun _ z => z) fun _ z => z
  | put cl b t =>
    refine u rfl ?_
    unfold underA
    dsimp only
    unfold putA
    split
    · exact h
    · split
      · exact h
      · exact h.pin (isAddr_hexS _) rfl rfl
  | name cl nm a =>
    refine u rfl ?_
    unfold underA
    dsimp only
    unfold nameA
    split
    · rename_i w
      have ha : isAddr a = true := by
        rcases Bool.or_eq_true_iff.mp w with w | w
        · exact wh_addr ad (iwo_wh w)
        · exact wh_addr ad (iwo_wh w)
      have k : RtA (pinA A cl a) := h.pin ha rfl rfl
      intro y hy
      rcases hy with ⟨e, he, hy⟩ | hy
      · rcases mem_setN (show e ∈ setN A.N nm a from he) with z | z
        · exact h y (.inl ⟨e, z, hy⟩)
        · rw [← hy, z]; exact ha
      · exact k y (.inr hy)
    · exact h
  | opn =>
    intro y hy
    rcases hy with hy | ⟨e, he, hy⟩
    · exact h y (.inl hy)
    · rcases List.mem_append.mp (show e ∈ A.P ++ [(A.n + 1, [])] from he) with z | z
      · exact h y (.inr ⟨e, z, hy⟩)
      · rw [List.mem_singleton.mp z] at hy; cases hy
  | part uu at_ t =>
    show RtA (partA A uu at_ t).1
    unfold partA
    split
    · exact h
    · split
      · exact h.sub (fun _ z => z) fun _ z => z
      · exact h
  | close cl => exact h.sub (fun _ z => z) fun _ z => (List.mem_filter.mp z).1
  | drop nm => exact h.sub (fun _ z => (List.mem_filter.mp z).1) fun _ z => z
  | look nm => exact h
  | get a at_ cnt => exact h
theorem ks_nat {n : Nat} (h : n ≤ 100000) : KS (.inl (n : Int)) := ks_int (by omega)
theorem cut_chars {x : Str} {lo hi : Option Int} (h : Asc x) : Asc (cutS x lo hi) ∧ (cutS x lo hi).length ≤ x.length := by
  have e : TL.tl (cutS x lo hi) = (x.cps.toList.drop (HT.sIx x.length 0 lo)).take (HT.sIx x.length x.length hi - HT.sIx x.length 0 lo) := by
    unfold cutS TL.tl
    simp
  refine ⟨fun c hc => ?_, ?_⟩
  · have hc : c ∈ TL.tl (cutS x lo hi) := hc
    rw [e] at hc
    exact h c (List.mem_of_mem_drop (List.mem_of_mem_take hc))
  · rw [TL.len_tl, e, List.length_take, List.length_drop, TL.len_tl x]
    show min _ ((TL.tl x).length - _) ≤ _
    omega
theorem lkN_mem {N : List (Str × Str)} {nm x : Str} (h : lkN N nm = some x) : ∃ e ∈ N, e.2 = x := by
  induction N with
  | nil => cases h
  | cons e r ih =>
    obtain ⟨b, y⟩ := e
    unfold lkN at h
    split at h
    · cases h; exact ⟨_, List.mem_cons_self, rfl⟩
    · obtain ⟨e, he, q⟩ := ih h
      exact ⟨e, List.mem_cons_of_mem _ he, q⟩
def w0 : List Str := ["lapsed", "kept", "lacks", "upload", "gone", "wrong", "malformed", "named", "claim", "have", "closed", "leads", "nothing", "piece", "dropped"]
theorem ks_w {x : Str} (h : x ∈ w0) : KS (.inr x) := by
  have key : (w0.all fun x => x.cps.toList.all (fun c => decide (c < 1000)) && decide (x.length ≤ 5000)) = true := by decide +kernel
  exact ks_lit (List.all_eq_true.mp key x h)
theorem ks_h (n : Nat) : KS (.inr (hexS n)) := ks_addr (isAddr_hexS n)
theorem ans_ks {A : Ab} {M : M6} {i : Nat} (e : E6 i A M) (hi : i ≤ 400) (rt : RtA A) {rq : Rq} (h : ∀ k ∈ rq.told, KS k) (tok : ∀ c b t, rq = .put c b t → TxOk b t) (pok : ∀ u p t, rq = .part u p t → (∀ z ∈ t.cps.toList, z ∈ drawn) ∧ t.length ≤ 3) : ∀ k ∈ (ansA A rq).2, KS k := by
  have W : ∀ {x : Str}, decide (x ∈ w0) = true → KS (.inr x) := fun {x} h => ks_w (of_decide_eq_true h)
  have one : ∀ {a : Key}, KS a → ∀ k ∈ [a], KS k := fun ha => ks_all (l := [_]) ⟨ha, trivial⟩
  have two : ∀ {a b : Key}, KS a → KS b → ∀ k ∈ [a, b], KS k := fun ha hb => ks_all (l := [_, _]) ⟨ha, hb, trivial⟩
  have thr : ∀ {a b c : Key}, KS a → KS b → KS c → ∀ k ∈ [a, b, c], KS k := fun ha hb hc => ks_all (l := [_, _, _]) ⟨ha, hb, hc, trivial⟩
  have u : ∀ {q : Rq} {cl : Int}, q.cl = some cl → KS (.inl cl) → (∀ k ∈ (underA A q).2, KS k) → ∀ k ∈ (ansA A q).2, KS k := fun {q cl} e hc k => by
    unfold ansA
    rw [e]
    dsimp only
    split
    · exact k
    · exact two (W (by decide +kernel)) hc
  have hn : KS (.inl ((A.n + 1 : Nat) : Int)) := ks_nat (by have := e.cn; omega)
  have hm : KS (.inl ((A.m + 1 : Nat) : Int)) := ks_nat (by have := e.cm; omega)
  cases rq with
  | has cl a =>
    have h1 : KS (.inl cl) := h _ (List.mem_cons_of_mem _ List.mem_cons_self)
    have h2 : KS (.inr a) := h _ (List.mem_cons_of_mem _ (List.mem_cons_of_mem _ List.mem_cons_self))
    refine u rfl h1 ?_
    unfold underA
    dsimp only
    split
    · exact two (W (by decide +kernel)) h2
    · exact two (W (by decide +kernel)) h2
  | start cl => exact u rfl (h _ (List.mem_cons_of_mem _ List.mem_cons_self)) (two (W (by decide +kernel)) hm)
  | fin uu cl a =>
    have h0 : KS (.inl uu) := h _ (List.mem_cons_of_mem _ List.mem_cons_self)
    have h1 : KS (.inl cl) := h _ (List.mem_cons_of_mem _ (List.mem_cons_of_mem _ List.mem_cons_self))
    have h2 : KS (.inr a) := h _ (List.mem_cons_of_mem _ (List.mem_cons_of_mem _ (List.mem_cons_of_mem _ (List.mem_cons_of_mem _ List.mem_cons_self))))
    refine u rfl h1 ?_
    unfold underA
    dsimp only
    unfold finA
    split
    · split
      · exact two (W (by decide +kernel)) h2
      · exact two (W (by decide +kernel)) h0
    · split
      · exact two (W (by decide +kernel)) h2
      · exact two (W (by decide +kernel)) h2
  | put cl b t =>
    refine u rfl (h _ List.mem_cons_self) ?_
    have tk := tok _ _ _ rfl
    unfold underA
    dsimp only
    unfold putA
    split
    · exact one (W (by decide +kernel))
    · rename_i nf
      have g := (tk.2.1 (Classical.not_not.mp nf)).1
      split
      · rename_i z ez
        exact two (W (by decide +kernel)) (ks_addr ((refs_addr g).1 z (List.mem_of_find?_eq_some ez)))
      · exact two (W (by decide +kernel)) (ks_h _)
  | name cl nm a =>
    have h1 : KS (.inl cl) := h _ (List.mem_cons_of_mem _ List.mem_cons_self)
    have h2 : KS (.inr nm) := h _ (List.mem_cons_of_mem _ (List.mem_cons_of_mem _ List.mem_cons_self))
    have h3 : KS (.inr a) := h _ (List.mem_cons_of_mem _ (List.mem_cons_of_mem _ (List.mem_cons_of_mem _ List.mem_cons_self)))
    refine u rfl h1 ?_
    unfold underA
    dsimp only
    unfold nameA
    split
    · exact thr (W (by decide +kernel)) h2 h3
    · exact two (W (by decide +kernel)) h3
  | opn => exact two (W (by decide +kernel)) hn
  | part uu at_ t =>
    have h0 : KS (.inl uu) := h _ List.mem_cons_self
    show ∀ k ∈ (partA A uu at_ t).2, KS k
    unfold partA
    have lz : ∀ z, lkU A.U uu = some z → z.length ≤ 1200 := fun z ez => by
      obtain ⟨e0, he0, _, e1⟩ := lkU_mem ez
      have := (e.dr e0 he0).2
      rw [e1] at this; omega
    split
    · exact two (W (by decide +kernel)) h0
    · rename_i z ez
      have := lz z ez
      split
      · refine thr (W (by decide +kernel)) h0 (ks_nat ?_)
        rw [app_len]
        have := (pok _ _ _ rfl).2
        omega
      · exact thr (W (by decide +kernel)) h0 (ks_nat (by omega))
  | close cl => exact two (W (by decide +kernel)) (h _ (List.mem_cons_of_mem _ List.mem_cons_self))
  | drop nm => exact two (W (by decide +kernel)) (h _ (List.mem_cons_of_mem _ List.mem_cons_self))
  | look nm =>
    have h0 : KS (.inr nm) := h _ (List.mem_cons_of_mem _ List.mem_cons_self)
    unfold ansA
    dsimp only [Rq.cl]
    split
    · rename_i x ex
      exact thr (W (by decide +kernel)) h0 (ks_addr (rt x (.inl (lkN_mem ex))))
    · exact two (W (by decide +kernel)) h0
  | get a at_ cnt =>
    have h0 : KS (.inr a) := h _ (List.mem_cons_of_mem _ List.mem_cons_self)
    have h1 : KS (.inl at_) := h _ (List.mem_cons_of_mem _ (List.mem_cons_of_mem _ List.mem_cons_self))
    unfold ansA
    dsimp only [Rq.cl]
    split
    · rename_i x ex
      have g := e.good _ (lk_mem ex)
      have cc := cut_chars (lo := some at_) (hi := some (at_ + cnt)) g.2.1
      have l5 : x.2.length ≤ 5000 := g.1
      have c2 : (cutS x.2 (some at_) (some (at_ + cnt))).length ≤ x.2.length := cc.2
      have hk : KS (.inr x.1) := by
        rcases g.2.2 with z | ⟨z, _⟩ | ⟨z, _⟩
        · rw [z]; exact ks_lit (by decide +kernel)
        · rw [z]; exact ks_lit (by decide +kernel)
        · rw [z]; exact ks_lit (by decide +kernel)
      exact ks_all (l := [_, _, _, _, _, _]) ⟨W (by decide +kernel), h0, hk, h1, ⟨cc.1, by omega⟩, ks_nat (by omega), trivial⟩
    · exact two (W (by decide +kernel)) h0
theorem ks_ok {k : Key} (h : KS k) : kOk k := by
  cases k with
  | inl i => trivial
  | inr x => exact Asc.ok h.1
/-! ### what the registry wants -/
theorem E6.abOk {i : Nat} {A : Ab} {M : M6} (e : E6 i A M) (hi : i ≤ 400) : AbOk A :=
  ⟨fun x hx => by have := e.lp x hx; omega, by have := e.nB; omega, by have := e.nN; omega, by have := e.nP; omega, by have := e.nU; omega⟩
theorem E6.rqOk {i : Nat} {A : Ab} {M : M6} (e : E6 i A M) (hi : i ≤ 400) {rq : Rq} (tok : ∀ c b t, rq = .put c b t → TxOk b t) (pok : ∀ u p t, rq = .part u p t → (∀ z ∈ t.cps.toList, z ∈ drawn) ∧ t.length ≤ 3) : RqOk A rq := by
  have sh : ∀ {B : Blbs} {U : List (Nat × Str)} {a : Str}, ShOk { A with B := B, U := U } a := fun z => absurd e.ph z
  have lz : ∀ {u : Int} {z : Str}, lkU A.U u = some z → (∀ c ∈ z.cps.toList, c ∈ drawn) ∧ z.length ≤ 1200 := fun {u z} ez => by
    obtain ⟨e0, he0, _, e1⟩ := lkU_mem ez
    have := e.dr e0 he0
    rw [e1] at this
    exact ⟨this.1, by omega⟩
  cases rq with
  | has cl a => exact fun _ _ z => absurd e.ph z
  | start cl => exact fun _ => trivial
  | fin uu cl a =>
    refine fun _ => ⟨fun _ _ z => absurd e.ph z, fun t et => ⟨⟨?_, ?_, .inl rfl⟩, fun _ => sh⟩⟩
    · show t.length ≤ 5000
      have := (lz et).2; omega
    · have key : ∀ z ∈ drawn, z < 1000 := by decide
      exact fun c hc => key c ((lz et).1 c hc)
  | put cl b t =>
    have tk := tok _ _ _ rfl
    exact fun _ => ⟨tk.1, fun f => (tk.2.1 f).1, fun _ _ z => absurd e.ph z⟩
  | name cl nm a => exact fun _ _ z => absurd e.ph z
  | part uu at_ t =>
    intro z ez
    have := (lz ez).2
    have := (pok _ _ _ rfl).2
    rw [sizeLine_eq]; omega
  | opn => trivial
  | close cl => trivial
  | drop nm => trivial
  | look nm => trivial
  | get a at_ cnt => trivial
end LW
namespace LW
open PySem PySem.Spec PyProof.Rows L2 GxR
theorem sum_pin {cl : Int} {ad : Str} : ∀ {P : List (Nat × List Str)}, (P.map (·.1)).Nodup → sumP (pinP P cl ad) ≤ sumP P + 1
  | [], _ => Nat.zero_le _
  | e :: r, nd => by
    obtain ⟨n1, n2⟩ := List.nodup_cons.mp nd
    unfold sumP pinP
    rw [List.map_cons, List.map_cons, List.map_cons, List.sum_cons, List.sum_cons]
    by_cases w : (e.1 : Int) = cl
    · have same : ∀ x ∈ r, (if (x.1 : Int) = cl then (x.1, kadd x.2 ad) else x) = x := fun x hx => if_neg fun z => n1 (List.mem_map.mpr ⟨x, hx, by show x.1 = e.1; omega⟩)
      rw [List.map_congr_left same, if_pos w]
      show (kadd e.2 ad).length + _ ≤ _
      have := kadd_len e.2 ad
      rw [List.map_id']
      omega
    · have ih := sum_pin (cl := cl) (ad := ad) n2
      unfold sumP pinP at ih
      rw [if_neg w]
      omega
theorem sum_app (P : List (Nat × List Str)) (n : Nat) : sumP (P ++ [(n, [])]) = sumP P := by
  unfold sumP
  rw [List.map_append, List.sum_append]
  rfl
theorem sum_flt (f : Nat × List Str → Bool) : ∀ P : List (Nat × List Str), sumP (P.filter f) ≤ sumP P
  | [] => Nat.le_refl _
  | e :: r => by
    have ih := sum_flt f r
    unfold sumP at ih ⊢
    rw [List.filter_cons]
    split
    · rw [List.map_cons, List.map_cons, List.sum_cons, List.sum_cons]; omega
    · rw [List.map_cons, List.sum_cons]; omega
theorem sum_ans {A : Ab} (nd : (A.P.map (·.1)).Nodup) (rq : Rq) : sumP (ansA A rq).1.P ≤ sumP A.P + 1 := by
  have u : ∀ {q : Rq} {cl : Int}, q.cl = some cl → sumP (underA A q).1.P ≤ sumP A.P + 1 → sumP (ansA A q).1.P ≤ sumP A.P + 1 := fun {q cl} e k => by
    unfold ansA
    rw [e]
    dsimp only
    split
    · exact k
    · exact Nat.le_succ _
  have pn : ∀ {A' : Ab} {cl : Int} {a : Str}, A'.P = A.P → sumP (pinA A' cl a).P ≤ sumP A.P + 1 := fun {A' cl a} e => by
    show sumP (pinP A'.P cl a) ≤ _
    rw [e]; exact sum_pin nd
  cases rq with
  | has cl a =>
    refine u rfl ?_
    unfold underA
    dsimp only
    split
    · exact pn rfl
    · exact Nat.le_succ _
  | start cl => exact u rfl (Nat.le_succ _)
  | fin uu cl a =>
    refine u rfl ?_
    unfold underA
    dsimp only
    unfold finA
    split
    · split
      · exact pn rfl
      · exact Nat.le_succ _
    · split
      · exact pn rfl
      · exact Nat.le_succ _
  | put cl b t =>
    refine u rfl ?_
    unfold underA
    dsimp only
    unfold putA
    split
    · exact Nat.le_succ _
    · split
      · exact Nat.le_succ _
      · exact pn rfl
  | name cl nm a =>
    refine u rfl ?_
    unfold underA
    dsimp only
    unfold nameA
    split
    · exact pn (A' := A) rfl
    · exact Nat.le_succ _
  | opn =>
    show sumP (A.P ++ [(A.n + 1, [])]) ≤ _
    rw [sum_app]; exact Nat.le_succ _
  | part uu at_ t =>
    show sumP (partA A uu at_ t).1.P ≤ _
    unfold partA
    split
    · exact Nat.le_succ _
    · split
      · exact Nat.le_succ _
      · exact Nat.le_succ _
  | close cl => exact Nat.le_succ_of_le (sum_flt _ _)
  | drop nm => exact Nat.le_succ _
  | look nm => exact Nat.le_succ _
  | get a at_ cnt => exact Nat.le_succ _
theorem ans_len (A : Ab) (rq : Rq) : (ansA A rq).2.length ≤ 6 := by
  have u : ∀ {q : Rq} {cl : Int}, q.cl = some cl → (underA A q).2.length ≤ 6 → (ansA A q).2.length ≤ 6 := fun {q cl} e k => by
    unfold ansA
    rw [e]
    dsimp only
    split
    · exact k
    · show 2 ≤ 6; decide
  cases rq with
  | has cl a => exact u rfl (by unfold underA; dsimp only; split <;> (show 2 ≤ 6; decide))
  | start cl => exact u rfl (by show 2 ≤ 6; decide)
  | fin uu cl a => exact u rfl (by unfold underA; dsimp only; unfold finA; split <;> (split <;> (show 2 ≤ 6; decide)))
  | put cl b t =>
    refine u rfl ?_
    unfold underA
    dsimp only
    unfold putA
    split
    · show 1 ≤ 6; decide
    · split <;> (show 2 ≤ 6; decide)
  | name cl nm a =>
    refine u rfl ?_
    unfold underA
    dsimp only
    unfold nameA
    split
    · show 3 ≤ 6; decide
    · show 2 ≤ 6; decide
  | opn => show 2 ≤ 6; decide
  | part uu at_ t =>
    show (partA A uu at_ t).2.length ≤ _
    unfold partA
    split
    · show 2 ≤ 6; decide
    · split <;> (show 3 ≤ 6; decide)
  | close cl => show 2 ≤ 6; decide
  | drop nm => show 2 ≤ 6; decide
  | look nm =>
    unfold ansA
    dsimp only [Rq.cl]
    split
    · show 3 ≤ 6; decide
    · show 2 ≤ 6; decide
  | get a at_ cnt =>
    unfold ansA
    dsimp only [Rq.cl]
    split
    · show 6 ≤ 6; decide
    · show 2 ≤ 6; decide
theorem shaped_keys {ks : List Key} (h : ∀ k ∈ ks, KS k) : SeqAt.shaped (.tuple (ks.map kD)) = true := by
  have l := lay_keys ks fun k hk => ks_ok (h k hk)
  exact shaped_of (lay_tup (n := 0) ⟨l.1, by rw [l.2]; exact Nat.le_refl _⟩) (by decide)
theorem same_keys {ks : List Key} (h : ∀ k ∈ ks, KS k) : PyData.eqv (.tuple (ks.map kD)) (.tuple (ks.map kD)) = true :=
  SeqAt.eqv_refl _ (lay_tup (n := 0) ⟨(lay_keys ks fun k hk => ks_ok (h k hk)).1, by rw [(lay_keys ks fun k hk => ks_ok (h k hk)).2]; exact Nat.le_refl _⟩).1
theorem nm_same {N : List (Str × Str)} (nd : (N.map (·.1)).Nodup) : ∀ p ∈ nmK N, valV (nmK N) p.1 = some p.2 ∧ flatB p.2 = true := fun p hp => by
  obtain ⟨j, hj, e⟩ := List.getElem_of_mem hp
  refine ⟨val_at (nmK_keys _ nd) (i := j) (by rw [List.getElem?_eq_getElem hj, e]), ?_⟩
  obtain ⟨q, _, rfl⟩ := List.mem_map.mp hp
  rfl
end LW
namespace LW
open PySem PySem.Spec PyProof.Rows L2 GxR
abbrev s_law : Stmt := topS 56
abbrev N_law : List Str := ["script", "state", "registry", "model", "turn", "kind", "claim", "request", "due", "told"]
abbrev P_law : List Str := ["script"]
theorem sc_law : FnScope N_law P_law (defScope s_law) := ⟨rfl, rfl, rfl, by decide +kernel, rfl, by decide +kernel, by decide +kernel⟩
structure LawC6 (P : Program) (w : World) (K : PySem.W.Frag) (mg : Str → Option Value) (base : Heap) (c : CA) : Prop where
  tup : mg "tuple" = none
  num : CalM P w K mg base CX0 1 c.K "numbers" P_Claims_numbers (sp_Claims_numbers c.K)
  reg : CalK P w K mg base CX0 3 "Registry" c.G P_Registry___init (sp_Registry___init c)
  ans : CalM P w K mg base CX0 35 c.G "answer" P_Registry_answer (sp_Registry_answer c)
  fal : CalM P w K mg base CX0 2 c.G "fall" P_Registry_fall (sp_Registry_fall c)
  lap : CalM P w K mg base CX0 2 c.G "lapse" P_Registry_lapse (sp_Registry_lapse c)
  roo : CalM P w K mg base CX0 2 c.G "roots" P_Registry_roots (sp_Registry_roots c)
  adr : CalM P w K mg base CX0 1 c.U "addresses" P_Store_addresses (sp_Store_addresses c.U)
  lan : Cal P w K mg base CX0 11 "_law_answer" P_law_answer sp_answer6
  req : Cal P w K mg base CX0 5 "_law_request" P_law_request sp_request6
  lro : Cal P w K mg base CX0 2 "_law_roots" P_law_roots sp_roots6
  sta : Cal P w K mg base CX0 1 "_law_state" P_law_state (spState K)
  tak : Cal P w K mg base CX0 1 "_law_take" P_law_take spTake
  wou : Cal P w K mg base CX0 1 "_law_without" P_law_without sp_without6
/-- between two turns -/
structure LW6 (c : CA) (a c0 r : Addr) (R : Rg) (M : M6) (H : Hp) : Prop where
  sl : SL H a c0
  ri : RI c r R H
  mo : MO M H
  dj : ∀ z, RF r R z → z ≠ a ∧ z ≠ c0
  dm : ∀ z, RF r R z → ¬ FM M z
  dl : ∀ e ∈ M.L, ¬ RF r R e.li
section
variable {c : CA} {a c0 r : Addr} {R R' : Rg} {M M' : M6} {H H' : Hp}
theorem LW6.mv (h : LW6 c a c0 r R M H) (m : Mv a c0 H H') (s : SL H' a c0) : LW6 c a c0 r R M H' := by
  have g := GrS.mv h.sl m
  refine ⟨s, h.ri.move g (fun z hz e => e.elim (h.dj z hz).1 (h.dj z hz).2) (fun b xs e z => ?_), h.mo.mv h.sl m, h.dj, h.dm, h.dl⟩
  obtain ⟨n, cs, e1, e2, _⟩ := h.sl
  rcases z with z | z
  · rw [z, e1] at e; cases e
  · rw [z, e2] at e; cases e
theorem LW6.same (h : LW6 c a c0 r R M H) (s : Same H H') : LW6 c a c0 r R M H' := h.mv (.same s) (h.sl.same s)
theorem LW6.st (h : LW6 c a c0 r R M H) (S : RStep c r R R' H H') : LW6 c a c0 r R' M H' := by
  obtain ⟨n, cs, h1, h2, rr⟩ := id h.sl
  refine ⟨⟨n, cs, S.gr.keep a _ (fun z => (h.dj a z).1 rfl) h1 (fun _ z => nomatch z), S.gr.keep c0 _ (fun z => (h.dj c0 z).2 rfl) h2 (fun _ z => nomatch z), rr⟩, S.ri, h.mo.move S.gr (fun z hz w => h.dm z w hz) h.dl (fun b xs e w => ?_), fun z w => ?_, fun z w q => ?_, fun e he w => ?_⟩
  · obtain ⟨v, ev, _, nt⟩ := h.ri.got b w
    rw [ev] at e; cases e
    exact nt _ rfl
  · rcases S.fr z w with w | w
    · exact h.dj z w
    · exact h.sl.ne w
  · rcases S.fr z w with w | w
    · exact h.dm z w q
    · exact h.mo.new w q
  · rcases S.fr _ w with w | w
    · exact h.dl e he w
    · rw [h.mo.hl e he] at w; cases w
theorem LW6.ms (h : LW6 c a c0 r R M H) (S : MS M M' H H') : LW6 c a c0 r R M' H' := by
  obtain ⟨n, cs, h1, h2, rr⟩ := id h.sl
  have nf : ∀ {z xs}, H z = some (.lst xs) → ¬ FM M z := fun {z xs} e w => by
    obtain ⟨kv, ek⟩ := h.mo.got z w
    rw [e] at ek; cases ek
  refine ⟨⟨n, cs, S.gr.keep a _ (nf h1) h1 (fun _ z => nomatch z), S.gr.keep c0 _ (nf h2) h2 (fun _ z => nomatch z), rr⟩, h.ri.move S.gr h.dm (fun b xs e w => ?_), S.mo, h.dj, fun z w q => ?_, fun e he w => ?_⟩
  · obtain ⟨kv, ek⟩ := h.mo.got b w
    rw [e] at ek; cases ek
  · rcases S.fr z q with q | q
    · exact h.dm z w q
    · exact h.ri.new q w
  · rcases S.fl e he with ⟨e0, h0, q⟩ | q
    · exact h.dl e0 h0 (q ▸ w)
    · exact h.ri.new q w
end
def LI6 (c : CA) (a c0 r md : Addr) (x0 : Option V) (i : Nat) (σ : L2.St) (H : Hp) : Prop := ∃ (R : Rg) (M : M6) (x4 x5 x6 x7 x8 x9 : Option V), M.md = md ∧ LW6 c a c0 r R M H ∧ E6 (2 * i) R.ab M ∧ RtA R.ab ∧ sumP R.ab.P ≤ i ∧ σ = [x0, some (.ref a), some (.ref r), some (.ref md), x4, x5, x6, x7, x8, x9]
section
variable {P : Program} {w : World} {K : PySem.W.Frag} {mg : Str → Option Value} {base : Heap} {cM cR : Addr} {c : CA} {outer : List Env} {s : Shared} {H : Hp} {Q : VK} {E : XK} {f : Addr} {cdv : Value}
theorem law3 (T : Tx K mg cM cR c.U) (TC : Tc K mg c.C) (TK : Tk K mg c.K c.L) (TG : Tg K w mg c.G) (C : LawC6 P w K mg base c) (hr : Room 37 (callerA.deeper (envOfC "law" (defScope s_law) s.heap.objs.size f cdv))) (hq : ∀ H', Q (.bl true) H') :
    ∃ t, PSs (cxOf CX0 P w K mg base N_law "law" (defScope s_law) f cdv callerA outer s H E).nox ((defBody s_law).drop 3) t ∧
      ∀ (a c0 r md : Addr) (x0 : Option V) (σ : L2.St) (H0 : Hp), LI6 c a c0 r md x0 0 σ H0 → t { nx := fun _ H' => Q .non H', rt := Q } σ H0 := by
  have nd := sc_law.nd
  have hu := hu_of hr
  have hu66 : (callerA.deeper (envOfC "law" (defScope s_law) s.heap.objs.size f cdv)).units + 66 < cLine := by have := hr.un; omega
  refine ⟨_, (pss_cons (ps_for PassesOwn.never rfl (pi_range1 (by rfl) T.range (pa_cons (pe_cal C.tak hr (pa_cons (pv 1) (pa_cons pe_int pa_nil))) pa_nil)) (pg_name (i := 4) nd rfl (Or.inl rfl))
      (pss_cons (ps_set (i := 5) nd rfl (Or.inl rfl) (pe_cal C.tak hr (pa_cons (pv 1) (pa_cons pe_int pa_nil))))
    (C8.pss_cut (ps_if (pt_cmpR op_eq (pv 5) pe_int (nomark _))
      (pss_cons (ps_expr (pe_calM0 (pv 2) C.fal hr))
    (pss_one (ps_dput hu (pv 3) pe_str pe_dnewK rfl)))
      (pss_one (ps_if (pt_cmpR op_eq (pv 5) pe_int (nomark _))
      (pss_cons (ps_set (i := 6) nd rfl (Or.inl rfl) (pe_op op_add pe_int (pe_cal C.tak hr (pa_cons (pv 1) (pa_cons (pe_op op_add (pe_dget hu (pv 3) pe_str (fun _ _ => rfl)) pe_int) pa_nil)))))
    (pss_cons (ps_expr (pe_calM (pv 2) C.lap hr (pa_cons (pv 6) pa_nil)))
    (pss_one (ps_dput hu (pv 3) pe_str (pe_cal C.wou hr (pa_cons (pe_dget hu (pv 3) pe_str (fun _ _ => rfl)) (pa_cons (pv 6) pa_nil))) rfl))))
      (pss_cons (ps_set (i := 7) nd rfl (Or.inl rfl) (pe_cal C.req hr (pa_cons (pv 1) (pa_cons (pv 3) pa_nil))))
    (pss_cons (ps_set (i := 8) nd rfl (Or.inl rfl) (pe_cal C.lan hr (pa_cons (pv 3) (pa_cons (pv 7) pa_nil))))
    (pss_cons (ps_set (i := 9) nd rfl (Or.inl rfl) (pe_calM (pv 2) C.ans hr (pa_cons (pv 7) pa_nil)))
    (pss_one (ps_if (PW.pt (pw_or (pt_not (pt_val (pe_callB call_isi (by rfl) T.isi (by decide +kernel) (pa_cons (pv 9) (pa_cons (pe_bltn (v := .ty "tuple") (by rfl) C.tup (by decide +kernel) rfl) pa_nil))))) (pw_or (pt_cmpR (op_neD hr.units) (pv 9) (pv 8) (nomark _)) (pw_or1 (pt_cmpR op_ne (pe_callB (call_reprD rfl hu66) (by rfl) T.rep (by decide +kernel) (pa_cons (pv 9) pa_nil)) (pe_callB (call_reprD rfl hu66) (by rfl) T.rep (by decide +kernel) (pa_cons (pv 8) pa_nil)) (nomark _))))))
      (pss_one (ps_ret pe_bl))
      (pss_nil)))))))))
    (pss_cons (ps_if (PW.pt (pw_or (pt_cmpR (op_ne_dictA hr.units0) (pe_fld (pv 2) rfl) (pe_dget hu (pv 3) pe_str (fun _ _ => rfl)) (nomark _)) (pw_or1 (pt_cmpR (op_neD hr.units) (pe_calM0 (pv 2) C.roo hr) (pe_cal C.lro hr (pa_cons (pv 3) pa_nil)) (nomark _)))))
      (pss_one (ps_ret pe_bl))
      (pss_nil))
    (pss_one (ps_if (pt_cmpR (op_neD hr.units) (pe_calM0 (pe_fld (pv 2) rfl) C.num hr) (pe_callB (cr_sortedDIL rfl) (by rfl) T.sor (by decide +kernel) (pa_cons (pe_dget hu (pv 3) pe_str (fun _ _ => rfl)) pa_nil)) (nomark _))
      (pss_one (ps_ret pe_bl))
      (pss_nil)))))))
    (pss_one (ps_ret (pe_cmpR (op_eqD hr.units) (pe_calM0 (pe_fld (pv 2) rfl) C.adr hr) (pe_callB (cr_sortedDL rfl) (by rfl) T.sor (by decide +kernel) (pa_cons (pe_dget hu (pv 3) pe_str (fun _ _ => rfl)) pa_nil)) (nomark _))))), ?_⟩
  rintro a c0 r md x0 σ H0 ⟨R, M, x4, x5, x6, x7, x8, x9, rfl, h, e6, rt, sp, rfl⟩
  refine ⟨_, rfl, a, c0, 51, rfl, h.sl, by decide, by decide, fun v H1 v0 v1 e1 s1 => ?_⟩
  obtain ⟨n, rfl, hn⟩ := nat_of v0 v1
  have h := h.mv (Mv.take h.sl s1 e1) s1
  refine ⟨_, rfl, by omega, by omega, ?_⟩
  refine for_it (walk_range (lo := 0) (n := n)) (fun i σ H' => LI6 c a c0 r M.md x0 i σ H') ⟨R, M, _, _, _, _, _, _, rfl, h, e6, rt, sp, rfl⟩ (fun _ _ _ _ _ => True.intro) ?_ ?_
  · generalize M.md = md
    clear s1 e1
    rintro i v σ H3 H4 hi ⟨R, M, x4, x5, x6, x7, x8, x9, rfl, h, e6, rt, sp, rfl⟩ ⟨rfl, rfl⟩
    have hi2 : 2 * i ≤ 100 := by omega
    refine ⟨_, rfl, a, c0, 40, rfl, h.sl, by decide, by decide, fun v H5 v0 v1 e5 s5 => ?_⟩
    have h := h.mv (Mv.take h.sl s5 e5) s5
    obtain ⟨dx, e0⟩ := id h.ri.ob
    refine ⟨LI6 c a c0 r M.md x0 (i + 1), ?_, ?_⟩
    · refine ⟨_, rfl, rfl, _, rfl, ite2 (fun _ => ?_) (fun _ => ?_)⟩
      · -- fall
        refine ⟨_, rfl, r, dx, _, rfl, e0, rfl, r, R, rfl, h.ri, fun R' H6 S a' => ?_⟩
        have h6 := h.st S
        refine fun D nD => ⟨_, rfl, M.md, _, rfl, DPut.k (k := .inr "texts") (h6.mo.same (same_upd nD)).hm (by show 6 < sizeLine; decide), ?_⟩
        have s7 := same_upd nD (o := .dK [])
        have hD : (L2.upd H6 D (.dK [])) D = some (.dK (LW.tx [])) := upd_same
        have h7 := h6.same s7
        generalize L2.upd H6 D (.dK []) = H7 at s7 hD h7
        have S8 := (h7.mo.textsP (h6.mo.new nD) hD nD s7)
        refine ⟨R', { M with tx := D, U := [] }, _, _, _, _, _, _, rfl, ?_, ?_, ?_, ?_, rfl⟩
        · exact h6.ms S8
        · rw [a']; exact { (e6.fall).mono (show 2 * i ≤ 2 * (i + 1) by omega) with }
        · rw [a']; exact rt.sub (fun _ z => z) fun _ z => z
        · rw [a']; exact Nat.le_succ_of_le sp
      refine ⟨_, rfl, rfl, _, rfl, ite2 (fun _ => ?_) (fun _ => ?_)⟩
      · -- lapse
        refine ⟨_, rfl, _, rfl, M.md, _, rfl, h.mo.g5, _, _, rfl, rfl, a, c0, M.n + 1, rfl, h.sl, by omega, by have := e6.c; have := e6.cn; omega, fun u H6 u0 u1 e6' s6 => ⟨_, _, rfl, rfl, ?_⟩⟩
        have h6 := h.mv (Mv.take h.sl s6 e6') s6
        have e06 := (GrS.mv h.sl (Mv.take h.sl s6 e6')).keep r _ (fun z => z.elim (h.dj r (List.mem_append_left _ List.mem_cons_self)).1 (h.dj r (List.mem_append_left _ List.mem_cons_self)).2) e0 (fun _ z => nomatch z)
        refine ⟨_, rfl, r, dx, _, rfl, e06, rfl, _, rfl, r, R, 1 + u, rfl, h6.ri, fun R' H7 S a' => ?_⟩
        have h7 := h6.st S
        refine ⟨_, rfl, M.md, _, rfl, h7.mo.g3, _, rfl, M.pn, outK M.L, .inl (1 + u), rfl, h7.mo.hp, outK_keys _ e6.ndL, ?_, fun p H8 np s8 hp8 => ?_⟩
        · have := congrArg List.length e6.ids
          rw [List.length_map, List.length_map] at this
          rw [outK, List.length_map]
          have := e6.nP; omega
        rw [outK_drop] at hp8
        have h8 := h7.same s8
        refine ⟨_, rfl, M.md, _, rfl, DPut.k (k := .inr "pins") h8.mo.hm (by show 6 < sizeLine; decide), ?_⟩
        have S9 := h8.mo.pinsP (h7.mo.new np) hp8 (fun e he => h8.mo.hl e (List.mem_filter.mp he).1) np s8 (fun e he => .inl ⟨e, (List.mem_filter.mp he).1, rfl⟩)
        refine ⟨R', { M with pn := p, L := dropL M.L (1 + u) }, _, _, _, _, _, _, rfl, h7.ms S9, ?_, ?_, ?_, rfl⟩
        · rw [a']; exact { (e6.closed (1 + u)).mono (show 2 * i ≤ 2 * (i + 1) by omega) with }
        · rw [a']; exact rt.sub (fun _ z => z) fun _ z => (List.mem_filter.mp z).1
        · rw [a']; exact Nat.le_succ_of_le (Nat.le_trans (sum_flt _ _) sp)
      · -- a request
        refine ⟨_, rfl, _, rfl, a, c0, M, R.ab, 2 * i, rfl, h.sl, h.mo, e6, by omega, fun rq qa H6 hqa tok pok told s6 m6 => ?_⟩
        have h6 := h.mv m6 s6
        refine ⟨_, rfl, _, rfl, M, R.ab, 2 * i, qa, rq, rfl, h6.mo, e6, by omega, hqa, tok, pok, fun M' v H7 S7 e' rp => ?_⟩
        have h7 := h6.ms S7
        have hq7 : H7 qa = _ := S7.gr.keep qa _ (fun z => by obtain ⟨kv, ek⟩ := h6.mo.got qa z; rw [hqa] at ek; cases ek) hqa (fun _ z => nomatch z)
        obtain ⟨dx7, e07⟩ := id h7.ri.ob
        refine ⟨_, rfl, r, dx7, _, rfl, e07, rfl, _, rfl, r, R, qa, rq, rfl, h7.ri, e6.abOk (by omega), e6.rqOk (by omega) tok pok, hq7, fun R' v' H8 S8 a' rp' => ?_⟩
        have h8 := h7.st S8
        have ks := ans_ks e6 (by omega) rt told tok pok
        obtain ⟨p1, rfl, ep1⟩ := rp
        obtain ⟨p2, rfl, ep2⟩ := rp'
        have ep1 : H8 p1 = _ := S8.gr.keep p1 _ (fun z => by obtain ⟨v, ev, _, nt⟩ := h7.ri.got p1 z; rw [ep1] at ev; cases ev; exact nt _ rfl) ep1 (fun _ z => nomatch z)
        have lk : (ansA R.ab rq).2.length ≤ 100 := by
          have : ∀ {l : List Key}, l.length ≤ 6 → l.length ≤ 100 := fun h => by omega
          exact this (ans_len _ _)
        have dp := fun {p : Addr} (e : H8 p = some (.tup ((ansA R.ab rq).2.map kV))) => (Dp.tup (K := K) (SqT.of e) (dp_keys (ansA R.ab rq).2))
        obtain ⟨t1, t2, t3, t4⟩ := tup_shown ks lk
        have fin : LI6 c a c0 r M.md x0 (i + 1) [x0, some (.ref a), some (.ref r), some (.ref M.md), some (V.int (0 + (i : Int))), some (V.int v), x6, some (.ref qa), some (.ref p1), some (.ref p2)] H8 := by
          refine ⟨R', M', _, _, _, _, _, _, S7.em, h8, ?_, ?_, ?_, rfl⟩
          · rw [a']; exact e'.mono (by omega)
          · rw [a']; exact rt.ans e6.adr rq
          · rw [a']; exact Nat.le_trans (sum_ans e6.nd rq) (Nat.succ_le_succ sp)
        refine ⟨_, rfl, .ref p2, .ty "tuple", .type "tuple", .type "tuple", true, rfl, .ty _, .base (.tup ep2), rfl, _, rfl, iteF ?_⟩
        refine ⟨_, rfl, _, rfl, _, _, dp ep2, dp ep1, shaped_keys ks, shaped_keys ks, _, rfl, ?_⟩
        rw [same_keys ks]
        refine iteF ⟨_, rfl, p2, _, rfl, dp ep2, t1, t2, t3, t4, _, rfl, p1, _, rfl, dp ep1, t1, t2, t3, t4, rfl, _, rfl, ?_⟩
        rw [neq_str, decide_eq_false (fun z => z rfl)]
        exact iteF fin
    · clear e6 rt sp h e0 e5
      generalize M.md = md
      rintro σ' H6 ⟨R, M, x4, x5, x6, x7, x8, x9, rfl, h, e6, rt, sp, rfl⟩
      have okR : ∀ {xs : List Str}, (∀ y, y ∈ xs ↔ rootA R.ab y) → ∀ x ∈ xs, PyData.strOk x = true := fun {xs} hm x hx => (Asc.of_addr (rt x ((hm x).mp hx))).ok
      obtain ⟨dx, e0⟩ := id h.ri.ob
      have ndN : (R.N.map (·.1)).Nodup := e6.ndN
      have eN : M.N = R.N := e6.n
      refine ⟨_, rfl, r, c.G, dx, _, _, rfl, e0, TG.cl, TG.n1, rfl, _, rfl, M.md, _, rfl, h.mo.g2, R.nm, M.nm, nmK R.N, nmK M.N, rfl, rfl, h.ri.hn, h.mo.hn, by rw [eN], by rw [eN]; exact nm_same ndN, _, rfl, iteF ?_⟩
      refine ⟨_, rfl, r, dx, _, rfl, e0, rfl, r, R, rfl, h.ri, by have := e6.nN; omega, by omega, fun xs p H7 np s7 hp srt nod mem ln => ?_⟩
      have h7 := h.same s7
      refine ⟨_, rfl, M, R.ab, 2 * (i + 1), rfl, h7.mo, e6, by omega, fun ys p2 H8 np2 s8 hp2 srt2 nod2 mem2 => ?_⟩
      obtain rfl : xs = ys := sorted_mem srt srt2 nod nod2 fun k => (mem k).trans (mem2 k).symm
      have h8 := h7.same s8
      refine ⟨_, _, .lst (SqL.of (s8 _ _ hp)) (dp_txt _), .lst (SqL.of hp2) (dp_txt _), shaped_txt (okR mem), shaped_txt (okR mem), _, rfl, ?_⟩
      rw [same_txt (okR mem)]
      refine iteF ?_
      obtain ⟨dx8, e08⟩ := id h8.ri.ob
      obtain ⟨dk, ek⟩ := id h8.ri.kl
      have idE : R.E.map (fun e => (e.i : Int)) = M.L.map fun e => (e.i : Int) := by
        have := congrArg (List.map (fun j : Nat => (j : Int))) e6.ids
        rw [List.map_map, List.map_map] at this
        rw [show (M.L.map fun e => (e.i : Int)) = M.L.map ((fun j : Nat => (j : Int)) ∘ fun e => e.i) from rfl, this]
        show _ = (R.E.map fun e => (e.i, e.ks)).map _
        rw [List.map_map]; rfl
      have ek' : H8 R.k = some (.ins c.K dk (flP (R.n : Int) R.pd)) := ek
      refine ⟨_, rfl, r, c.G, dx8, _, _, rfl, e08, TG.cl, TG.n2, rfl, R.k, dk, _, rfl, ek, rfl, R.k, dk, R.pd, R.n, outD R.E, R.E.map (fun e => (e.i : Int)), rfl, ek, h8.ri.hp, by unfold outD; rw [List.map_map, List.map_map]; rfl, fun ns p3 pm3 srt3 np3 => ?_⟩
      have s9 := same_upd np3 (o := .lst (ns.map V.int))
      have h9 := h8.same s9
      have hp9 : (L2.upd H8 p3 (.lst (ns.map V.int))) p3 = _ := upd_same
      generalize L2.upd H8 p3 (.lst (ns.map V.int)) = H9 at s9 h9 hp9
      refine ⟨_, rfl, M.md, _, rfl, h9.mo.g3, M.pn, outK M.L, M.L.map (fun e => (e.i : Int)), rfl, h9.mo.hp, by unfold outK; rw [List.map_map, List.map_map]; rfl, fun ms p4 pm4 srt4 np4 => ?_⟩
      obtain rfl : ns = ms := sorted_ints srt3 srt4 (pm3.trans (by rw [idE]; exact pm4.symm))
      have s10 := same_upd np4 (o := .lst (ns.map V.int))
      have h10 := h9.same s10
      refine ⟨_, _, .lst (SqL.of (s10 _ _ hp9)) (dp_num _), .lst (SqL.of upd_same) (dp_num _), shaped_num, shaped_num, _, rfl, ?_⟩
      rw [same_num]
      exact iteF ⟨R, M, _, _, _, _, _, _, rfl, h10, e6, rt, sp, rfl⟩
  · rintro σ H6 ⟨R, M', x4, x5, x6, x7, x8, x9, emd, h, e6, rt, sp, rfl⟩
    rw [← emd]
    obtain ⟨dx, e0⟩ := id h.ri.ob
    obtain ⟨dxo, eo⟩ := id h.ri.sc.at_.st.ob
    have okB : ∀ {zs : List Str}, zs.Perm (R.B.map (·.1)) → ∀ x ∈ zs, PyData.strOk x = true := fun {zs} pm x hx => by
      obtain ⟨e, he, ee⟩ := List.mem_map.mp (pm.mem_iff.mp hx)
      rw [← ee]
      exact (Asc.of_addr (e6.adr e he)).ok
    refine ⟨_, rfl, r, c.G, dx, _, _, rfl, e0, TG.cl, TG.n0, rfl, R.o, dxo, _, rfl, eo, rfl, R.o, R.d, R.B, rfl, h.ri.sc.at_.st, fun zs q pm srt nq => ?_⟩
    have s9 := same_upd nq (o := .lst (zs.map V.str))
    have h9 := h.same s9
    have hq9 : (L2.upd H6 q (.lst (zs.map V.str))) q = _ := upd_same
    generalize L2.upd H6 q (.lst (zs.map V.str)) = H9 at s9 h9 hq9
    obtain ⟨kvs, eb, pb⟩ := id h9.mo.hb
    refine ⟨_, rfl, M'.md, _, rfl, h9.mo.g1, M'.bl, kvs, M'.B.map (·.1), rfl, eb, keysB pb, fun ys p4 pm4 srt4 np4 => ?_⟩
    obtain rfl : zs = ys := sorted_perm srt srt4 (pm.trans (by rw [show R.B = M'.B from e6.b.symm]; exact pm4.symm))
    have s10 := same_upd np4 (o := .lst (zs.map V.str))
    refine ⟨_, _, .lst (SqL.of (s10 _ _ hq9)) (dp_txt _), .lst (SqL.of upd_same) (dp_txt _), shaped_txt (okB pm), shaped_txt (okB pm), ?_⟩
    rw [same_txt (okB pm)]
    exact hq _
end
end LW
namespace LW
open PySem PySem.Spec PyProof.Rows L2 GxR
/-- the end of a law's row: all that the head says is at hand -/
theorem walk_gnd {l : PySem.W.OpenLaw} {n k : Nat} {q : Program} {loose : List Str} {XP : (Str → Option Value) → Heap → Prop} {YP : World → Heap → Prop} {d : DefRec} {K : Params → PySem.W.Frag} {CX : World → CXT} {x : Str}
    (hn : l.most = some n) (hn2 : n ≤ sizeLine) (hdf : d.params.defaults = []) (hr : Room k callerA) (hY : ∀ (w : World) (h : Heap), YP w h → (K w.params).In h)
    (F : ∀ (w : World) (s0 : Shared) (mg mb : Str → Option Value) (fa : Addr) (h : Heap), PySem.W.Ground q loose [] XP w s0 mg mb h → YP w h → (K w.params).In h → mg d.name = some (.ref fa) → LamX.LawAtS l w (K w.params) (CX w) k n x mg fa h)
    (hCX : ∀ (w : World) (H : Hp) (s : Shared) (e : Value) (s' : Shared), CX w [] H s (fun _ _ _ => False) e s' → False) :
    PySem.W.WalkO q loose XP YP l.row.toRowW d [] (fun f vs => PySem.call f vs) := by
  refine Att.attach_callB hn hdf ?_
  intro w s0 s1 mg mb fa o pm cd doc a vs ns G Y ho hd hcd hmg hobj hints hlen hbits hg
  have KX := hY w _ Y
  obtain ⟨fd, cs, sp, hT, nT, C, hb, hsp, hF⟩ := F w s0 mg mb fa _ G Y KX hmg
  refine LamX.law_callTs KX G.T.g G.T.b G.T.builtins G.T.nolimit hg hT nT C G.T.bmain hobj hints (Nat.le_trans hlen hn2) hr hF hb ?_ ?_
  · intro H hH hS
    exact hsp H a ns hlen hbits hH hS
  · intro H e s'
    exact hCX w H s1 e s'
/-- a function of the module as the head leaves it -/
theorem def_at {K : PySem.W.Frag} {h : Heap} {mg : Str → Option Value} {x : Str} {st : Stmt} {ps : List Str} {f : Addr} {oc : Value} {od an : Option Addr} {sl : Array (Option Value)} {kV dc pm cd ct : Value}
    (X : K.In h) (G : h.Ns mainGlobals mg) (a : PySem.W.nsIn K mainGlobals x = some (some (.ref f)))
    (l : K.lookup f = some ⟨oc, od, .func (PySem.W.fnOf x x (defArgs st) (defBody st) (defScope st) .none kV dc pm an cd ct), sl⟩)
    (c : PySem.W.codeIn K cd x = true) (k : PySem.W.keepIn K (.ref f) = true)
    (b : ∀ (kV doc pm : Value) (an : Option Addr) (cdv ct : Value) (us : List Value), us.length = ps.length → bindArgs (PySem.W.fnOf x x (defArgs st) (defBody st) (defScope st) .none kV doc pm an cdv ct) ⟨us, []⟩ = pure (ps.zip us)) :
    DefAt K mg x st ps f (PySem.W.fnOf x x (defArgs st) (defBody st) (defScope st) .none kV dc pm an cd ct) :=
  ⟨fun_mk (st := st) l c k, PySem.W.mg_of X G a, (fun_mk (st := st) l c k).binds b⟩
end LW
/-! a law whose own text wants more of its caller than its room (repr of a tuple wants that no guard stands) -/
namespace LW
open PySem PySem.Spec PyProof.Rows L2 GxR
/-- the promise of a def that the claim's caller alone calls -/
structure RunC (P : Program) (w : World) (K : PySem.W.Frag) (mg : Str → Option Value) (base : Heap) (CX : CXT) (f : Addr) (fd : FuncData) (ps : List Str) (sp : Sp) : Prop where
  len : ∀ vs H Q E, sp vs H Q E → vs.length = ps.length
  run : ∀ (outer : List Env) (s : Shared) (H : Hp) (args : Args) (us : List Value) (vs : List V) (Q : VK) (E : XK), Env0 P w K mg base callerA outer s H → BindsTo s fd args (ps.zip us) → Vals vs us → sp vs H Q E →
    codeAny (model P w) callerA (.call (.ref f) args) (CR CX outer P w H s Q E) s
section
variable {P : Program} {w : World} {K : PySem.W.Frag} {mg mb : Str → Option Value} {CX : CXT} {fa a : Addr} {cs : List (Addr × Addr)} {fd : FuncData} {x : Str} {sp : Sp} {s : Shared} {vs : List Value} {ns : List Int}
/-- what is tracked at first: the tables, and the script if no fragment holds it -/
theorem first_heap (K : PySem.W.Frag) (cs : List (Addr × Addr)) (a : Addr) (o : Obj) (u : HO) : ∃ Z : Hp, (∀ b, b ∈ cs.map (·.2) → Z b = some (.tbl #[])) ∧ (∀ b, b ∉ cs.map (·.2) → b ≠ a → Z b = none) ∧
    (a ∉ cs.map (·.2) → (K.lookup a = none ∧ Z a = some (.frz o u)) ∨ ∃ o', K.lookup a = some o' ∧ Z a = none) := by
  refine ⟨fun b => if b ∈ cs.map (·.2) then some (.tbl #[]) else if b = a ∧ (K.lookup a).isNone = true then some (.frz o u) else none, fun b hb => if_pos hb, fun b hb n => ?_, fun n => ?_⟩
  · show (if b ∈ cs.map (·.2) then some (HO.tbl #[]) else _) = none
    rw [if_neg hb, if_neg (fun z => n z.1)]
  · show (_ ∧ (if a ∈ cs.map (·.2) then some (HO.tbl #[]) else _) = _) ∨ ∃ o', _ ∧ (if a ∈ cs.map (·.2) then some (HO.tbl #[]) else _) = none
    rw [if_neg n]
    cases e : K.lookup a with
    | none => exact .inl ⟨rfl, if_pos ⟨rfl, rfl⟩⟩
    | some o' => exact .inr ⟨o', rfl, if_neg (fun z => by cases z.2)⟩
theorem law_callC (KX : K.In s.heap) (n0 : s.heap.Ns mainGlobals mg) (n1 : s.heap.Ns builtinsNs mb) (hbb : ∀ x : Str, x ≠ "__name__" → mb x = bootBuiltins x) (lim : s.heap.NoLimit) (g0 : s.gens = #[])
    (tab : ∀ p ∈ cs, s.heap.get? p.2 = some { cls := .none, data := .fields #[] }) (ntab : ∀ p ∈ cs, K.lookup p.2 = none) (code : ∀ p ∈ cs, PySem.W.CodeHd s.heap p.1 p.2)
    (hbm : ∃ (bm : Addr) (ob : Obj), mg "__builtins__" = some (.ref bm) ∧ bm ≠ builtinsNs ∧ s.heap.get? bm = some ob ∧ ob.cls = .type "module" ∧ ob.dict = some builtinsNs ∧ ob.data = .plain)
    (la : s.heap.get? a = some { cls := .type "list", data := .seq vs.toArray }) (iv : IntsAre vs ns) (le : ns.length ≤ sizeLine)
    (F : ∀ base : Heap, K.In base → base.Ns mainGlobals mg → (∀ p ∈ cs, TabB base mg p.1 p.2) → RunC P w K mg base CX fa fd [x] sp) (bnd : ∀ (s : Shared) (u : Value), BindsTo s fd ⟨[u], []⟩ [(x, u)])
    (hsp : ∀ H : Hp, (∀ p ∈ cs, H p.2 = some (.tbl #[])) → SqL K H a (ns.map V.int) → sp [.ref a] H (fun v _ => v = .bl true) fun _ _ _ => False) (hCX : ∀ H e s', CX [] H s (fun _ _ _ => False) e s' → False) :
    codeAny (model P w) callerA (.call (.ref fa) ⟨[.ref a], []⟩) (fun r s' => r = .ok (.ret (.bool true)) ∧ OldK s.heap s'.heap ∧ s'.os = s.os ∧ AllBare s'.gens) s := by
  have isT : ∀ {b : Addr}, b ∈ cs.map (·.2) → s.heap.get? b = some { cls := .none, data := .fields #[] } := fun {b} h => by
    obtain ⟨p, hp, rfl⟩ := List.mem_map.mp h
    exact tab p hp
  have mT : ∀ {p}, p ∈ cs → p.2 ∈ cs.map (·.2) := fun {p} h => List.mem_map.mpr ⟨p, h, rfl⟩
  have aT : a ∉ cs.map (·.2) := fun z => by
    have q := isT z
    rw [la] at q
    cases congrArg Obj.data (Option.some.inj q)
  obtain ⟨Z, z1, z2, z3⟩ := first_heap K cs a { cls := .type "list", data := .seq vs.toArray } (.lst (ns.map V.int))
  have z3 := z3 aT
  have lv := iv.length
  have sq : SqL K Z a (ns.map V.int) := by
    rcases z3 with ⟨_, e⟩ | ⟨o, e, _⟩
    · exact .inl (.inr ⟨_, e⟩)
    · have q := KX a o e
      rw [la] at q
      cases q
      exact .inr ⟨_, vs.toArray, _, e, rfl, rfl, rfl, by rw [List.size_toArray, lv]; exact le, by simpa using vals_ints iv⟩
  have hok : HOk P w Z s.heap := fun b o e => by
    by_cases hb : b ∈ cs.map (·.2)
    · rw [z1 b hb] at e; cases e
      exact isT hb
    · by_cases ha : b = a
      · subst ha
        rcases z3 with ⟨_, q⟩ | ⟨_, _, q⟩
        · rw [q] at e; cases e
          exact ⟨la, by rw [List.length_map]; exact le, vs, _, vals_ints iv, la⟩
        · rw [q] at e; cases e
      · rw [z2 b hb ha] at e; cases e
  have off : ∀ {b : Addr} {o : Obj}, s.heap.get? b = some o → (∀ us n, o.data ≠ .seq us n) → o.data ≠ .fields #[] → (hidT s.heap Z).get? b = some o := fun {b o} e d1 d2 => hidT_get e (by
    by_cases hb : b ∈ cs.map (·.2)
    · rw [isT hb] at e; cases e
      exact absurd rfl d2
    · refine z2 b hb fun ha => ?_
      rw [ha, la] at e; cases e
      exact d1 _ _ rfl)
  have nsZ : ∀ {b : Addr} {m : Str → Option Value}, s.heap.Ns b m → (hidT s.heap Z).Ns b m := fun {b m} h => by
    obtain ⟨o, es, ep, e, d, r⟩ := h
    exact ⟨o, es, ep, off e (fun us n z => by rw [d] at z; cases z) (fun z => by rw [d] at z; cases z), d, r⟩
  have KZ : K.In (hidT s.heap Z) := fun b o e => hidT_get (KX b o e) (by
    by_cases hb : b ∈ cs.map (·.2)
    · obtain ⟨p, hp, rfl⟩ := List.mem_map.mp hb
      rw [ntab p hp] at e; cases e
    · by_cases ha : b = a
      · rw [ha] at e ⊢
        rcases z3 with ⟨q, _⟩ | ⟨_, _, q⟩
        · rw [q] at e; cases e
        · exact q
      · exact z2 b hb ha)
  have md : L2.Mod K mg (hidT s.heap Z) := by
    obtain ⟨mc, l1, l2⟩ := lim
    exact ⟨KZ, nsZ n0, ⟨mb, nsZ n1, hbb⟩, mc, nsZ l1, l2⟩
  have TB : ∀ p ∈ cs, TabB (hidT s.heap Z) mg p.1 p.2 := fun p hp => by
    have tp := tab p hp
    refine ⟨?_, ?_, fun z => ?_⟩
    · obtain ⟨o, us, file, tf, flags, tg, inF, text, tt, e1, r1, r2, r3, r4, r5, r6, r7, r8, r9⟩ := code p hp
      refine ⟨o, us, file, tf, flags, tg, inF, text, tt, off e1 (fun vs n z => ?_) (fun z => ?_), r1, r2, r3, r4, r5, r6, r7, r8, r9⟩
      · rw [r2] at z; cases z
      · rw [r2] at z; cases z
        simp at r3
    · obtain ⟨bm, ob, b1, b2, b3, b4, b5, b6⟩ := hbm
      refine ⟨bm, ob, b1, b2, fun q => ?_, fun q => ?_, off b3 (fun us n z => by rw [b6] at z; cases z) (fun z => by rw [b6] at z; cases z), b4, b5, b6⟩
      · obtain ⟨o, es, ep, e, d, _⟩ := n0
        rw [← q, b3] at e; cases e
        rw [d] at b6; cases b6
      · rw [q, tp] at b3; cases b3
        cases b6
    · obtain ⟨o, es, ep, e, d, _⟩ := n0
      rw [z, tp] at e; cases e
      cases d
  have e0 : Env0 P w K mg (hidT s.heap Z) callerA [] s Z := ⟨rfl, md, fun b o e => of_hidT e, Nat.le_of_eq (hidT_size _ _), trivial, fun b hb => (nomatch (show b ∈ ([] : List Addr) from hb)), hok, .of_eq g0⟩
  refine codeAny_mono ((F _ KZ (nsZ n0) TB).run [] s Z ⟨[.ref a], []⟩ [.ref a] [.ref a] _ _ e0 (bnd s (.ref a)) (.cons rfl .nil) (hsp Z (fun p hp => z1 _ (mT hp)) sq)) fun r s' h => ?_
  match r, h with
  | .error e, h => exact (hCX Z e s' h).elim
  | .ok .next, h => exact False.elim h
  | .ok .brk, h => exact False.elim h
  | .ok .cont, h => exact False.elim h
  | .ok (.ret u), h =>
    obtain ⟨v, H', os, bare, un, hok', rv, q⟩ := h
    have q : v = .bl true := q
    subst q
    obtain rfl : u = Value.bool true := rv
    have old : ∀ {b o}, b ∉ cs.map (·.2) → s.heap.get? b = some o → s'.heap.get? b = some o := fun {b o} nb e => by
      by_cases ha : b = a
      · rw [ha] at e ⊢
        rcases z3 with ⟨_, q⟩ | ⟨_, _, q⟩
        · obtain ⟨y1, _⟩ := hok a _ q
          obtain ⟨y2, _⟩ := hok' a _ (un.frzs a _ _ q)
          rw [e] at y1; cases y1
          exact y2
        · exact un.keep a o e q List.not_mem_nil List.not_mem_nil
      · exact un.keep b o e (z2 b nb ha) List.not_mem_nil List.not_mem_nil
    have grown : ∀ {p}, p ∈ cs → ∃ more : Array Value, s'.heap.get? p.2 = some { cls := .none, data := .fields more } := fun {p} hp => by
      obtain ⟨more, e⟩ := un.tbls p.2 #[] (z1 _ (mT hp))
      exact ⟨_, hok' p.2 _ e⟩
    refine ⟨rfl, ⟨fun b o e => ?_, fun b o e => ?_⟩, os, bare⟩
    · by_cases hb : b ∈ cs.map (·.2)
      · obtain ⟨p, hp, rfl⟩ := List.mem_map.mp hb
        obtain ⟨more, hm⟩ := grown hp
        rw [tab p hp] at e; cases e
        exact .inr (.inl ⟨((code p hp).tab (tab p hp)).isCodeTable, rfl, #[], more, rfl, by rw [Array.empty_append]; exact hm⟩)
      · exact .inl (old hb e)
    · by_cases hb : b ∈ cs.map (·.2)
      · obtain ⟨p, hp, rfl⟩ := List.mem_map.mp hb
        obtain ⟨more, hm⟩ := grown hp
        exact ⟨_, hm⟩
      · exact ⟨o, old hb e⟩
end
/-- a def of the module, called by the claim's caller: its body is read where no guard stands -/
theorem runC_of {P : Program} {w : World} {K : PySem.W.Frag} {mg : Str → Option Value} {base : Heap} {x qual : Str} {st : Stmt} {f : Addr} {fd : FuncData} {N ps : List Str} {k : Nat} {sp : Sp} (F : Fun K x qual st f fd) (S : FnScope N ps (defScope st)) (len : ∀ vs H Q E, sp vs H Q E → vs.length = ps.length) (room : Room (k + 1) callerA)
    (body : ∀ (cdv : Value) (outer : List Env) (s : Shared) (H : Hp) (vs : List V) (Q : VK) (E : XK), Room k (callerA.deeper (envOfC qual (defScope st) s.heap.objs.size f cdv)) → sp vs H Q E →
      ∃ t, PSs (cxOf CX0 P w K mg base N qual (defScope st) f cdv callerA outer s H E).nox (defBody st) t ∧ t { nx := fun _ H' => Q .non H', rt := Q } (L2.start N vs) H) : RunC P w K mg base CX0 f fd ps sp := by
  obtain ⟨oc, od, kV, doc, pm, an, cdv, ct, osl, rfl, lk, cd⟩ := F.ex
  refine ⟨len, fun outer s H args us vs Q E e0 bnd rv hsp => ?_⟩
  have kin : K.In s.heap := e0.mod.kin.keeps fun b o e => (e0.bs b o e).1
  have nolim : s.heap.NoLimit := e0.mod.nolimit.keeps fun b o e => (e0.bs b o e).1
  have kinds' : ∀ y ∈ ps.zip us, (defScope st).names.lookup y.1 = some .local ∨ ((defScope st).names.lookup y.1 = some .cell ∧ ((cellsFrom (s.heap.objs.size + 1) (defScope st).names []).lookup y.1).isSome = true) := by
    rintro ⟨n, v⟩ hy
    refine (S.par n (List.of_mem_zip hy).1).imp id fun q => ⟨q, ?_⟩
    exact PySem.W.cellsFrom_some _ _ _ (.inl q)
  refine codeAny_call_function room.depth (kin _ _ lk) rfl S.co S.gen rfl (PySem.W.codeRec_of kin cd) (bnd _ _ _ _ ?_)
  refine wpAny_newFunctionEnv_cells S.kind kinds' fun env ee s1 xx => ?_
  subst ee
  refine ⟨nolim.keeps xx.toInCall.keep, codeAny_func ?_⟩
  obtain ⟨t, ht, hq⟩ := body cdv outer s H vs Q E (room.deeper _) hsp
  have I := inv_start (CX := CX0) (N := N) (E := E) S room.hd e0 (len _ _ _ _ hsp) rv xx
  refine wpAny_mono (ht.nox.run [] s1 (L2.start N vs) H _ I hq) (fun fl s' hs => ?_) fun e s' hs => hs
  match fl, hs with
  | .next, ⟨_, H', J, q⟩ => exact ⟨V.non, H', J.os, J.bare, J.base, J.hok, rfl, q⟩
  | .ret u, ⟨v, _, H', J, r, q⟩ => exact ⟨v, H', J.os, J.bare, J.base, J.hok, r, q⟩
  | .brk, ⟨_, _, _, q⟩ => exact False.elim q
  | .cont, ⟨_, _, _, q⟩ => exact False.elim q
/-- what is known of such a law at the head's heap h -/
structure LawC0 (l : PySem.W.OpenLaw) (w : World) (K : PySem.W.Frag) (CX : CXT) (n : Nat) (x : Str) (mg : Str → Option Value) (fa : Addr) (h : Heap) (fd : FuncData) (cs : List (Addr × Addr)) (sp : Sp) : Prop where
  tab : ∀ p ∈ cs, h.get? p.2 = some { cls := .none, data := .fields #[] }
  ntab : ∀ p ∈ cs, K.lookup p.2 = none
  code : ∀ p ∈ cs, PySem.W.CodeHd h p.1 p.2
  bnd : ∀ (s : Shared) (u : Value), BindsTo s fd ⟨[u], []⟩ [(x, u)]
  ask : ∀ (H : Hp) (a : Addr) (ns : List Int), ns.length ≤ n → (∀ p ∈ cs, H p.2 = some (.tbl #[])) → SqL K H a (ns.map V.int) → sp [.ref a] H (fun v _ => v = .bl true) fun _ _ _ => False
  run : ∀ base : Heap, K.In base → base.Ns mainGlobals mg → (∀ p ∈ cs, TabB base mg p.1 p.2) → RunC l.prog w K mg base CX fa fd [x] sp
theorem walk_gndC {l : PySem.W.OpenLaw} {n : Nat} {q : Program} {loose : List Str} {XP : (Str → Option Value) → Heap → Prop} {YP : World → Heap → Prop} {d : DefRec} {K : Params → PySem.W.Frag} {CX : World → CXT} {x : Str}
    (hn : l.most = some n) (hn2 : n ≤ sizeLine) (hdf : d.params.defaults = []) (hY : ∀ (w : World) (h : Heap), YP w h → (K w.params).In h)
    (F : ∀ (w : World) (s0 : Shared) (mg mb : Str → Option Value) (fa : Addr) (h : Heap), PySem.W.Ground q loose [] XP w s0 mg mb h → YP w h → (K w.params).In h → mg d.name = some (.ref fa) → ∃ fd cs sp, LawC0 l w (K w.params) (CX w) n x mg fa h fd cs sp)
    (hCX : ∀ (w : World) (H : Hp) (s : Shared) (e : Value) (s' : Shared), CX w [] H s (fun _ _ _ => False) e s' → False) :
    PySem.W.WalkO q loose XP YP l.row.toRowW d [] (fun f vs => PySem.call f vs) := by
  refine Att.attach_callB hn hdf ?_
  intro w s0 s1 mg mb fa o pm cd doc a vs ns G Y ho hd hcd hmg hobj hints hlen hbits hg
  have KX := hY w _ Y
  obtain ⟨fd, cs, sp, L⟩ := F w s0 mg mb fa _ G Y KX hmg
  exact law_callC KX G.T.g G.T.b G.T.builtins G.T.nolimit hg L.tab L.ntab L.code G.T.bmain hobj hints (Nat.le_trans hlen hn2) L.run L.bnd (fun H hH hS => L.ask H a ns hlen hH hS) fun H e s' => hCX w H s1 e s'
end LW
namespace LW
open PySem PySem.Spec PyProof.Rows L2 GxR
def sp_law (K : PySem.W.Frag) (c : CA) : Sp := fun vs H Q _ => ∃ (l : Addr) (ns : List Int), vs = [.ref l] ∧ SqL K H l (ns.map V.int) ∧ ns.length ≤ 63 ∧ (TabG H c.b1 ∧ TabG H c.b2 ∧ TabG H c.b3 ∧ TabG H c.b4) ∧ ∀ H', Q (.bl true) H'
theorem run_law {P : Program} {w : World} {K : PySem.W.Frag} {mg : Str → Option Value} {base : Heap} {cM cR : Addr} {c : CA} {f : Addr} {fd : FuncData} (F : Fun K "law" "law" s_law f fd) (T : Tx K mg cM cR c.U) (TC : Tc K mg c.C) (TK : Tk K mg c.K c.L) (TG : Tg K w mg c.G) (C : LawC6 P w K mg base c) : RunC P w K mg base CX0 f fd P_law (sp_law K c) := by
  refine runC_of (k := 37) F sc_law (fun vs H Q E h => ?_) ⟨rfl, by decide, by decide⟩ (fun cdv outer s H vs Q E hr h => ?_)
  · obtain ⟨_, _, rfl, _⟩ := h
    rfl
  · obtain ⟨l, ns, rfl, hS, hl, ⟨t1, t2, t3, t4⟩, hq⟩ := h
    obtain ⟨t5, h5, q5⟩ := law3 (Q := Q) (E := E) (H := H) (outer := outer) (f := f) (cdv := cdv) (s := s) T TC TK TG C hr hq
    have nd := sc_law.nd
    refine ⟨_, pss_cons (ps_set (i := 1) nd rfl (Or.inl rfl) (pe_cal C.sta hr (pa_cons (pv 0) pa_nil)))
  (pss_cons (ps_set (i := 2) nd rfl (Or.inl rfl) (pe_calK0 C.reg hr))
  (pss_cons (ps_set (i := 3) nd rfl (Or.inl rfl) (pe_disp (pps_cons pe_str pe_dnewK (pps_cons pe_str pe_dnewK (pps_cons pe_str pe_dnewK (pps_cons pe_str pe_dnewK (pps_cons pe_str pe_int (pps_cons pe_str pe_int pps_nil)))))) (by rfl) (by rfl) (fun z => by cases z) (by decide))) h5)), ?_⟩
    refine ⟨_, rfl, l, ns, rfl, hS, hl, fun a c0 H1 na nc sm1 s1 => ?_⟩
    have tb : ∀ {T}, TabG H T → TabG H1 T := fun {T} t => tab_same t sm1
    refine fun r dx nr ndx nex => ?_
    obtain ⟨ec, s4⟩ := made0 (C := c.G) nr ndx
    have tb4 : ∀ {T}, TabG H T → TabG (L2.upd (L2.upd H1 dx (.own r)) r (.ins c.G dx [])) T := fun {T} t => tab_same (tb t) s4
    have sl4 := s1.same s4
    generalize L2.upd (L2.upd H1 dx (.own r)) r (.ins c.G dx []) = H4 at ec tb4 s4 sl4
    refine ⟨r, dx, rfl, ec, tb4 t1, tb4 t2, tb4 t3, tb4 t4, fun R H5 h5 ab5 g5 fr5 => ⟨rfl, ?_⟩⟩
    obtain ⟨n, cs, e1, e2, rr⟩ := id sl4
    have nrl : ∀ {z xs}, H4 z = some (.lst xs) → z ≠ r := fun {z xs} e => ne_of e ec (by intro w; cases w)
    have k5 : ∀ {z xs}, H4 z = some (.lst xs) → H5 z = some (.lst xs) := fun {z xs} e => g5.keep z _ (nrl e) e (fun _ w => nomatch w)
    have sl5 : SL H5 a c0 := ⟨n, cs, k5 e1, k5 e2, rr⟩
    have nRF : ∀ {z xs}, H4 z = some (.lst xs) → ¬ RF r R z := fun {z xs} e w => (fr5 z w).elim (nrl e) fun w => by rw [e] at w; cases w
    refine fun md nmd => ?_
    have z1 := same_upd nmd (o := .dK [])
    have hm1 : (L2.upd H5 md (.dK [])) md = some (.dK []) := upd_same
    generalize L2.upd H5 md (.dK []) = G1 at z1 hm1
    refine fun b1 nb1 => ?_
    have z2 := same_upd nb1 (o := .dK [])
    have hb1 : (L2.upd G1 b1 (.dK [])) b1 = some (.dK []) := upd_same
    have d1 : md ≠ b1 := ne_of_none hm1 nb1
    generalize L2.upd G1 b1 (.dK []) = G2 at z2 hb1
    refine fun b2 nb2 => ?_
    have z3 := same_upd nb2 (o := .dK [])
    have hb2 : (L2.upd G2 b2 (.dK [])) b2 = some (.dK []) := upd_same
    have d2 : md ≠ b2 ∧ b1 ≠ b2 := ⟨ne_of_none (z2 _ _ hm1) nb2, ne_of_none hb1 nb2⟩
    generalize L2.upd G2 b2 (.dK []) = G3 at z3 hb2
    refine fun b3 nb3 => ?_
    have z4 := same_upd nb3 (o := .dK [])
    have hb3 : (L2.upd G3 b3 (.dK [])) b3 = some (.dK []) := upd_same
    have d3 : md ≠ b3 ∧ b1 ≠ b3 ∧ b2 ≠ b3 := ⟨ne_of_none (z3 _ _ (z2 _ _ hm1)) nb3, ne_of_none (z3 _ _ hb1) nb3, ne_of_none hb2 nb3⟩
    generalize L2.upd G3 b3 (.dK []) = G4 at z4 hb3
    refine fun b4 nb4 => ?_
    have z5 := same_upd nb4 (o := .dK [])
    have hb4 : (L2.upd G4 b4 (.dK [])) b4 = some (.dK []) := upd_same
    have d4 : md ≠ b4 ∧ b1 ≠ b4 ∧ b2 ≠ b4 ∧ b3 ≠ b4 := ⟨ne_of_none (z4 _ _ (z3 _ _ (z2 _ _ hm1))) nb4, ne_of_none (z4 _ _ (z3 _ _ hb1)) nb4, ne_of_none (z4 _ _ hb2) nb4, ne_of_none hb3 nb4⟩
    generalize L2.upd G4 b4 (.dK []) = G5 at z5 hb4
    have k1 := z5 _ _ (z4 _ _ (z3 _ _ hb1))
    have k2 := z5 _ _ (z4 _ _ hb2)
    have k3 := z5 _ _ hb3
    have km := z5 _ _ (z4 _ _ (z3 _ _ (z2 _ _ hm1)))
    have zz := (((z1.trans z2).trans z3).trans z4).trans z5
    have n1 : H5 b1 = none := z1.free nb1
    have n2 : H5 b2 = none := z1.free (z2.free nb2)
    have n3 : H5 b3 = none := z1.free (z2.free (z3.free nb3))
    have n4 : H5 b4 = none := z1.free (z2.free (z3.free (z4.free nb4)))
    obtain ⟨M, eM⟩ : ∃ M : M6, M = ⟨md, b1, b2, b3, b4, [], [], [], 0, 0, []⟩ := ⟨_, rfl⟩
    refine ⟨km, [(.inr "blobs", .ref b1), (.inr "names", .ref b2), (.inr "pins", .ref b3), (.inr "texts", .ref b4), (.inr "opened", .int 0), (.inr "last", .int 0)], rfl, by show 6 ≤ 15; decide, ?_⟩
    rw [show mergeK [] [(.inr "blobs", .ref b1), (.inr "names", .ref b2), (.inr "pins", .ref b3), (.inr "texts", .ref b4), (.inr "opened", .int 0), (.inr "last", .int 0)] = mdK M from by rw [eM]; rfl]
    have sf : Same H5 (L2.upd G5 md (.dK (mdK M))) := fun b o e => by
      rw [upd_ne (ne_of_none e nmd)]; exact zz b o e
    have mo : MO M (L2.upd G5 md (.dK (mdK M))) := by
      rw [eM]
      refine ⟨upd_same, ⟨[], ?_, .nil⟩, ?_, ?_, (fun e he => nomatch he), ?_, ?_⟩
      · show (L2.upd G5 md _) b1 = _
        rw [upd_ne (Ne.symm d1)]; exact k1
      · show (L2.upd G5 md _) b2 = _
        rw [upd_ne (Ne.symm d2.1)]; exact k2
      · show (L2.upd G5 md _) b3 = _
        rw [upd_ne (Ne.symm d3.1)]; exact k3
      · show (L2.upd G5 md _) b4 = _
        rw [upd_ne (Ne.symm d4.1)]; exact hb4
      · show [md, b1, b2, b3, b4].Nodup
        simp only [List.nodup_cons, List.mem_cons, List.not_mem_nil, or_false, not_or, List.nodup_nil, and_true, not_false_eq_true]
        exact ⟨⟨d1, d2.1, d3.1, d4.1⟩, ⟨d2.2, d3.2.1, d4.2.1⟩, ⟨d3.2.2, d4.2.2.1⟩, d4.2.2.2⟩
    generalize L2.upd G5 md (.dK (mdK M)) = G6 at sf mo
    have mmd : M.md = md := by rw [eM]
    refine q5 a c0 r md _ _ G6 ⟨R, M, _, _, _, _, _, _, mmd, ⟨sl5.same sf, h5.gr (.of_same sf), mo, fun z hz => ⟨fun w => nRF e1 (w ▸ hz), fun w => nRF e2 (w ▸ hz)⟩, fun z hz w => ?_, fun e he => ?_⟩, ?_, ?_, ?_, rfl⟩
    · rw [eM] at w
      have w : z ∈ [md, b1, b2, b3, b4] := w
      simp only [List.mem_cons, List.not_mem_nil, or_false] at w
      rcases w with w | w | w | w | w
      · exact h5.new nmd (w ▸ hz)
      · exact h5.new n1 (w ▸ hz)
      · exact h5.new n2 (w ▸ hz)
      · exact h5.new n3 (w ▸ hz)
      · exact h5.new n4 (w ▸ hz)
    · rw [eM] at he; cases he
    · rw [ab5, eM]
      exact ⟨rfl, rfl, rfl, rfl, rfl, rfl, (fun e he => nomatch he), List.nodup_nil, (fun e he => nomatch he), (fun e he => nomatch he), Nat.le_refl _, (fun e he => nomatch he), Nat.le_refl _, Nat.le_refl _, Nat.le_refl _, Nat.le_refl _, (fun e he => nomatch he), (fun e he => nomatch he), (fun e he => nomatch he), List.nodup_nil, (fun e he => nomatch he), List.nodup_nil, rfl, Nat.le_refl _, Nat.le_refl _⟩
    · rw [ab5]
      rintro y (⟨e, he, _⟩ | ⟨e, he, _⟩)
      · cases he
      · cases he
    · rw [ab5]; exact Nat.le_refl _
end LW
namespace LW
open PySem PySem.Spec PyProof.Rows L2 GxR
theorem vac_fn {P : Program} {w : World} {K : PySem.W.Frag} {mg : Str → Option Value} {base : Heap} {CX : CXT} {k : Nat} {f : Addr} {fd : FuncData} {ps : List Str} {sp : Sp} (h : ∀ vs H Q E, ¬ sp vs H Q E) : FnOk P w K mg base CX k f fd ps sp :=
  ⟨fun vs H Q E z => absurd z (h vs H Q E), fun _ _ _ H _ _ vs Q E _ _ _ _ z => absurd z (h vs H Q E)⟩
theorem all_mk {l : PySem.W.OpenLaw} {w : World} {K : PySem.W.Frag} {h : Heap} {mg : Str → Option Value} {fa B1 B2 B3 B4 : Addr}
    {f_ia c_ia : Addr} {oc_ia kV_ia dc_ia pm_ia ct_ia : Value} {od_ia an_ia : Option Addr} {sl_ia : Array (Option Value)}
    {f_ip c_ip : Addr} {oc_ip kV_ip dc_ip pm_ip ct_ip : Value} {od_ip an_ip : Option Addr} {sl_ip : Array (Option Value)}
    {f_ad : Addr} {oc_ad kV_ad dc_ad pm_ad ct_ad cd_ad : Value} {od_ad an_ad : Option Addr} {sl_ad : Array (Option Value)}
    {f_it : Addr} {oc_it kV_it dc_it pm_it ct_it cd_it : Value} {od_it an_it : Option Addr} {sl_it : Array (Option Value)}
    {f_bt : Addr} {oc_bt kV_bt dc_bt pm_bt ct_bt cd_bt : Value} {od_bt an_bt : Option Addr} {sl_bt : Array (Option Value)}
    {f_ri : Addr} {oc_ri kV_ri dc_ri pm_ri ct_ri cd_ri : Value} {od_ri an_ri : Option Addr} {sl_ri : Array (Option Value)}
    {f_rb : Addr} {oc_rb kV_rb dc_rb pm_rb ct_rb cd_rb : Value} {od_rb an_rb : Option Addr} {sl_rb : Array (Option Value)}
    {f_rf : Addr} {oc_rf kV_rf dc_rf pm_rf ct_rf cd_rf : Value} {od_rf an_rf : Option Addr} {sl_rf : Array (Option Value)}
    {f_to : Addr} {oc_to kV_to dc_to pm_to ct_to cd_to : Value} {od_to an_to : Option Addr} {sl_to : Array (Option Value)}
    {f_lb : Addr} {oc_lb kV_lb dc_lb pm_lb ct_lb cd_lb : Value} {od_lb an_lb : Option Addr} {sl_lb : Array (Option Value)}
    {f_ls : Addr} {oc_ls kV_ls dc_ls pm_ls ct_ls cd_ls : Value} {od_ls an_ls : Option Addr} {sl_ls : Array (Option Value)}
    {f_lt : Addr} {oc_lt kV_lt dc_lt pm_lt ct_lt cd_lt : Value} {od_lt an_lt : Option Addr} {sl_lt : Array (Option Value)}
    {f_lx : Addr} {oc_lx kV_lx dc_lx pm_lx ct_lx cd_lx : Value} {od_lx an_lx : Option Addr} {sl_lx : Array (Option Value)}
    {f_lr : Addr} {oc_lr kV_lr dc_lr pm_lr ct_lr cd_lr : Value} {od_lr an_lr : Option Addr} {sl_lr : Array (Option Value)}
    {f_lh : Addr} {oc_lh kV_lh dc_lh pm_lh ct_lh cd_lh : Value} {od_lh an_lh : Option Addr} {sl_lh : Array (Option Value)}
    {f_lk : Addr} {oc_lk kV_lk dc_lk pm_lk ct_lk cd_lk : Value} {od_lk an_lk : Option Addr} {sl_lk : Array (Option Value)}
    {f_lf : Addr} {oc_lf kV_lf dc_lf pm_lf ct_lf cd_lf : Value} {od_lf an_lf : Option Addr} {sl_lf : Array (Option Value)}
    {f_lp : Addr} {oc_lp kV_lp dc_lp pm_lp ct_lp cd_lp : Value} {od_lp an_lp : Option Addr} {sl_lp : Array (Option Value)}
    {f_lc : Addr} {oc_lc kV_lc dc_lc pm_lc ct_lc cd_lc : Value} {od_lc an_lc : Option Addr} {sl_lc : Array (Option Value)}
    {f_la : Addr} {oc_la kV_la dc_la pm_la ct_la cd_la : Value} {od_la an_la : Option Addr} {sl_la : Array (Option Value)}
    {f_lo : Addr} {oc_lo kV_lo dc_lo pm_lo ct_lo cd_lo : Value} {od_lo an_lo : Option Addr} {sl_lo : Array (Option Value)}
    {f_ld : Addr} {oc_ld kV_ld dc_ld pm_ld ct_ld cd_ld : Value} {od_ld an_ld : Option Addr} {sl_ld : Array (Option Value)}
    {f_le : Addr} {oc_le kV_le dc_le pm_le ct_le cd_le : Value} {od_le an_le : Option Addr} {sl_le : Array (Option Value)}
    {f_lq : Addr} {oc_lq kV_lq dc_lq pm_lq ct_lq cd_lq : Value} {od_lq an_lq : Option Addr} {sl_lq : Array (Option Value)}
    {f_ln : Addr} {oc_ln kV_ln dc_ln pm_ln ct_ln cd_ln : Value} {od_ln an_ln : Option Addr} {sl_ln : Array (Option Value)}
    {f_lw : Addr} {oc_lw kV_lw dc_lw pm_lw ct_lw cd_lw : Value} {od_lw an_lw : Option Addr} {sl_lw : Array (Option Value)}
    {f_si : Addr} {oc_si kV_si dc_si pm_si cd_si ct_si : Value} {od_si an_si : Option Addr} {sl_si : Array (Option Value)}
    {f_sk : Addr} {oc_sk kV_sk dc_sk pm_sk cd_sk ct_sk : Value} {od_sk an_sk : Option Addr} {sl_sk : Array (Option Value)}
    {f_sb : Addr} {oc_sb kV_sb dc_sb pm_sb cd_sb ct_sb : Value} {od_sb an_sb : Option Addr} {sl_sb : Array (Option Value)}
    {f_sd : Addr} {oc_sd kV_sd dc_sd pm_sd cd_sd ct_sd : Value} {od_sd an_sd : Option Addr} {sl_sd : Array (Option Value)}
    {f_sl : Addr} {oc_sl kV_sl dc_sl pm_sl cd_sl ct_sl : Value} {od_sl an_sl : Option Addr} {sl_sl : Array (Option Value)}
    {f_sc : Addr} {oc_sc kV_sc dc_sc pm_sc cd_sc ct_sc : Value} {od_sc an_sc : Option Addr} {sl_sc : Array (Option Value)}
    {f_so : Addr} {oc_so kV_so dc_so pm_so cd_so ct_so : Value} {od_so an_so : Option Addr} {sl_so : Array (Option Value)}
    {f_sg : Addr} {oc_sg kV_sg dc_sg pm_sg cd_sg ct_sg : Value} {od_sg an_sg : Option Addr} {sl_sg : Array (Option Value)}
    {f_sw c_sw : Addr} {oc_sw kV_sw dc_sw pm_sw ct_sw : Value} {od_sw an_sw : Option Addr} {sl_sw : Array (Option Value)}
    {f_ci : Addr} {oc_ci kV_ci dc_ci pm_ci cd_ci ct_ci : Value} {od_ci an_ci : Option Addr} {sl_ci : Array (Option Value)}
    {f_ch : Addr} {oc_ch kV_ch dc_ch pm_ch cd_ch ct_ch : Value} {od_ch an_ch : Option Addr} {sl_ch : Array (Option Value)}
    {f_co : Addr} {oc_co kV_co dc_co pm_co cd_co ct_co : Value} {od_co an_co : Option Addr} {sl_co : Array (Option Value)}
    {f_ki : Addr} {oc_ki kV_ki dc_ki pm_ki cd_ki ct_ki : Value} {od_ki an_ki : Option Addr} {sl_ki : Array (Option Value)}
    {f_kb : Addr} {oc_kb kV_kb dc_kb pm_kb cd_kb ct_kb : Value} {od_kb an_kb : Option Addr} {sl_kb : Array (Option Value)}
    {f_ko : Addr} {oc_ko kV_ko dc_ko pm_ko cd_ko ct_ko : Value} {od_ko an_ko : Option Addr} {sl_ko : Array (Option Value)}
    {f_kp : Addr} {oc_kp kV_kp dc_kp pm_kp cd_kp ct_kp : Value} {od_kp an_kp : Option Addr} {sl_kp : Array (Option Value)}
    {f_ke : Addr} {oc_ke kV_ke dc_ke pm_ke cd_ke ct_ke : Value} {od_ke an_ke : Option Addr} {sl_ke : Array (Option Value)}
    {f_kn : Addr} {oc_kn kV_kn dc_kn pm_kn cd_kn ct_kn : Value} {od_kn an_kn : Option Addr} {sl_kn : Array (Option Value)}
    {f_kq : Addr} {oc_kq kV_kq dc_kq pm_kq cd_kq ct_kq : Value} {od_kq an_kq : Option Addr} {sl_kq : Array (Option Value)}
    {f_ui : Addr} {oc_ui kV_ui dc_ui pm_ui cd_ui ct_ui : Value} {od_ui an_ui : Option Addr} {sl_ui : Array (Option Value)}
    {f_ub : Addr} {oc_ub kV_ub dc_ub pm_ub cd_ub ct_ub : Value} {od_ub an_ub : Option Addr} {sl_ub : Array (Option Value)}
    {f_ua : Addr} {oc_ua kV_ua dc_ua pm_ua cd_ua ct_ua : Value} {od_ua an_ua : Option Addr} {sl_ua : Array (Option Value)}
    {f_uf : Addr} {oc_uf kV_uf dc_uf pm_uf cd_uf ct_uf : Value} {od_uf an_uf : Option Addr} {sl_uf : Array (Option Value)}
    {f_ug : Addr} {oc_ug kV_ug dc_ug pm_ug cd_ug ct_ug : Value} {od_ug an_ug : Option Addr} {sl_ug : Array (Option Value)}
    {f_gi : Addr} {oc_gi kV_gi dc_gi pm_gi cd_gi ct_gi : Value} {od_gi an_gi : Option Addr} {sl_gi : Array (Option Value)}
    {f_ga : Addr} {oc_ga kV_ga dc_ga pm_ga cd_ga ct_ga : Value} {od_ga an_ga : Option Addr} {sl_ga : Array (Option Value)}
    {f_gd : Addr} {oc_gd kV_gd dc_gd pm_gd cd_gd ct_gd : Value} {od_gd an_gd : Option Addr} {sl_gd : Array (Option Value)}
    {f_gl : Addr} {oc_gl kV_gl dc_gl pm_gl cd_gl ct_gl : Value} {od_gl an_gl : Option Addr} {sl_gl : Array (Option Value)}
    {f_gf : Addr} {oc_gf kV_gf dc_gf pm_gf cd_gf ct_gf : Value} {od_gf an_gf : Option Addr} {sl_gf : Array (Option Value)}
    {f_gr : Addr} {oc_gr kV_gr dc_gr pm_gr cd_gr ct_gr : Value} {od_gr an_gr : Option Addr} {sl_gr : Array (Option Value)}
    {f_gu : Addr} {oc_gu kV_gu dc_gu pm_gu cd_gu ct_gu : Value} {od_gu an_gu : Option Addr} {sl_gu : Array (Option Value)}
    {f_gF : Addr} {oc_gF kV_gF dc_gF pm_gF cd_gF ct_gF : Value} {od_gF an_gF : Option Addr} {sl_gF : Array (Option Value)}
    {f_gP : Addr} {oc_gP kV_gP dc_gP pm_gP cd_gP ct_gP : Value} {od_gP an_gP : Option Addr} {sl_gP : Array (Option Value)}
    {f_gn c_gn : Addr} {oc_gn kV_gn dc_gn pm_gn ct_gn : Value} {od_gn an_gn : Option Addr} {sl_gn : Array (Option Value)}
    {f_ge : Addr} {oc_ge kV_ge dc_ge pm_ge cd_ge ct_ge : Value} {od_ge an_ge : Option Addr} {sl_ge : Array (Option Value)}
    {f_gk : Addr} {oc_gk kV_gk dc_gk pm_gk cd_gk ct_gk : Value} {od_gk an_gk : Option Addr} {sl_gk : Array (Option Value)}
    {f_gp : Addr} {oc_gp kV_gp dc_gp pm_gp cd_gp ct_gp : Value} {od_gp an_gp : Option Addr} {sl_gp : Array (Option Value)}
    {t0 : Tok}
    {t1 : Tok}
    {t2 : Tok}
    {t3 : Tok}
    {t4 : Tok}
    {t5 : Tok}
    {t6 : Tok}
    {t7 : Tok}
    {t8 : Tok}
    {cM cR : Addr}
    {f1 : Addr}
    {oc1 kV1 dc1 pm1 ct1 : Value} {od1 an1 : Option Addr} {cda cc : Addr} {sl1 : Array (Option Value)}
    {ccl : Value} {ccd : Option Addr} {ccs : Array (Option Value)}
    {dcl : Value} {dcd : Option Addr} {dcs : Array (Option Value)} {vs : Array Value}
    {file : Str} {tf : Tok}
    {bd : Addr}
    {eb : Array DictEntry} {nb : Nat}
    {w1 w2 : Tok}
    {ca : Addr}
    {ec : Array DictEntry} {nc_ : Nat}
    {q0 : Tok}
    {q1 : Tok}
    {q2 : Tok}
    {q3 : Tok}
    {q4 : Tok}
    {cU : Addr}
    {cC : Addr}
    {cK : Addr}
    {cL : Addr}
    {cG : Addr}
    (X : K.In h) (G : h.Ns mainGlobals mg) (hfa : mg "law" = some (.ref fa))
    (tb1 : PySem.W.CodeHd h c_ia B1 ∧ h.get? B1 = some { cls := .none, data := .fields #[] }) (nB1 : K.lookup B1 = none)
    (tb2 : PySem.W.CodeHd h c_ip B2 ∧ h.get? B2 = some { cls := .none, data := .fields #[] }) (nB2 : K.lookup B2 = none)
    (tb3 : PySem.W.CodeHd h c_sw B3 ∧ h.get? B3 = some { cls := .none, data := .fields #[] }) (nB3 : K.lookup B3 = none)
    (tb4 : PySem.W.CodeHd h c_gn B4 ∧ h.get? B4 = some { cls := .none, data := .fields #[] }) (nB4 : K.lookup B4 = none)
    (cMo : ∃ t, mg "_MODULUS" = some (.int 2305843009213693951 t))
    (a_ia : PySem.W.nsIn K mainGlobals "is_address" = some (some (.ref f_ia)))
    (l_ia : K.lookup f_ia = some ⟨oc_ia, od_ia, .func (PySem.W.fnOf "is_address" "is_address" (defArgs s_is_address) (defBody s_is_address) (defScope s_is_address) .none kV_ia dc_ia pm_ia an_ia (.ref c_ia) ct_ia), sl_ia⟩)
    (cc_ia : PySem.W.codeIn K (.ref c_ia) "is_address" = true)
    (k_ia : PySem.W.keepIn K (.ref f_ia) = true)
    (a_ip : PySem.W.nsIn K mainGlobals "_is_platform" = some (some (.ref f_ip)))
    (l_ip : K.lookup f_ip = some ⟨oc_ip, od_ip, .func (PySem.W.fnOf "_is_platform" "_is_platform" (defArgs s_is_platform) (defBody s_is_platform) (defScope s_is_platform) .none kV_ip dc_ip pm_ip an_ip (.ref c_ip) ct_ip), sl_ip⟩)
    (cc_ip : PySem.W.codeIn K (.ref c_ip) "_is_platform" = true)
    (k_ip : PySem.W.keepIn K (.ref f_ip) = true)
    (a_ad : PySem.W.nsIn K mainGlobals "address_of" = some (some (.ref f_ad)))
    (l_ad : K.lookup f_ad = some ⟨oc_ad, od_ad, .func (PySem.W.fnOf "address_of" "address_of" (defArgs s_address_of) (defBody s_address_of) (defScope s_address_of) .none kV_ad dc_ad pm_ad an_ad cd_ad ct_ad), sl_ad⟩)
    (cc_ad : PySem.W.codeIn K cd_ad "address_of" = true)
    (k_ad : PySem.W.keepIn K (.ref f_ad) = true)
    (a_it : PySem.W.nsIn K mainGlobals "image_text" = some (some (.ref f_it)))
    (l_it : K.lookup f_it = some ⟨oc_it, od_it, .func (PySem.W.fnOf "image_text" "image_text" (defArgs s_image_text) (defBody s_image_text) (defScope s_image_text) .none kV_it dc_it pm_it an_it cd_it ct_it), sl_it⟩)
    (cc_it : PySem.W.codeIn K cd_it "image_text" = true)
    (k_it : PySem.W.keepIn K (.ref f_it) = true)
    (a_bt : PySem.W.nsIn K mainGlobals "bundle_text" = some (some (.ref f_bt)))
    (l_bt : K.lookup f_bt = some ⟨oc_bt, od_bt, .func (PySem.W.fnOf "bundle_text" "bundle_text" (defArgs s_bundle_text) (defBody s_bundle_text) (defScope s_bundle_text) .none kV_bt dc_bt pm_bt an_bt cd_bt ct_bt), sl_bt⟩)
    (cc_bt : PySem.W.codeIn K cd_bt "bundle_text" = true)
    (k_bt : PySem.W.keepIn K (.ref f_bt) = true)
    (a_ri : PySem.W.nsIn K mainGlobals "read_image" = some (some (.ref f_ri)))
    (l_ri : K.lookup f_ri = some ⟨oc_ri, od_ri, .func (PySem.W.fnOf "read_image" "read_image" (defArgs s_read_image) (defBody s_read_image) (defScope s_read_image) .none kV_ri dc_ri pm_ri an_ri cd_ri ct_ri), sl_ri⟩)
    (cc_ri : PySem.W.codeIn K cd_ri "read_image" = true)
    (k_ri : PySem.W.keepIn K (.ref f_ri) = true)
    (a_rb : PySem.W.nsIn K mainGlobals "read_bundle" = some (some (.ref f_rb)))
    (l_rb : K.lookup f_rb = some ⟨oc_rb, od_rb, .func (PySem.W.fnOf "read_bundle" "read_bundle" (defArgs s_read_bundle) (defBody s_read_bundle) (defScope s_read_bundle) .none kV_rb dc_rb pm_rb an_rb cd_rb ct_rb), sl_rb⟩)
    (cc_rb : PySem.W.codeIn K cd_rb "read_bundle" = true)
    (k_rb : PySem.W.keepIn K (.ref f_rb) = true)
    (a_rf : PySem.W.nsIn K mainGlobals "references" = some (some (.ref f_rf)))
    (l_rf : K.lookup f_rf = some ⟨oc_rf, od_rf, .func (PySem.W.fnOf "references" "references" (defArgs s_references) (defBody s_references) (defScope s_references) .none kV_rf dc_rf pm_rf an_rf cd_rf ct_rf), sl_rf⟩)
    (cc_rf : PySem.W.codeIn K cd_rf "references" = true)
    (k_rf : PySem.W.keepIn K (.ref f_rf) = true)
    (a_to : PySem.W.nsIn K mainGlobals "_text_of" = some (some (.ref f_to)))
    (l_to : K.lookup f_to = some ⟨oc_to, od_to, .func (PySem.W.fnOf "_text_of" "_text_of" (defArgs s_text_of) (defBody s_text_of) (defScope s_text_of) .none kV_to dc_to pm_to an_to cd_to ct_to), sl_to⟩)
    (cc_to : PySem.W.codeIn K cd_to "_text_of" = true)
    (k_to : PySem.W.keepIn K (.ref f_to) = true)
    (a_lb : PySem.W.nsIn K mainGlobals "_lines_behind" = some (some (.ref f_lb)))
    (l_lb : K.lookup f_lb = some ⟨oc_lb, od_lb, .func (PySem.W.fnOf "_lines_behind" "_lines_behind" (defArgs s_lines_behind) (defBody s_lines_behind) (defScope s_lines_behind) .none kV_lb dc_lb pm_lb an_lb cd_lb ct_lb), sl_lb⟩)
    (cc_lb : PySem.W.codeIn K cd_lb "_lines_behind" = true)
    (k_lb : PySem.W.keepIn K (.ref f_lb) = true)
    (a_ls : PySem.W.nsIn K mainGlobals "_law_state" = some (some (.ref f_ls)))
    (l_ls : K.lookup f_ls = some ⟨oc_ls, od_ls, .func (PySem.W.fnOf "_law_state" "_law_state" (defArgs s_law_state) (defBody s_law_state) (defScope s_law_state) .none kV_ls dc_ls pm_ls an_ls cd_ls ct_ls), sl_ls⟩)
    (cc_ls : PySem.W.codeIn K cd_ls "_law_state" = true)
    (k_ls : PySem.W.keepIn K (.ref f_ls) = true)
    (a_lt : PySem.W.nsIn K mainGlobals "_law_take" = some (some (.ref f_lt)))
    (l_lt : K.lookup f_lt = some ⟨oc_lt, od_lt, .func (PySem.W.fnOf "_law_take" "_law_take" (defArgs s_law_take) (defBody s_law_take) (defScope s_law_take) .none kV_lt dc_lt pm_lt an_lt cd_lt ct_lt), sl_lt⟩)
    (cc_lt : PySem.W.codeIn K cd_lt "_law_take" = true)
    (k_lt : PySem.W.keepIn K (.ref f_lt) = true)
    (a_lx : PySem.W.nsIn K mainGlobals "_law_text" = some (some (.ref f_lx)))
    (l_lx : K.lookup f_lx = some ⟨oc_lx, od_lx, .func (PySem.W.fnOf "_law_text" "_law_text" (defArgs s_law_text) (defBody s_law_text) (defScope s_law_text) .none kV_lx dc_lx pm_lx an_lx cd_lx ct_lx), sl_lx⟩)
    (cc_lx : PySem.W.codeIn K cd_lx "_law_text" = true)
    (k_lx : PySem.W.keepIn K (.ref f_lx) = true)
    (a_lr : PySem.W.nsIn K mainGlobals "_law_refs" = some (some (.ref f_lr)))
    (l_lr : K.lookup f_lr = some ⟨oc_lr, od_lr, .func (PySem.W.fnOf "_law_refs" "_law_refs" (defArgs s_law_refs) (defBody s_law_refs) (defScope s_law_refs) .none kV_lr dc_lr pm_lr an_lr cd_lr ct_lr), sl_lr⟩)
    (cc_lr : PySem.W.codeIn K cd_lr "_law_refs" = true)
    (k_lr : PySem.W.keepIn K (.ref f_lr) = true)
    (a_lh : PySem.W.nsIn K mainGlobals "_law_whole" = some (some (.ref f_lh)))
    (l_lh : K.lookup f_lh = some ⟨oc_lh, od_lh, .func (PySem.W.fnOf "_law_whole" "_law_whole" (defArgs s_law_whole) (defBody s_law_whole) (defScope s_law_whole) .none kV_lh dc_lh pm_lh an_lh cd_lh ct_lh), sl_lh⟩)
    (cc_lh : PySem.W.codeIn K cd_lh "_law_whole" = true)
    (k_lh : PySem.W.keepIn K (.ref f_lh) = true)
    (a_lk : PySem.W.nsIn K mainGlobals "_law_kept" = some (some (.ref f_lk)))
    (l_lk : K.lookup f_lk = some ⟨oc_lk, od_lk, .func (PySem.W.fnOf "_law_kept" "_law_kept" (defArgs s_law_kept) (defBody s_law_kept) (defScope s_law_kept) .none kV_lk dc_lk pm_lk an_lk cd_lk ct_lk), sl_lk⟩)
    (cc_lk : PySem.W.codeIn K cd_lk "_law_kept" = true)
    (k_lk : PySem.W.keepIn K (.ref f_lk) = true)
    (a_lf : PySem.W.nsIn K mainGlobals "_law_finish" = some (some (.ref f_lf)))
    (l_lf : K.lookup f_lf = some ⟨oc_lf, od_lf, .func (PySem.W.fnOf "_law_finish" "_law_finish" (defArgs s_law_finish) (defBody s_law_finish) (defScope s_law_finish) .none kV_lf dc_lf pm_lf an_lf cd_lf ct_lf), sl_lf⟩)
    (cc_lf : PySem.W.codeIn K cd_lf "_law_finish" = true)
    (k_lf : PySem.W.keepIn K (.ref f_lf) = true)
    (a_lp : PySem.W.nsIn K mainGlobals "_law_put" = some (some (.ref f_lp)))
    (l_lp : K.lookup f_lp = some ⟨oc_lp, od_lp, .func (PySem.W.fnOf "_law_put" "_law_put" (defArgs s_law_put) (defBody s_law_put) (defScope s_law_put) .none kV_lp dc_lp pm_lp an_lp cd_lp ct_lp), sl_lp⟩)
    (cc_lp : PySem.W.codeIn K cd_lp "_law_put" = true)
    (k_lp : PySem.W.keepIn K (.ref f_lp) = true)
    (a_lc : PySem.W.nsIn K mainGlobals "_law_claimed" = some (some (.ref f_lc)))
    (l_lc : K.lookup f_lc = some ⟨oc_lc, od_lc, .func (PySem.W.fnOf "_law_claimed" "_law_claimed" (defArgs s_law_claimed) (defBody s_law_claimed) (defScope s_law_claimed) .none kV_lc dc_lc pm_lc an_lc cd_lc ct_lc), sl_lc⟩)
    (cc_lc : PySem.W.codeIn K cd_lc "_law_claimed" = true)
    (k_lc : PySem.W.keepIn K (.ref f_lc) = true)
    (a_la : PySem.W.nsIn K mainGlobals "_law_answer" = some (some (.ref f_la)))
    (l_la : K.lookup f_la = some ⟨oc_la, od_la, .func (PySem.W.fnOf "_law_answer" "_law_answer" (defArgs s_law_answer) (defBody s_law_answer) (defScope s_law_answer) .none kV_la dc_la pm_la an_la cd_la ct_la), sl_la⟩)
    (cc_la : PySem.W.codeIn K cd_la "_law_answer" = true)
    (k_la : PySem.W.keepIn K (.ref f_la) = true)
    (a_lo : PySem.W.nsIn K mainGlobals "_law_without" = some (some (.ref f_lo)))
    (l_lo : K.lookup f_lo = some ⟨oc_lo, od_lo, .func (PySem.W.fnOf "_law_without" "_law_without" (defArgs s_law_without) (defBody s_law_without) (defScope s_law_without) .none kV_lo dc_lo pm_lo an_lo cd_lo ct_lo), sl_lo⟩)
    (cc_lo : PySem.W.codeIn K cd_lo "_law_without" = true)
    (k_lo : PySem.W.keepIn K (.ref f_lo) = true)
    (a_ld : PySem.W.nsIn K mainGlobals "_law_address" = some (some (.ref f_ld)))
    (l_ld : K.lookup f_ld = some ⟨oc_ld, od_ld, .func (PySem.W.fnOf "_law_address" "_law_address" (defArgs s_law_address) (defBody s_law_address) (defScope s_law_address) .none kV_ld dc_ld pm_ld an_ld cd_ld ct_ld), sl_ld⟩)
    (cc_ld : PySem.W.codeIn K cd_ld "_law_address" = true)
    (k_ld : PySem.W.keepIn K (.ref f_ld) = true)
    (a_le : PySem.W.nsIn K mainGlobals "_law_text_of" = some (some (.ref f_le)))
    (l_le : K.lookup f_le = some ⟨oc_le, od_le, .func (PySem.W.fnOf "_law_text_of" "_law_text_of" (defArgs s_law_text_of) (defBody s_law_text_of) (defScope s_law_text_of) .none kV_le dc_le pm_le an_le cd_le ct_le), sl_le⟩)
    (cc_le : PySem.W.codeIn K cd_le "_law_text_of" = true)
    (k_le : PySem.W.keepIn K (.ref f_le) = true)
    (a_lq : PySem.W.nsIn K mainGlobals "_law_request" = some (some (.ref f_lq)))
    (l_lq : K.lookup f_lq = some ⟨oc_lq, od_lq, .func (PySem.W.fnOf "_law_request" "_law_request" (defArgs s_law_request) (defBody s_law_request) (defScope s_law_request) .none kV_lq dc_lq pm_lq an_lq cd_lq ct_lq), sl_lq⟩)
    (cc_lq : PySem.W.codeIn K cd_lq "_law_request" = true)
    (k_lq : PySem.W.keepIn K (.ref f_lq) = true)
    (a_ln : PySem.W.nsIn K mainGlobals "_law_roots" = some (some (.ref f_ln)))
    (l_ln : K.lookup f_ln = some ⟨oc_ln, od_ln, .func (PySem.W.fnOf "_law_roots" "_law_roots" (defArgs s_law_roots) (defBody s_law_roots) (defScope s_law_roots) .none kV_ln dc_ln pm_ln an_ln cd_ln ct_ln), sl_ln⟩)
    (cc_ln : PySem.W.codeIn K cd_ln "_law_roots" = true)
    (k_ln : PySem.W.keepIn K (.ref f_ln) = true)
    (a_lw : PySem.W.nsIn K mainGlobals "law" = some (some (.ref f_lw)))
    (l_lw : K.lookup f_lw = some ⟨oc_lw, od_lw, .func (PySem.W.fnOf "law" "law" (defArgs s_law) (defBody s_law) (defScope s_law) .none kV_lw dc_lw pm_lw an_lw cd_lw ct_lw), sl_lw⟩)
    (cc_lw : PySem.W.codeIn K cd_lw "law" = true)
    (k_lw : PySem.W.keepIn K (.ref f_lw) = true)
    (z0 : PySem.W.nsIn K mainGlobals "len" = some none)
    (z1 : PySem.W.nsIn K mainGlobals "int" = some none)
    (z2 : PySem.W.nsIn K mainGlobals "abs" = some none)
    (z3 : PySem.W.nsIn K mainGlobals "all" = some none)
    (z4 : PySem.W.nsIn K mainGlobals "range" = some none)
    (z5 : PySem.W.nsIn K mainGlobals "isinstance" = some none)
    (z6 : PySem.W.nsIn K mainGlobals "str" = some none)
    (z7 : PySem.W.nsIn K mainGlobals "bool" = some none)
    (z8 : PySem.W.nsIn K mainGlobals "list" = some none)
    (z9 : PySem.W.nsIn K mainGlobals "enumerate" = some none)
    (z10 : PySem.W.nsIn K mainGlobals "super" = some none)
    (z11 : PySem.W.nsIn K mainGlobals "ValueError" = some none)
    (z12 : PySem.W.nsIn K mainGlobals "ord" = some none)
    (z13 : PySem.W.nsIn K mainGlobals "repr" = some none)
    (z14 : PySem.W.nsIn K mainGlobals "sorted" = some none)
    (z15 : PySem.W.nsIn K mainGlobals "set" = some none)
    (z16 : PySem.W.nsIn K mainGlobals "any" = some none)
    (z17 : PySem.W.nsIn K mainGlobals "tuple" = some none)
    (v0 : PySem.W.nsIn K mainGlobals "_FACTOR" = some (some (.int 257 t0)))
    (v1 : PySem.W.nsIn K mainGlobals "_DIGITS" = some (some (.str "0123456789abcdef" t1)))
    (v2 : PySem.W.nsIn K mainGlobals "_LENGTH" = some (some (.int 16 t2)))
    (v3 : PySem.W.nsIn K mainGlobals "_IMAGE" = some (some (.str "image" t3)))
    (v4 : PySem.W.nsIn K mainGlobals "_BUNDLE" = some (some (.str "bundle" t4)))
    (v5 : PySem.W.nsIn K mainGlobals "_MOST_LINES" = some (some (.int 50 t5)))
    (v6 : PySem.W.nsIn K mainGlobals "_LETTERS" = some (some (.str "abcdefghijklmnopqrstuvwxyz" t6)))
    (v7 : PySem.W.nsIn K mainGlobals "_LONGEST_PLATFORM" = some (some (.int 10 t7)))
    (v8 : PySem.W.nsIn K mainGlobals "_IDLE" = some (some (.str "idle" t8)))
    (gM : PySem.W.nsIn K mainGlobals "Malformed" = some (some (.ref cM)))
    (gR : PySem.W.nsIn K mainGlobals "Refused" = some (some (.ref cR)))
    (xM : ∃ nm q N bs bm sn sub ab col dd k0 k1 k2 k3 k5, K.lookup cM = some (excClassObj nm q cM N bs bm true sn sub ab col dd k0 k1 k2 k3 k5 "ValueError.__new__") ∧ PySem.HandSPX.refsVE bm = true)
    (sa : PySem.W.findIn K (.ref cM) "__setattr__" = some (some (.builtin "object.__setattr__")))
    (nL : PySem.W.findIn K (.ref cM) "line" = some none)
    (a1 : PySem.W.findIn K (.ref cM) "__init__" = some (some (.ref f1)))
    (t1f : PySem.W.typeIn K (.ref f1) = some (.type "function"))
    (l1 : K.lookup f1 = some ⟨oc1, od1, .func (PySem.W.ksFn "__init__" "Malformed.__init__" (defArgs s_init) (defBody s_init) (defScope s_init) .none kV1 dc1 pm1 an1 (.ref cda) ct1 cc), sl1⟩)
    (c1 : PySem.W.codeIn K (.ref cda) "Malformed.__init__" = true)
    (xc : K.lookup cc = some ⟨ccl, ccd, .cell (some (.ref cM)), ccs⟩)
    (xd : K.lookup cda = some ⟨dcl, dcd, .fields vs, dcs⟩)
    (xe : vs[2]? = some (.str file tf))
    (xf : ((l.prog.main.file : Str) == file) = true)
    (tp : (l.prog.main.scope.names.lookup ("super" : Str)).isSome = false)
    (op : PySem.W.nsIn K cStatics "thirdparty.any" = some none)
    (ow : PySem.W.mroIn K cM (.ref cM) = some true)
    (su : PySem.W.ks_superIn K cM cM "__init__" = some (some (.builtin "ValueError.__init__")))
    (sv : PySem.W.subIn K (.ref cM) (.type "ValueError") = some true)
    (kC : PySem.W.keepIn K (.ref cM) = true)
    (eC : PySem.W.subIn K (.ref cM) (.type "BaseException") = some true)
    (tC : PySem.W.typeIn K (.ref cM) = some (.type "type"))
    (hC : PySem.W.hasDictIn K cM = true)
    (sC : PySem.W.subIn K (.ref cM) (.ref cM) = some true)
    (KDS : ∃ kd, mg "KINDS" = some (.ref kd) ∧ ∃ (o : Obj) (its : Array Value) (n : Nat), K.lookup kd = some o ∧ o.cls = .type "tuple" ∧ o.dict = none ∧ o.data = .seq its n ∧ its.size ≤ sizeLine ∧ Vals (kinds.map V.str) its.toList)
    (aBE : PySem.W.nsIn K mainGlobals "BELOW" = some (some (.ref bd)))
    (lBE : K.lookup bd = some ⟨.type "dict", none, .dict eb nb, #[]⟩)
    (vBE1 : PySem.W.nsIn K bd "image" = some (some (.str "layer" w1)))
    (vBE2 : PySem.W.nsIn K bd "bundle" = some (some (.str "image" w2)))
    (aCA : PySem.W.nsIn K mainGlobals "_CLAIM_AT" = some (some (.ref ca)))
    (lCA : K.lookup ca = some ⟨.type "dict", none, .dict ec nc_, #[]⟩)
    (vCA0 : PySem.W.nsIn K ca "has" = some (some (.int 1 q0)))
    (vCA1 : PySem.W.nsIn K ca "start" = some (some (.int 1 q1)))
    (vCA2 : PySem.W.nsIn K ca "finish" = some (some (.int 2 q2)))
    (vCA3 : PySem.W.nsIn K ca "put" = some (some (.int 1 q3)))
    (vCA4 : PySem.W.nsIn K ca "name" = some (some (.int 1 q4)))
    (nCA0 : PySem.W.nsIn K ca "open" = some none)
    (nCA1 : PySem.W.nsIn K ca "part" = some none)
    (nCA2 : PySem.W.nsIn K ca "close" = some none)
    (nCA3 : PySem.W.nsIn K ca "look" = some none)
    (nCA4 : PySem.W.nsIn K ca "get" = some none)
    (nCA5 : PySem.W.nsIn K ca "drop" = some none)
    (g_cU : PySem.W.nsIn K mainGlobals "Store" = some (some (.ref cU)))
    (pg_cU : PySem.W.plainGet K cU Str.empty = true)
    (hd_cU : PySem.W.hasDictIn K cU = true)
    (po_cU : PySem.W.plainOver K cU = true)
    (sa_cU : PySem.W.findIn K (.ref cU) "__setattr__" = some (some (.builtin "object.__setattr__")))
    (mk_cU : PySem.W.makesIn K cU = true)
    (kc_cU : PySem.W.keepIn K (.ref cU) = true)
    (g_cC : PySem.W.nsIn K mainGlobals "Collector" = some (some (.ref cC)))
    (pg_cC : PySem.W.plainGet K cC Str.empty = true)
    (hd_cC : PySem.W.hasDictIn K cC = true)
    (po_cC : PySem.W.plainOver K cC = true)
    (sa_cC : PySem.W.findIn K (.ref cC) "__setattr__" = some (some (.builtin "object.__setattr__")))
    (mk_cC : PySem.W.makesIn K cC = true)
    (kc_cC : PySem.W.keepIn K (.ref cC) = true)
    (g_cK : PySem.W.nsIn K mainGlobals "Claims" = some (some (.ref cK)))
    (pg_cK : PySem.W.plainGet K cK Str.empty = true)
    (hd_cK : PySem.W.hasDictIn K cK = true)
    (po_cK : PySem.W.plainOver K cK = true)
    (sa_cK : PySem.W.findIn K (.ref cK) "__setattr__" = some (some (.builtin "object.__setattr__")))
    (mk_cK : PySem.W.makesIn K cK = true)
    (kc_cK : PySem.W.keepIn K (.ref cK) = true)
    (g_cL : PySem.W.nsIn K mainGlobals "Uploads" = some (some (.ref cL)))
    (pg_cL : PySem.W.plainGet K cL Str.empty = true)
    (hd_cL : PySem.W.hasDictIn K cL = true)
    (po_cL : PySem.W.plainOver K cL = true)
    (sa_cL : PySem.W.findIn K (.ref cL) "__setattr__" = some (some (.builtin "object.__setattr__")))
    (mk_cL : PySem.W.makesIn K cL = true)
    (kc_cL : PySem.W.keepIn K (.ref cL) = true)
    (g_cG : PySem.W.nsIn K mainGlobals "Registry" = some (some (.ref cG)))
    (pg_cG : PySem.W.plainGet K cG Str.empty = true)
    (hd_cG : PySem.W.hasDictIn K cG = true)
    (po_cG : PySem.W.plainOver K cG = true)
    (sa_cG : PySem.W.findIn K (.ref cG) "__setattr__" = some (some (.builtin "object.__setattr__")))
    (mk_cG : PySem.W.makesIn K cG = true)
    (kc_cG : PySem.W.keepIn K (.ref cG) = true)
    (nB : PySem.W.findIn K (.ref cU) "_blobs" = some none)
    (ncC0 : PySem.W.findIn K (.ref cC) "_store" = some none)
    (ncC1 : PySem.W.findIn K (.ref cC) "_waiting" = some none)
    (ncC2 : PySem.W.findIn K (.ref cC) "phase" = some none)
    (ncC3 : PySem.W.findIn K (.ref cC) "marked" = some none)
    (ncK0 : PySem.W.findIn K (.ref cK) "_last" = some none)
    (ncK1 : PySem.W.findIn K (.ref cK) "_pins" = some none)
    (ncL0 : PySem.W.findIn K (.ref cL) "_last" = some none)
    (ncL1 : PySem.W.findIn K (.ref cL) "_texts" = some none)
    (ncG0 : PySem.W.findIn K (.ref cG) "store" = some none)
    (ncG1 : PySem.W.findIn K (.ref cG) "names" = some none)
    (ncG2 : PySem.W.findIn K (.ref cG) "claims" = some none)
    (ncG3 : PySem.W.findIn K (.ref cG) "uploads" = some none)
    (ncG4 : PySem.W.findIn K (.ref cG) "collector" = some none)
    (a_si : PySem.W.findIn K (.ref cU) "__init__" = some (some (.ref f_si)))
    (i_si : PySem.W.isFn K (.ref f_si) = true)
    (l_si : K.lookup f_si = some ⟨oc_si, od_si, .func (PySem.W.fnOf "__init__" "Store.__init__" (defArgs s_Store___init) (defBody s_Store___init) (defScope s_Store___init) .none kV_si dc_si pm_si an_si cd_si ct_si), sl_si⟩)
    (cc_si : PySem.W.codeIn K cd_si "Store.__init__" = true)
    (k_si : PySem.W.keepIn K (.ref f_si) = true)
    (a_sk : PySem.W.findIn K (.ref cU) "keep" = some (some (.ref f_sk)))
    (i_sk : PySem.W.isFn K (.ref f_sk) = true)
    (l_sk : K.lookup f_sk = some ⟨oc_sk, od_sk, .func (PySem.W.fnOf "keep" "Store.keep" (defArgs s_Store_keep) (defBody s_Store_keep) (defScope s_Store_keep) .none kV_sk dc_sk pm_sk an_sk cd_sk ct_sk), sl_sk⟩)
    (cc_sk : PySem.W.codeIn K cd_sk "Store.keep" = true)
    (k_sk : PySem.W.keepIn K (.ref f_sk) = true)
    (a_sb : PySem.W.findIn K (.ref cU) "blob" = some (some (.ref f_sb)))
    (i_sb : PySem.W.isFn K (.ref f_sb) = true)
    (l_sb : K.lookup f_sb = some ⟨oc_sb, od_sb, .func (PySem.W.fnOf "blob" "Store.blob" (defArgs s_Store_blob) (defBody s_Store_blob) (defScope s_Store_blob) .none kV_sb dc_sb pm_sb an_sb cd_sb ct_sb), sl_sb⟩)
    (cc_sb : PySem.W.codeIn K cd_sb "Store.blob" = true)
    (k_sb : PySem.W.keepIn K (.ref f_sb) = true)
    (a_sd : PySem.W.findIn K (.ref cU) "addresses" = some (some (.ref f_sd)))
    (i_sd : PySem.W.isFn K (.ref f_sd) = true)
    (l_sd : K.lookup f_sd = some ⟨oc_sd, od_sd, .func (PySem.W.fnOf "addresses" "Store.addresses" (defArgs s_Store_addresses) (defBody s_Store_addresses) (defScope s_Store_addresses) .none kV_sd dc_sd pm_sd an_sd cd_sd ct_sd), sl_sd⟩)
    (cc_sd : PySem.W.codeIn K cd_sd "Store.addresses" = true)
    (k_sd : PySem.W.keepIn K (.ref f_sd) = true)
    (a_sl : PySem.W.findIn K (.ref cU) "below" = some (some (.ref f_sl)))
    (i_sl : PySem.W.isFn K (.ref f_sl) = true)
    (l_sl : K.lookup f_sl = some ⟨oc_sl, od_sl, .func (PySem.W.fnOf "below" "Store.below" (defArgs s_Store_below) (defBody s_Store_below) (defScope s_Store_below) .none kV_sl dc_sl pm_sl an_sl cd_sl ct_sl), sl_sl⟩)
    (cc_sl : PySem.W.codeIn K cd_sl "Store.below" = true)
    (k_sl : PySem.W.keepIn K (.ref f_sl) = true)
    (a_sc : PySem.W.findIn K (.ref cU) "closure" = some (some (.ref f_sc)))
    (i_sc : PySem.W.isFn K (.ref f_sc) = true)
    (l_sc : K.lookup f_sc = some ⟨oc_sc, od_sc, .func (PySem.W.fnOf "closure" "Store.closure" (defArgs s_Store_closure) (defBody s_Store_closure) (defScope s_Store_closure) .none kV_sc dc_sc pm_sc an_sc cd_sc ct_sc), sl_sc⟩)
    (cc_sc : PySem.W.codeIn K cd_sc "Store.closure" = true)
    (k_sc : PySem.W.keepIn K (.ref f_sc) = true)
    (a_so : PySem.W.findIn K (.ref cU) "is_whole_of" = some (some (.ref f_so)))
    (i_so : PySem.W.isFn K (.ref f_so) = true)
    (l_so : K.lookup f_so = some ⟨oc_so, od_so, .func (PySem.W.fnOf "is_whole_of" "Store.is_whole_of" (defArgs s_Store__is_whole_of) (defBody s_Store__is_whole_of) (defScope s_Store__is_whole_of) .none kV_so dc_so pm_so an_so cd_so ct_so), sl_so⟩)
    (cc_so : PySem.W.codeIn K cd_so "Store.is_whole_of" = true)
    (k_so : PySem.W.keepIn K (.ref f_so) = true)
    (a_sg : PySem.W.findIn K (.ref cU) "_gather" = some (some (.ref f_sg)))
    (i_sg : PySem.W.isFn K (.ref f_sg) = true)
    (l_sg : K.lookup f_sg = some ⟨oc_sg, od_sg, .func (PySem.W.fnOf "_gather" "Store._gather" (defArgs s_Store__gather) (defBody s_Store__gather) (defScope s_Store__gather) .none kV_sg dc_sg pm_sg an_sg cd_sg ct_sg), sl_sg⟩)
    (cc_sg : PySem.W.codeIn K cd_sg "Store._gather" = true)
    (k_sg : PySem.W.keepIn K (.ref f_sg) = true)
    (a_sw : PySem.W.findIn K (.ref cU) "is_whole" = some (some (.ref f_sw)))
    (i_sw : PySem.W.isFn K (.ref f_sw) = true)
    (l_sw : K.lookup f_sw = some ⟨oc_sw, od_sw, .func (PySem.W.fnOf "is_whole" "Store.is_whole" (defArgs s_Store_is_whole) (defBody s_Store_is_whole) (defScope s_Store_is_whole) .none kV_sw dc_sw pm_sw an_sw (.ref c_sw) ct_sw), sl_sw⟩)
    (cc_sw : PySem.W.codeIn K (.ref c_sw) "Store.is_whole" = true)
    (k_sw : PySem.W.keepIn K (.ref f_sw) = true)
    (a_ci : PySem.W.findIn K (.ref cC) "__init__" = some (some (.ref f_ci)))
    (i_ci : PySem.W.isFn K (.ref f_ci) = true)
    (l_ci : K.lookup f_ci = some ⟨oc_ci, od_ci, .func (PySem.W.fnOf "__init__" "Collector.__init__" (defArgs s_Collector___init) (defBody s_Collector___init) (defScope s_Collector___init) .none kV_ci dc_ci pm_ci an_ci cd_ci ct_ci), sl_ci⟩)
    (cc_ci : PySem.W.codeIn K cd_ci "Collector.__init__" = true)
    (k_ci : PySem.W.keepIn K (.ref f_ci) = true)
    (a_ch : PySem.W.findIn K (.ref cC) "shade" = some (some (.ref f_ch)))
    (i_ch : PySem.W.isFn K (.ref f_ch) = true)
    (l_ch : K.lookup f_ch = some ⟨oc_ch, od_ch, .func (PySem.W.fnOf "shade" "Collector.shade" (defArgs s_Collector_shade) (defBody s_Collector_shade) (defScope s_Collector_shade) .none kV_ch dc_ch pm_ch an_ch cd_ch ct_ch), sl_ch⟩)
    (cc_ch : PySem.W.codeIn K cd_ch "Collector.shade" = true)
    (k_ch : PySem.W.keepIn K (.ref f_ch) = true)
    (a_co : PySem.W.findIn K (.ref cC) "stop" = some (some (.ref f_co)))
    (i_co : PySem.W.isFn K (.ref f_co) = true)
    (l_co : K.lookup f_co = some ⟨oc_co, od_co, .func (PySem.W.fnOf "stop" "Collector.stop" (defArgs s_Collector_stop) (defBody s_Collector_stop) (defScope s_Collector_stop) .none kV_co dc_co pm_co an_co cd_co ct_co), sl_co⟩)
    (cc_co : PySem.W.codeIn K cd_co "Collector.stop" = true)
    (k_co : PySem.W.keepIn K (.ref f_co) = true)
    (a_ki : PySem.W.findIn K (.ref cK) "__init__" = some (some (.ref f_ki)))
    (i_ki : PySem.W.isFn K (.ref f_ki) = true)
    (l_ki : K.lookup f_ki = some ⟨oc_ki, od_ki, .func (PySem.W.fnOf "__init__" "Claims.__init__" (defArgs s_Claims___init) (defBody s_Claims___init) (defScope s_Claims___init) .none kV_ki dc_ki pm_ki an_ki cd_ki ct_ki), sl_ki⟩)
    (cc_ki : PySem.W.codeIn K cd_ki "Claims.__init__" = true)
    (k_ki : PySem.W.keepIn K (.ref f_ki) = true)
    (a_kb : PySem.W.findIn K (.ref cK) "begin" = some (some (.ref f_kb)))
    (i_kb : PySem.W.isFn K (.ref f_kb) = true)
    (l_kb : K.lookup f_kb = some ⟨oc_kb, od_kb, .func (PySem.W.fnOf "begin" "Claims.begin" (defArgs s_Claims_begin) (defBody s_Claims_begin) (defScope s_Claims_begin) .none kV_kb dc_kb pm_kb an_kb cd_kb ct_kb), sl_kb⟩)
    (cc_kb : PySem.W.codeIn K cd_kb "Claims.begin" = true)
    (k_kb : PySem.W.keepIn K (.ref f_kb) = true)
    (a_ko : PySem.W.findIn K (.ref cK) "is_open" = some (some (.ref f_ko)))
    (i_ko : PySem.W.isFn K (.ref f_ko) = true)
    (l_ko : K.lookup f_ko = some ⟨oc_ko, od_ko, .func (PySem.W.fnOf "is_open" "Claims.is_open" (defArgs s_Claims_is_open) (defBody s_Claims_is_open) (defScope s_Claims_is_open) .none kV_ko dc_ko pm_ko an_ko cd_ko ct_ko), sl_ko⟩)
    (cc_ko : PySem.W.codeIn K cd_ko "Claims.is_open" = true)
    (k_ko : PySem.W.keepIn K (.ref f_ko) = true)
    (a_kp : PySem.W.findIn K (.ref cK) "pin" = some (some (.ref f_kp)))
    (i_kp : PySem.W.isFn K (.ref f_kp) = true)
    (l_kp : K.lookup f_kp = some ⟨oc_kp, od_kp, .func (PySem.W.fnOf "pin" "Claims.pin" (defArgs s_Claims_pin) (defBody s_Claims_pin) (defScope s_Claims_pin) .none kV_kp dc_kp pm_kp an_kp cd_kp ct_kp), sl_kp⟩)
    (cc_kp : PySem.W.codeIn K cd_kp "Claims.pin" = true)
    (k_kp : PySem.W.keepIn K (.ref f_kp) = true)
    (a_ke : PySem.W.findIn K (.ref cK) "end" = some (some (.ref f_ke)))
    (i_ke : PySem.W.isFn K (.ref f_ke) = true)
    (l_ke : K.lookup f_ke = some ⟨oc_ke, od_ke, .func (PySem.W.fnOf "end" "Claims.end" (defArgs s_Claims_end) (defBody s_Claims_end) (defScope s_Claims_end) .none kV_ke dc_ke pm_ke an_ke cd_ke ct_ke), sl_ke⟩)
    (cc_ke : PySem.W.codeIn K cd_ke "Claims.end" = true)
    (k_ke : PySem.W.keepIn K (.ref f_ke) = true)
    (a_kn : PySem.W.findIn K (.ref cK) "numbers" = some (some (.ref f_kn)))
    (i_kn : PySem.W.isFn K (.ref f_kn) = true)
    (l_kn : K.lookup f_kn = some ⟨oc_kn, od_kn, .func (PySem.W.fnOf "numbers" "Claims.numbers" (defArgs s_Claims_numbers) (defBody s_Claims_numbers) (defScope s_Claims_numbers) .none kV_kn dc_kn pm_kn an_kn cd_kn ct_kn), sl_kn⟩)
    (cc_kn : PySem.W.codeIn K cd_kn "Claims.numbers" = true)
    (k_kn : PySem.W.keepIn K (.ref f_kn) = true)
    (a_kq : PySem.W.findIn K (.ref cK) "pinned" = some (some (.ref f_kq)))
    (i_kq : PySem.W.isFn K (.ref f_kq) = true)
    (l_kq : K.lookup f_kq = some ⟨oc_kq, od_kq, .func (PySem.W.fnOf "pinned" "Claims.pinned" (defArgs s_Claims_pinned) (defBody s_Claims_pinned) (defScope s_Claims_pinned) .none kV_kq dc_kq pm_kq an_kq cd_kq ct_kq), sl_kq⟩)
    (cc_kq : PySem.W.codeIn K cd_kq "Claims.pinned" = true)
    (k_kq : PySem.W.keepIn K (.ref f_kq) = true)
    (a_ui : PySem.W.findIn K (.ref cL) "__init__" = some (some (.ref f_ui)))
    (i_ui : PySem.W.isFn K (.ref f_ui) = true)
    (l_ui : K.lookup f_ui = some ⟨oc_ui, od_ui, .func (PySem.W.fnOf "__init__" "Uploads.__init__" (defArgs s_Uploads___init) (defBody s_Uploads___init) (defScope s_Uploads___init) .none kV_ui dc_ui pm_ui an_ui cd_ui ct_ui), sl_ui⟩)
    (cc_ui : PySem.W.codeIn K cd_ui "Uploads.__init__" = true)
    (k_ui : PySem.W.keepIn K (.ref f_ui) = true)
    (a_ub : PySem.W.findIn K (.ref cL) "begin" = some (some (.ref f_ub)))
    (i_ub : PySem.W.isFn K (.ref f_ub) = true)
    (l_ub : K.lookup f_ub = some ⟨oc_ub, od_ub, .func (PySem.W.fnOf "begin" "Uploads.begin" (defArgs s_Uploads_begin) (defBody s_Uploads_begin) (defScope s_Uploads_begin) .none kV_ub dc_ub pm_ub an_ub cd_ub ct_ub), sl_ub⟩)
    (cc_ub : PySem.W.codeIn K cd_ub "Uploads.begin" = true)
    (k_ub : PySem.W.keepIn K (.ref f_ub) = true)
    (a_ua : PySem.W.findIn K (.ref cL) "add_part" = some (some (.ref f_ua)))
    (i_ua : PySem.W.isFn K (.ref f_ua) = true)
    (l_ua : K.lookup f_ua = some ⟨oc_ua, od_ua, .func (PySem.W.fnOf "add_part" "Uploads.add_part" (defArgs s_Uploads_add_part) (defBody s_Uploads_add_part) (defScope s_Uploads_add_part) .none kV_ua dc_ua pm_ua an_ua cd_ua ct_ua), sl_ua⟩)
    (cc_ua : PySem.W.codeIn K cd_ua "Uploads.add_part" = true)
    (k_ua : PySem.W.keepIn K (.ref f_ua) = true)
    (a_uf : PySem.W.findIn K (.ref cL) "finish" = some (some (.ref f_uf)))
    (i_uf : PySem.W.isFn K (.ref f_uf) = true)
    (l_uf : K.lookup f_uf = some ⟨oc_uf, od_uf, .func (PySem.W.fnOf "finish" "Uploads.finish" (defArgs s_Uploads_finish) (defBody s_Uploads_finish) (defScope s_Uploads_finish) .none kV_uf dc_uf pm_uf an_uf cd_uf ct_uf), sl_uf⟩)
    (cc_uf : PySem.W.codeIn K cd_uf "Uploads.finish" = true)
    (k_uf : PySem.W.keepIn K (.ref f_uf) = true)
    (a_ug : PySem.W.findIn K (.ref cL) "forget" = some (some (.ref f_ug)))
    (i_ug : PySem.W.isFn K (.ref f_ug) = true)
    (l_ug : K.lookup f_ug = some ⟨oc_ug, od_ug, .func (PySem.W.fnOf "forget" "Uploads.forget" (defArgs s_Uploads_forget) (defBody s_Uploads_forget) (defScope s_Uploads_forget) .none kV_ug dc_ug pm_ug an_ug cd_ug ct_ug), sl_ug⟩)
    (cc_ug : PySem.W.codeIn K cd_ug "Uploads.forget" = true)
    (k_ug : PySem.W.keepIn K (.ref f_ug) = true)
    (a_gi : PySem.W.findIn K (.ref cG) "__init__" = some (some (.ref f_gi)))
    (i_gi : PySem.W.isFn K (.ref f_gi) = true)
    (l_gi : K.lookup f_gi = some ⟨oc_gi, od_gi, .func (PySem.W.fnOf "__init__" "Registry.__init__" (defArgs s_Registry___init) (defBody s_Registry___init) (defScope s_Registry___init) .none kV_gi dc_gi pm_gi an_gi cd_gi ct_gi), sl_gi⟩)
    (cc_gi : PySem.W.codeIn K cd_gi "Registry.__init__" = true)
    (k_gi : PySem.W.keepIn K (.ref f_gi) = true)
    (a_ga : PySem.W.findIn K (.ref cG) "answer" = some (some (.ref f_ga)))
    (i_ga : PySem.W.isFn K (.ref f_ga) = true)
    (l_ga : K.lookup f_ga = some ⟨oc_ga, od_ga, .func (PySem.W.fnOf "answer" "Registry.answer" (defArgs s_Registry_answer) (defBody s_Registry_answer) (defScope s_Registry_answer) .none kV_ga dc_ga pm_ga an_ga cd_ga ct_ga), sl_ga⟩)
    (cc_ga : PySem.W.codeIn K cd_ga "Registry.answer" = true)
    (k_ga : PySem.W.keepIn K (.ref f_ga) = true)
    (a_gd : PySem.W.findIn K (.ref cG) "drop_name" = some (some (.ref f_gd)))
    (i_gd : PySem.W.isFn K (.ref f_gd) = true)
    (l_gd : K.lookup f_gd = some ⟨oc_gd, od_gd, .func (PySem.W.fnOf "drop_name" "Registry.drop_name" (defArgs s_Registry_drop_name) (defBody s_Registry_drop_name) (defScope s_Registry_drop_name) .none kV_gd dc_gd pm_gd an_gd cd_gd ct_gd), sl_gd⟩)
    (cc_gd : PySem.W.codeIn K cd_gd "Registry.drop_name" = true)
    (k_gd : PySem.W.keepIn K (.ref f_gd) = true)
    (a_gl : PySem.W.findIn K (.ref cG) "lapse" = some (some (.ref f_gl)))
    (i_gl : PySem.W.isFn K (.ref f_gl) = true)
    (l_gl : K.lookup f_gl = some ⟨oc_gl, od_gl, .func (PySem.W.fnOf "lapse" "Registry.lapse" (defArgs s_Registry_lapse) (defBody s_Registry_lapse) (defScope s_Registry_lapse) .none kV_gl dc_gl pm_gl an_gl cd_gl ct_gl), sl_gl⟩)
    (cc_gl : PySem.W.codeIn K cd_gl "Registry.lapse" = true)
    (k_gl : PySem.W.keepIn K (.ref f_gl) = true)
    (a_gf : PySem.W.findIn K (.ref cG) "fall" = some (some (.ref f_gf)))
    (i_gf : PySem.W.isFn K (.ref f_gf) = true)
    (l_gf : K.lookup f_gf = some ⟨oc_gf, od_gf, .func (PySem.W.fnOf "fall" "Registry.fall" (defArgs s_Registry_fall) (defBody s_Registry_fall) (defScope s_Registry_fall) .none kV_gf dc_gf pm_gf an_gf cd_gf ct_gf), sl_gf⟩)
    (cc_gf : PySem.W.codeIn K cd_gf "Registry.fall" = true)
    (k_gf : PySem.W.keepIn K (.ref f_gf) = true)
    (a_gr : PySem.W.findIn K (.ref cG) "roots" = some (some (.ref f_gr)))
    (i_gr : PySem.W.isFn K (.ref f_gr) = true)
    (l_gr : K.lookup f_gr = some ⟨oc_gr, od_gr, .func (PySem.W.fnOf "roots" "Registry.roots" (defArgs s_Registry_roots) (defBody s_Registry_roots) (defScope s_Registry_roots) .none kV_gr dc_gr pm_gr an_gr cd_gr ct_gr), sl_gr⟩)
    (cc_gr : PySem.W.codeIn K cd_gr "Registry.roots" = true)
    (k_gr : PySem.W.keepIn K (.ref f_gr) = true)
    (a_gu : PySem.W.findIn K (.ref cG) "_answer_under" = some (some (.ref f_gu)))
    (i_gu : PySem.W.isFn K (.ref f_gu) = true)
    (l_gu : K.lookup f_gu = some ⟨oc_gu, od_gu, .func (PySem.W.fnOf "_answer_under" "Registry._answer_under" (defArgs s_Registry__answer_under) (defBody s_Registry__answer_under) (defScope s_Registry__answer_under) .none kV_gu dc_gu pm_gu an_gu cd_gu ct_gu), sl_gu⟩)
    (cc_gu : PySem.W.codeIn K cd_gu "Registry._answer_under" = true)
    (k_gu : PySem.W.keepIn K (.ref f_gu) = true)
    (a_gF : PySem.W.findIn K (.ref cG) "_finish" = some (some (.ref f_gF)))
    (i_gF : PySem.W.isFn K (.ref f_gF) = true)
    (l_gF : K.lookup f_gF = some ⟨oc_gF, od_gF, .func (PySem.W.fnOf "_finish" "Registry._finish" (defArgs s_Registry__finish) (defBody s_Registry__finish) (defScope s_Registry__finish) .none kV_gF dc_gF pm_gF an_gF cd_gF ct_gF), sl_gF⟩)
    (cc_gF : PySem.W.codeIn K cd_gF "Registry._finish" = true)
    (k_gF : PySem.W.keepIn K (.ref f_gF) = true)
    (a_gP : PySem.W.findIn K (.ref cG) "_put" = some (some (.ref f_gP)))
    (i_gP : PySem.W.isFn K (.ref f_gP) = true)
    (l_gP : K.lookup f_gP = some ⟨oc_gP, od_gP, .func (PySem.W.fnOf "_put" "Registry._put" (defArgs s_Registry__put) (defBody s_Registry__put) (defScope s_Registry__put) .none kV_gP dc_gP pm_gP an_gP cd_gP ct_gP), sl_gP⟩)
    (cc_gP : PySem.W.codeIn K cd_gP "Registry._put" = true)
    (k_gP : PySem.W.keepIn K (.ref f_gP) = true)
    (a_gn : PySem.W.findIn K (.ref cG) "_name" = some (some (.ref f_gn)))
    (i_gn : PySem.W.isFn K (.ref f_gn) = true)
    (l_gn : K.lookup f_gn = some ⟨oc_gn, od_gn, .func (PySem.W.fnOf "_name" "Registry._name" (defArgs s_Registry__name) (defBody s_Registry__name) (defScope s_Registry__name) .none kV_gn dc_gn pm_gn an_gn (.ref c_gn) ct_gn), sl_gn⟩)
    (cc_gn : PySem.W.codeIn K (.ref c_gn) "Registry._name" = true)
    (k_gn : PySem.W.keepIn K (.ref f_gn) = true)
    (a_ge : PySem.W.findIn K (.ref cG) "_piece" = some (some (.ref f_ge)))
    (i_ge : PySem.W.isFn K (.ref f_ge) = true)
    (l_ge : K.lookup f_ge = some ⟨oc_ge, od_ge, .func (PySem.W.fnOf "_piece" "Registry._piece" (defArgs s_Registry__piece) (defBody s_Registry__piece) (defScope s_Registry__piece) .none kV_ge dc_ge pm_ge an_ge cd_ge ct_ge), sl_ge⟩)
    (cc_ge : PySem.W.codeIn K cd_ge "Registry._piece" = true)
    (k_ge : PySem.W.keepIn K (.ref f_ge) = true)
    (a_gk : PySem.W.findIn K (.ref cG) "_keep" = some (some (.ref f_gk)))
    (i_gk : PySem.W.isFn K (.ref f_gk) = true)
    (l_gk : K.lookup f_gk = some ⟨oc_gk, od_gk, .func (PySem.W.fnOf "_keep" "Registry._keep" (defArgs s_Registry__keep) (defBody s_Registry__keep) (defScope s_Registry__keep) .none kV_gk dc_gk pm_gk an_gk cd_gk ct_gk), sl_gk⟩)
    (cc_gk : PySem.W.codeIn K cd_gk "Registry._keep" = true)
    (k_gk : PySem.W.keepIn K (.ref f_gk) = true)
    (a_gp : PySem.W.findIn K (.ref cG) "_pin" = some (some (.ref f_gp)))
    (i_gp : PySem.W.isFn K (.ref f_gp) = true)
    (l_gp : K.lookup f_gp = some ⟨oc_gp, od_gp, .func (PySem.W.fnOf "_pin" "Registry._pin" (defArgs s_Registry__pin) (defBody s_Registry__pin) (defScope s_Registry__pin) .none kV_gp dc_gp pm_gp an_gp cd_gp ct_gp), sl_gp⟩)
    (cc_gp : PySem.W.codeIn K cd_gp "Registry._pin" = true)
    (k_gp : PySem.W.keepIn K (.ref f_gp) = true)
    (kBE : PySem.W.KeysLit w.params eb.toList) (kCA : PySem.W.KeysLit w.params ec.toList) (sBE : (bd == sysModules) = false) (sCA : (ca == sysModules) = false) (eB0 : eb.size = 2) (eB1 : ∃ (en : DictEntry) (t : Tok), eb[0]? = some en ∧ en.key = .str "image" t) (eB2 : ∃ (en : DictEntry) (t : Tok), eb[1]? = some en ∧ en.key = .str "bundle" t) :
    ∃ fd cs sp, LawC0 l w K CX0 63 "script" mg fa h fd cs sp := by
  have e := hfa.symm.trans (PySem.W.mg_of X G a_lw)
  cases e
  have T : Tx K mg cM cR cU := ⟨PySem.W.mg_none_of X G z0, PySem.W.mg_none_of X G z1, PySem.W.mg_none_of X G z2, PySem.W.mg_none_of X G z3, PySem.W.mg_none_of X G z4, PySem.W.mg_none_of X G z5, PySem.W.mg_none_of X G z6, PySem.W.mg_none_of X G z7, PySem.W.mg_none_of X G z8, PySem.W.mg_none_of X G z9, PySem.W.mg_none_of X G z10, PySem.W.mg_none_of X G z11, PySem.W.mg_of X G gM, PySem.W.mg_of X G gR, PySem.W.mg_of X G g_cU, ⟨pg_cU, hd_cU, po_cU, sa_cU⟩, nB, PySem.W.mg_none_of X G z12, PySem.W.mg_none_of X G z13, PySem.W.mg_none_of X G z14,
    KDS, ⟨_, PySem.W.mg_of X G v0⟩, cMo, ⟨_, PySem.W.mg_of X G v1⟩, ⟨_, PySem.W.mg_of X G v2⟩, ⟨_, PySem.W.mg_of X G v3⟩, ⟨_, PySem.W.mg_of X G v4⟩, ⟨_, PySem.W.mg_of X G v5⟩, ⟨_, PySem.W.mg_of X G v6⟩, ⟨_, PySem.W.mg_of X G v7⟩⟩
  have TC : Tc K mg cC := ⟨⟨_, PySem.W.mg_of X G v8⟩, PySem.W.mg_none_of X G z15, PySem.W.mg_of X G g_cC, ⟨pg_cC, hd_cC, po_cC, sa_cC⟩, ncC0, ncC1, ncC2, ncC3⟩
  have TK : Tk K mg cK cL := ⟨PySem.W.mg_none_of X G z0, PySem.W.mg_none_of X G z14, PySem.W.mg_none_of X G z15, PySem.W.mg_of X G g_cK, PySem.W.mg_of X G g_cL, ⟨pg_cK, hd_cK, po_cK, sa_cK⟩, ⟨pg_cL, hd_cL, po_cL, sa_cL⟩, ncK0, ncK1, ncL0, ncL1⟩
  have O : OexC K cM := ⟨xM, sa, eC, tC, kC⟩
  have S : SupAt l.prog K cM cc cda := ⟨O, ⟨_, _, _, xc⟩, ⟨_, _, _, _, _, _, xd, xe, xf⟩, tp, op, ow, su, sv⟩
  have IA : InitAt l.prog K cM f1 cc cda _ := ⟨S, ⟨_, _, _, _, _, _, _, _, rfl, l1, c1⟩, nL⟩
  have bI : Binds K (PySem.W.ksFn "__init__" "Malformed.__init__" (defArgs s_init) (defBody s_init) (defScope s_init) .none kV1 dc1 pm1 an1 (.ref cda) ct1 cc) P_init [] := .all fun us hl => match us, hl with | [_, _], _ => rfl
  have MA : MalAt l.prog K mg cM f1 cc cda _ := ⟨IA, a1, t1f, bI⟩
  have bel : BelAt K w mg := ⟨bd, PySem.W.mg_of X G aBE, ⟨_, _, _, lBE, kBE, vBE1, ⟨_, rfl⟩⟩, ⟨_, _, _, lBE, kBE, vBE2, ⟨_, rfl⟩⟩⟩
  have belK : ∀ bd', mg "BELOW" = some (.ref bd') → KKeys K bd' ["image", "bundle"] := fun bd' e => by
    have e := (PySem.W.mg_of X G aBE).symm.trans e
    cases e
    refine ⟨eb, nb, lBE, sBE, eB0, fun i k hk => ?_⟩
    match i, hk with
    | 0, hk => cases hk; exact eB1
    | 1, hk => cases hk; exact eB2
    | i + 2, hk => cases hk
  have cat : ∃ ca es n, mg "_CLAIM_AT" = some (.ref ca) ∧ KDict K w ca es n ∧ (∀ e ∈ claimAt, ∃ t, PySem.W.nsIn K ca e.1 = some (some (.int (e.2 : Int) t))) ∧ ∀ x ∈ noClaim, PySem.W.nsIn K ca x = some none := by
    refine ⟨ca, ec, nc_, PySem.W.mg_of X G aCA, ⟨lCA, kCA, sCA⟩, fun e he => ?_, fun x hx => ?_⟩
    · simp only [claimAt, List.mem_cons, List.not_mem_nil, or_false] at he
      rcases he with rfl | rfl | rfl | rfl | rfl
      · exact ⟨_, vCA0⟩
      · exact ⟨_, vCA1⟩
      · exact ⟨_, vCA2⟩
      · exact ⟨_, vCA3⟩
      · exact ⟨_, vCA4⟩
    · simp only [noClaim, List.mem_cons, List.not_mem_nil, or_false] at hx
      rcases hx with rfl | rfl | rfl | rfl | rfl | rfl
      · exact nCA0
      · exact nCA1
      · exact nCA2
      · exact nCA3
      · exact nCA4
      · exact nCA5
  have TG : Tg K w mg cG := ⟨PySem.W.mg_of X G g_cG, ⟨pg_cG, hd_cG, po_cG, sa_cG⟩, ncG0, ncG1, ncG2, ncG3, ncG4, PySem.W.mg_none_of X G z16, bel, belK, cat⟩
  have DI : DefC K mg "is_address" s_is_address P_is_address f_ia _ c_ia := ⟨⟨⟨_, _, _, _, _, _, _, _, rfl, l_ia, cc_ia⟩, k_ia⟩, PySem.W.mg_of X G a_ia, ((fun_mk (st := s_is_address) l_ia cc_ia k_ia).binds fun _ _ _ _ _ _ us hl => match us, hl with | [_], _ => rfl)⟩
  have DL : DefC K mg "_is_platform" s_is_platform P_is_platform f_ip _ c_ip := ⟨⟨⟨_, _, _, _, _, _, _, _, rfl, l_ip, cc_ip⟩, k_ip⟩, PySem.W.mg_of X G a_ip, ((fun_mk (st := s_is_platform) l_ip cc_ip k_ip).binds fun _ _ _ _ _ _ us hl => match us, hl with | [_], _ => rfl)⟩
  have DB : DefAt K mg "_lines_behind" s_lines_behind P_lines_behind f_lb _ := (⟨(fun_mk (st := s_lines_behind) l_lb cc_lb k_lb), PySem.W.mg_of X G a_lb, ((fun_mk (st := s_lines_behind) l_lb cc_lb k_lb).binds fun _ _ _ _ _ _ us hl => match us, hl with | [_, _], _ => rfl)⟩ : DefAt K mg _ _ _ _ _)
  have DT : DefAt K mg "_text_of" s_text_of P_text_of f_to _ := (⟨(fun_mk (st := s_text_of) l_to cc_to k_to), PySem.W.mg_of X G a_to, ((fun_mk (st := s_text_of) l_to cc_to k_to).binds fun _ _ _ _ _ _ us hl => match us, hl with | [_, _], _ => rfl)⟩ : DefAt K mg _ _ _ _ _)
  refine ⟨PySem.W.fnOf "law" "law" (defArgs s_law) (defBody s_law) (defScope s_law) .none kV_lw dc_lw pm_lw an_lw cd_lw ct_lw, [(c_ia, B1), (c_ip, B2), (c_sw, B3), (c_gn, B4)], sp_law K (CA.mk cG cU cK cL cC B1 B2 B3 B4), ⟨?_, ?_, ?_, ?_, ?_, ?_⟩⟩
  · intro p hp
    rcases List.mem_cons.mp hp with e | hp
    · rw [e]; exact tb1.2
    · rcases List.mem_cons.mp hp with e | hp
      · rw [e]; exact tb2.2
      · rcases List.mem_cons.mp hp with e | hp
        · rw [e]; exact tb3.2
        · rw [List.mem_singleton.mp hp]; exact tb4.2
  · intro p hp
    rcases List.mem_cons.mp hp with e | hp
    · rw [e]; exact nB1
    · rcases List.mem_cons.mp hp with e | hp
      · rw [e]; exact nB2
      · rcases List.mem_cons.mp hp with e | hp
        · rw [e]; exact nB3
        · rw [List.mem_singleton.mp hp]; exact nB4
  · intro p hp
    rcases List.mem_cons.mp hp with e | hp
    · rw [e]; exact tb1.1
    · rcases List.mem_cons.mp hp with e | hp
      · rw [e]; exact tb2.1
      · rcases List.mem_cons.mp hp with e | hp
        · rw [e]; exact tb3.1
        · rw [List.mem_singleton.mp hp]; exact tb4.1
  · exact fun s v => .of_eq rfl
  · intro H a ns hl hH hS
    exact ⟨a, ns, rfl, hS, hl, ⟨⟨#[], hH _ (List.mem_cons_self), True.intro⟩, ⟨#[], hH _ (List.mem_cons_of_mem _ (List.mem_cons_self)), True.intro⟩, ⟨#[], hH _ (List.mem_cons_of_mem _ (List.mem_cons_of_mem _ (List.mem_cons_self))), True.intro⟩, ⟨#[], hH _ (List.mem_cons_of_mem _ (List.mem_cons_of_mem _ (List.mem_cons_of_mem _ (List.mem_cons_self)))), True.intro⟩⟩, fun _ => rfl⟩
  · intro base _ _ hT
    have TI : TabB base mg c_ia B1 := (let t := hT _ (List.mem_cons_self); ⟨t.code, t.bm, t.gP⟩)
    have TL : TabB base mg c_ip B2 := (let t := hT _ (List.mem_cons_of_mem _ (List.mem_cons_self)); ⟨t.code, t.bm, t.gP⟩)
    have TW : TabB base mg c_sw B3 := (let t := hT _ (List.mem_cons_of_mem _ (List.mem_cons_of_mem _ (List.mem_cons_self))); ⟨t.code, t.bm, t.gP⟩)
    have TN : TabB base mg c_gn B4 := (let t := hT _ (List.mem_cons_of_mem _ (List.mem_cons_of_mem _ (List.mem_cons_of_mem _ (List.mem_cons_self)))); ⟨t.code, t.bm, t.gP⟩)
    have MO : Mods l.prog w K mg base cM B1 B2 f_ri f_rb _ _ := ⟨ok_read_image (fun_mk (st := s_read_image) l_ri cc_ri k_ri) T MA DB DI TI, PySem.W.mg_of X G a_ri, k_ri, ((fun_mk (st := s_read_image) l_ri cc_ri k_ri).binds fun _ _ _ _ _ _ us hl => match us, hl with | [_], _ => rfl), ok_read_bundle (fun_mk (st := s_read_bundle) l_rb cc_rb k_rb) T MA DB DI TI DL TL, PySem.W.mg_of X G a_rb, k_rb, ((fun_mk (st := s_read_bundle) l_rb cc_rb k_rb).binds fun _ _ _ _ _ _ us hl => match us, hl with | [_], _ => rfl)⟩
    have C_rf : Cal l.prog w K mg base CX0 5 "references" P_references (spRefs B1 B2) := ⟨_, _, ok_references (fun_mk (st := s_references) l_rf cc_rf k_rf) T MO, PySem.W.mg_of X G a_rf, k_rf, ((fun_mk (st := s_references) l_rf cc_rf k_rf).binds fun _ _ _ _ _ _ us hl => match us, hl with | [_, _], _ => rfl)⟩
    have C_ad : Cal l.prog w K mg base CX0 1 "address_of" P_address_of spAddr := ⟨_, _, ok_address_of (fun_mk (st := s_address_of) l_ad cc_ad k_ad) T, PySem.W.mg_of X G a_ad, k_ad, ((fun_mk (st := s_address_of) l_ad cc_ad k_ad).binds fun _ _ _ _ _ _ us hl => match us, hl with | [_, _], _ => rfl)⟩
    have C_it : Cal l.prog w K mg base CX0 2 "image_text" P_image_text (spImage K) := ⟨_, _, ok_image_text (fun_mk (st := s_image_text) l_it cc_it k_it) T DT, PySem.W.mg_of X G a_it, k_it, ((fun_mk (st := s_image_text) l_it cc_it k_it).binds fun _ _ _ _ _ _ us hl => match us, hl with | [_], _ => rfl)⟩
    have C_bt : Cal l.prog w K mg base CX0 2 "bundle_text" P_bundle_text (spBundle K) := ⟨_, _, ok_bundle_text (fun_mk (st := s_bundle_text) l_bt cc_bt k_bt) T DT, PySem.W.mg_of X G a_bt, k_bt, ((fun_mk (st := s_bundle_text) l_bt cc_bt k_bt).binds fun _ _ _ _ _ _ us hl => match us, hl with | [_], _ => rfl)⟩
    have C_ls : Cal l.prog w K mg base CX0 1 "_law_state" P_law_state (spState K) := ⟨_, _, ok_state (fun_mk (st := s_law_state) l_ls cc_ls k_ls) T, PySem.W.mg_of X G a_ls, k_ls, ((fun_mk (st := s_law_state) l_ls cc_ls k_ls).binds fun _ _ _ _ _ _ us hl => match us, hl with | [_], _ => rfl)⟩
    have C_lt : Cal l.prog w K mg base CX0 1 "_law_take" P_law_take spTake := ⟨_, _, ok_take (fun_mk (st := s_law_take) l_lt cc_lt k_lt) T.len T.int, PySem.W.mg_of X G a_lt, k_lt, ((fun_mk (st := s_law_take) l_lt cc_lt k_lt).binds fun _ _ _ _ _ _ us hl => match us, hl with | [_, _], _ => rfl)⟩
    have C_lx : Cal l.prog w K mg base CX0 2 "_law_text" P_law_text spText := ⟨_, _, ok_law_text (fun_mk (st := s_law_text) l_lx cc_lx k_lx) T C_lt, PySem.W.mg_of X G a_lx, k_lx, ((fun_mk (st := s_law_text) l_lx cc_lx k_lx).binds fun _ _ _ _ _ _ us hl => match us, hl with | [_, _], _ => rfl)⟩
    have K_s : CalK l.prog w K mg base CX0 1 "Store" cU P_Store___init (sp_Store___init cU) := ⟨_, _, ok_Store___init (fun_mk (st := s_Store___init) l_si cc_si k_si) T, ⟨mk_cU, a_si, i_si, kc_cU⟩, T.STO, ((fun_mk (st := s_Store___init) l_si cc_si k_si).binds fun _ _ _ _ _ _ us hl => match us, hl with | [_], _ => rfl)⟩
    have K_c : CalK l.prog w K mg base CX0 1 "Collector" cC P_Collector___init (sp_Collector___init cC cU B1 B2) := ⟨_, _, ok_Collector___init (fun_mk (st := s_Collector___init) l_ci cc_ci k_ci) T TC, ⟨mk_cC, a_ci, i_ci, kc_cC⟩, TC.gC, ((fun_mk (st := s_Collector___init) l_ci cc_ci k_ci).binds fun _ _ _ _ _ _ us hl => match us, hl with | [_, _], _ => rfl)⟩
    have K_k : CalK l.prog w K mg base CX0 1 "Claims" cK P_Claims___init (sp_Claims___init cK) := ⟨_, _, ok_Claims___init (fun_mk (st := s_Claims___init) l_ki cc_ki k_ki) TK, ⟨mk_cK, a_ki, i_ki, kc_cK⟩, TK.gC, ((fun_mk (st := s_Claims___init) l_ki cc_ki k_ki).binds fun _ _ _ _ _ _ us hl => match us, hl with | [_], _ => rfl)⟩
    have K_u : CalK l.prog w K mg base CX0 1 "Uploads" cL P_Uploads___init (sp_Uploads___init cL) := ⟨_, _, ok_Uploads___init (fun_mk (st := s_Uploads___init) l_ui cc_ui k_ui) TK, ⟨mk_cL, a_ui, i_ui, kc_cL⟩, TK.gU, ((fun_mk (st := s_Uploads___init) l_ui cc_ui k_ui).binds fun _ _ _ _ _ _ us hl => match us, hl with | [_], _ => rfl)⟩
    have K_g : CalK l.prog w K mg base CX0 3 "Registry" cG P_Registry___init (sp_Registry___init (CA.mk cG cU cK cL cC B1 B2 B3 B4)) := ⟨_, _, ok_Registry___init (c := (CA.mk cG cU cK cL cC B1 B2 B3 B4)) (fun_mk (st := s_Registry___init) l_gi cc_gi k_gi) T TC TK TG K_k K_c K_s K_u, ⟨mk_cG, a_gi, i_gi, kc_cG⟩, TG.gG, ((fun_mk (st := s_Registry___init) l_gi cc_gi k_gi).binds fun _ _ _ _ _ _ us hl => match us, hl with | [_], _ => rfl)⟩
    have M_k : CalM l.prog w K mg base CX0 2 cU "keep" P_Store_keep (sp_Store_keep cU) := ⟨_, _, ok_Store_keep (fun_mk (st := s_Store_keep) l_sk cc_sk k_sk) T C_ad, T.sC, ⟨a_sk, i_sk, k_sk⟩, ((fun_mk (st := s_Store_keep) l_sk cc_sk k_sk).binds fun _ _ _ _ _ _ us hl => match us, hl with | [_, _, _], _ => rfl)⟩
    have M_b : CalM l.prog w K mg base CX0 1 cU "blob" P_Store_blob (sp_Store_blob cU) := ⟨_, _, ok_Store_blob (fun_mk (st := s_Store_blob) l_sb cc_sb k_sb) T, T.sC, ⟨a_sb, i_sb, k_sb⟩, ((fun_mk (st := s_Store_blob) l_sb cc_sb k_sb).binds fun _ _ _ _ _ _ us hl => match us, hl with | [_, _], _ => rfl)⟩
    have M_d : CalM l.prog w K mg base CX0 1 cU "addresses" P_Store_addresses (sp_Store_addresses cU) := ⟨_, _, ok_Store_addresses (fun_mk (st := s_Store_addresses) l_sd cc_sd k_sd) T, T.sC, ⟨a_sd, i_sd, k_sd⟩, ((fun_mk (st := s_Store_addresses) l_sd cc_sd k_sd).binds fun _ _ _ _ _ _ us hl => match us, hl with | [_], _ => rfl)⟩
    have M_l : CalM l.prog w K mg base CX0 6 cU "below" P_Store_below (sp_Store_below cU B1 B2) := ⟨_, _, ok_Store_below (fun_mk (st := s_Store_below) l_sl cc_sl k_sl) T C_rf, T.sC, ⟨a_sl, i_sl, k_sl⟩, ((fun_mk (st := s_Store_below) l_sl cc_sl k_sl).binds fun _ _ _ _ _ _ us hl => match us, hl with | [_, _], _ => rfl)⟩
    have FW : FunC K "is_whole" "Store.is_whole" s_Store_is_whole f_sw _ c_sw := ⟨⟨_, _, _, _, _, _, _, _, rfl, l_sw, cc_sw⟩, k_sw⟩
    have O0 : CalM l.prog w K mg base CX0 0 cU "is_whole_of" P_Store__is_whole_of (sp_iwo cU B1 B2 B3 0) := ⟨_, _, vac_fn fun vs H Q E h => by (obtain ⟨_, _, _, _, _, _, _, _, h, _⟩ := h; exact absurd h (Nat.not_lt_zero _)), T.sC, ⟨a_so, i_so, k_so⟩, ((fun_mk (st := s_Store__is_whole_of) l_so cc_so k_so).binds fun _ _ _ _ _ _ us hl => match us, hl with | [_, _, _], _ => rfl)⟩
    have W0 : CalM l.prog w K mg base CX0 7 cU "is_whole" P_Store_is_whole (sp_isw cU B1 B2 B3 0) := ⟨_, _, ok_Store_is_whole FW T TW bel M_l O0, T.sC, ⟨a_sw, i_sw, k_sw⟩, ((fun_mk (st := s_Store_is_whole) l_sw cc_sw k_sw).binds fun _ _ _ _ _ _ us hl => match us, hl with | [_, _], _ => rfl)⟩
    have O1 : CalM l.prog w K mg base CX0 8 cU "is_whole_of" P_Store__is_whole_of (sp_iwo cU B1 B2 B3 1) := ⟨_, _, ok_Store__is_whole_of (fun_mk (st := s_Store__is_whole_of) l_so cc_so k_so) T W0, T.sC, ⟨a_so, i_so, k_so⟩, ((fun_mk (st := s_Store__is_whole_of) l_so cc_so k_so).binds fun _ _ _ _ _ _ us hl => match us, hl with | [_, _, _], _ => rfl)⟩
    have W1 : CalM l.prog w K mg base CX0 15 cU "is_whole" P_Store_is_whole (sp_isw cU B1 B2 B3 1) := ⟨_, _, ok_Store_is_whole FW T TW bel M_l O1, T.sC, ⟨a_sw, i_sw, k_sw⟩, ((fun_mk (st := s_Store_is_whole) l_sw cc_sw k_sw).binds fun _ _ _ _ _ _ us hl => match us, hl with | [_, _], _ => rfl)⟩
    have O2 : CalM l.prog w K mg base CX0 16 cU "is_whole_of" P_Store__is_whole_of (sp_iwo cU B1 B2 B3 2) := ⟨_, _, ok_Store__is_whole_of (fun_mk (st := s_Store__is_whole_of) l_so cc_so k_so) T W1, T.sC, ⟨a_so, i_so, k_so⟩, ((fun_mk (st := s_Store__is_whole_of) l_so cc_so k_so).binds fun _ _ _ _ _ _ us hl => match us, hl with | [_, _, _], _ => rfl)⟩
    have W2 : CalM l.prog w K mg base CX0 23 cU "is_whole" P_Store_is_whole (sp_isw cU B1 B2 B3 2) := ⟨_, _, ok_Store_is_whole FW T TW bel M_l O2, T.sC, ⟨a_sw, i_sw, k_sw⟩, ((fun_mk (st := s_Store_is_whole) l_sw cc_sw k_sw).binds fun _ _ _ _ _ _ us hl => match us, hl with | [_, _], _ => rfl)⟩
    have O3 : CalM l.prog w K mg base CX0 24 cU "is_whole_of" P_Store__is_whole_of (sp_iwo cU B1 B2 B3 3) := ⟨_, _, ok_Store__is_whole_of (fun_mk (st := s_Store__is_whole_of) l_so cc_so k_so) T W2, T.sC, ⟨a_so, i_so, k_so⟩, ((fun_mk (st := s_Store__is_whole_of) l_so cc_so k_so).binds fun _ _ _ _ _ _ us hl => match us, hl with | [_, _, _], _ => rfl)⟩
    have G0 : CalM l.prog w K mg base CX0 0 cU "_gather" P_Store__gather (sp_gather cU B1 B2 0) := ⟨_, _, vac_fn fun vs H Q E h => by (obtain ⟨_, _, _, _, _, _, _, _, _, _, h, _⟩ := h; cases h), T.sC, ⟨a_sg, i_sg, k_sg⟩, ((fun_mk (st := s_Store__gather) l_sg cc_sg k_sg).binds fun _ _ _ _ _ _ us hl => match us, hl with | [_, _, _], _ => rfl)⟩
    have G1 : CalM l.prog w K mg base CX0 7 cU "_gather" P_Store__gather (sp_gather cU B1 B2 1) := ⟨_, _, ok_Store__gather (fun_mk (st := s_Store__gather) l_sg cc_sg k_sg) T M_l G0, T.sC, ⟨a_sg, i_sg, k_sg⟩, ((fun_mk (st := s_Store__gather) l_sg cc_sg k_sg).binds fun _ _ _ _ _ _ us hl => match us, hl with | [_, _, _], _ => rfl)⟩
    have G2 : CalM l.prog w K mg base CX0 14 cU "_gather" P_Store__gather (sp_gather cU B1 B2 2) := ⟨_, _, ok_Store__gather (fun_mk (st := s_Store__gather) l_sg cc_sg k_sg) T M_l G1, T.sC, ⟨a_sg, i_sg, k_sg⟩, ((fun_mk (st := s_Store__gather) l_sg cc_sg k_sg).binds fun _ _ _ _ _ _ us hl => match us, hl with | [_, _, _], _ => rfl)⟩
    have G3 : CalM l.prog w K mg base CX0 21 cU "_gather" P_Store__gather (sp_gather cU B1 B2 3) := ⟨_, _, ok_Store__gather (fun_mk (st := s_Store__gather) l_sg cc_sg k_sg) T M_l G2, T.sC, ⟨a_sg, i_sg, k_sg⟩, ((fun_mk (st := s_Store__gather) l_sg cc_sg k_sg).binds fun _ _ _ _ _ _ us hl => match us, hl with | [_, _, _], _ => rfl)⟩
    have G4 : CalM l.prog w K mg base CX0 28 cU "_gather" P_Store__gather (sp_gather cU B1 B2 4) := ⟨_, _, ok_Store__gather (fun_mk (st := s_Store__gather) l_sg cc_sg k_sg) T M_l G3, T.sC, ⟨a_sg, i_sg, k_sg⟩, ((fun_mk (st := s_Store__gather) l_sg cc_sg k_sg).binds fun _ _ _ _ _ _ us hl => match us, hl with | [_, _, _], _ => rfl)⟩
    have M_c : CalM l.prog w K mg base CX0 29 cU "closure" P_Store_closure (sp_closure cU B1 B2) := ⟨_, _, ok_Store_closure (fun_mk (st := s_Store_closure) l_sc cc_sc k_sc) T G4, T.sC, ⟨a_sc, i_sc, k_sc⟩, ((fun_mk (st := s_Store_closure) l_sc cc_sc k_sc).binds fun _ _ _ _ _ _ us hl => match us, hl with | [_, _], _ => rfl)⟩
    have N_o : CalM l.prog w K mg base CX0 1 cC "stop" P_Collector_stop (sp_Collector_stop cC cU B1 B2) := ⟨_, _, ok_Collector_stop (fun_mk (st := s_Collector_stop) l_co cc_co k_co) T TC , TC.clC, ⟨a_co, i_co, k_co⟩, ((fun_mk (st := s_Collector_stop) l_co cc_co k_co).binds fun _ _ _ _ _ _ us hl => match us, hl with | [_], _ => rfl)⟩
    have N_h : CalM l.prog w K mg base CX0 30 cC "shade" P_Collector_shade (sp_Collector_shade cC cU B1 B2) := ⟨_, _, ok_Collector_shade (fun_mk (st := s_Collector_shade) l_ch cc_ch k_ch) T TC M_c, TC.clC, ⟨a_ch, i_ch, k_ch⟩, ((fun_mk (st := s_Collector_shade) l_ch cc_ch k_ch).binds fun _ _ _ _ _ _ us hl => match us, hl with | [_, _], _ => rfl)⟩
    have K_b : CalM l.prog w K mg base CX0 1 cK "begin" P_Claims_begin (sp_Claims_begin cK) := ⟨_, _, ok_Claims_begin (fun_mk (st := s_Claims_begin) l_kb cc_kb k_kb) TK, TK.clK, ⟨a_kb, i_kb, k_kb⟩, ((fun_mk (st := s_Claims_begin) l_kb cc_kb k_kb).binds fun _ _ _ _ _ _ us hl => match us, hl with | [_], _ => rfl)⟩
    have K_o : CalM l.prog w K mg base CX0 1 cK "is_open" P_Claims_is_open (sp_Claims_is_open cK) := ⟨_, _, ok_Claims_is_open (fun_mk (st := s_Claims_is_open) l_ko cc_ko k_ko) TK, TK.clK, ⟨a_ko, i_ko, k_ko⟩, ((fun_mk (st := s_Claims_is_open) l_ko cc_ko k_ko).binds fun _ _ _ _ _ _ us hl => match us, hl with | [_, _], _ => rfl)⟩
    have K_p : CalM l.prog w K mg base CX0 1 cK "pin" P_Claims_pin (sp_Claims_pin cK) := ⟨_, _, ok_Claims_pin (fun_mk (st := s_Claims_pin) l_kp cc_kp k_kp) TK, TK.clK, ⟨a_kp, i_kp, k_kp⟩, ((fun_mk (st := s_Claims_pin) l_kp cc_kp k_kp).binds fun _ _ _ _ _ _ us hl => match us, hl with | [_, _, _], _ => rfl)⟩
    have K_e : CalM l.prog w K mg base CX0 1 cK "end" P_Claims_end (sp_Claims_end cK) := ⟨_, _, ok_Claims_end (fun_mk (st := s_Claims_end) l_ke cc_ke k_ke) TK, TK.clK, ⟨a_ke, i_ke, k_ke⟩, ((fun_mk (st := s_Claims_end) l_ke cc_ke k_ke).binds fun _ _ _ _ _ _ us hl => match us, hl with | [_, _], _ => rfl)⟩
    have K_n : CalM l.prog w K mg base CX0 1 cK "numbers" P_Claims_numbers (sp_Claims_numbers cK) := ⟨_, _, ok_Claims_numbers (fun_mk (st := s_Claims_numbers) l_kn cc_kn k_kn) TK, TK.clK, ⟨a_kn, i_kn, k_kn⟩, ((fun_mk (st := s_Claims_numbers) l_kn cc_kn k_kn).binds fun _ _ _ _ _ _ us hl => match us, hl with | [_], _ => rfl)⟩
    have K_q : CalM l.prog w K mg base CX0 1 cK "pinned" P_Claims_pinned (sp_Claims_pinned cK) := ⟨_, _, ok_Claims_pinned (fun_mk (st := s_Claims_pinned) l_kq cc_kq k_kq) TK, TK.clK, ⟨a_kq, i_kq, k_kq⟩, ((fun_mk (st := s_Claims_pinned) l_kq cc_kq k_kq).binds fun _ _ _ _ _ _ us hl => match us, hl with | [_], _ => rfl)⟩
    have U_b : CalM l.prog w K mg base CX0 1 cL "begin" P_Uploads_begin (sp_Uploads_begin cL) := ⟨_, _, ok_Uploads_begin (fun_mk (st := s_Uploads_begin) l_ub cc_ub k_ub) TK, TK.clL, ⟨a_ub, i_ub, k_ub⟩, ((fun_mk (st := s_Uploads_begin) l_ub cc_ub k_ub).binds fun _ _ _ _ _ _ us hl => match us, hl with | [_], _ => rfl)⟩
    have U_a : CalM l.prog w K mg base CX0 1 cL "add_part" P_Uploads_add_part (sp_Uploads_add_part cL) := ⟨_, _, ok_Uploads_add_part (fun_mk (st := s_Uploads_add_part) l_ua cc_ua k_ua) TK, TK.clL, ⟨a_ua, i_ua, k_ua⟩, ((fun_mk (st := s_Uploads_add_part) l_ua cc_ua k_ua).binds fun _ _ _ _ _ _ us hl => match us, hl with | [_, _, _, _], _ => rfl)⟩
    have U_f : CalM l.prog w K mg base CX0 1 cL "finish" P_Uploads_finish (sp_Uploads_finish cL) := ⟨_, _, ok_Uploads_finish (fun_mk (st := s_Uploads_finish) l_uf cc_uf k_uf) TK, TK.clL, ⟨a_uf, i_uf, k_uf⟩, ((fun_mk (st := s_Uploads_finish) l_uf cc_uf k_uf).binds fun _ _ _ _ _ _ us hl => match us, hl with | [_, _], _ => rfl)⟩
    have U_g : CalM l.prog w K mg base CX0 1 cL "forget" P_Uploads_forget (sp_Uploads_forget cL) := ⟨_, _, ok_Uploads_forget (fun_mk (st := s_Uploads_forget) l_ug cc_ug k_ug) TK, TK.clL, ⟨a_ug, i_ug, k_ug⟩, ((fun_mk (st := s_Uploads_forget) l_ug cc_ug k_ug).binds fun _ _ _ _ _ _ us hl => match us, hl with | [_], _ => rfl)⟩
    have R_p : CalM l.prog w K mg base CX0 31 cG "_pin" P_Registry__pin (sp_Registry__pin (CA.mk cG cU cK cL cC B1 B2 B3 B4)) := ⟨_, _, ok_Registry__pin (c := (CA.mk cG cU cK cL cC B1 B2 B3 B4)) (fun_mk (st := s_Registry__pin) l_gp cc_gp k_gp) T TC TK TG K_p N_h, TG.cl, ⟨a_gp, i_gp, k_gp⟩, ((fun_mk (st := s_Registry__pin) l_gp cc_gp k_gp).binds fun _ _ _ _ _ _ us hl => match us, hl with | [_, _, _], _ => rfl)⟩
    have R_k : CalM l.prog w K mg base CX0 32 cG "_keep" P_Registry__keep (sp_Registry__keep (CA.mk cG cU cK cL cC B1 B2 B3 B4)) := ⟨_, _, ok_Registry__keep (c := (CA.mk cG cU cK cL cC B1 B2 B3 B4)) (fun_mk (st := s_Registry__keep) l_gk cc_gk k_gk) T TC TK TG R_p, TG.cl, ⟨a_gk, i_gk, k_gk⟩, ((fun_mk (st := s_Registry__keep) l_gk cc_gk k_gk).binds fun _ _ _ _ _ _ us hl => match us, hl with | [_, _, _], _ => rfl)⟩
    have R_d : CalM l.prog w K mg base CX0 1 cG "drop_name" P_Registry_drop_name (sp_Registry_drop_name (CA.mk cG cU cK cL cC B1 B2 B3 B4)) := ⟨_, _, ok_Registry_drop_name (c := (CA.mk cG cU cK cL cC B1 B2 B3 B4)) (fun_mk (st := s_Registry_drop_name) l_gd cc_gd k_gd) T TC TK TG , TG.cl, ⟨a_gd, i_gd, k_gd⟩, ((fun_mk (st := s_Registry_drop_name) l_gd cc_gd k_gd).binds fun _ _ _ _ _ _ us hl => match us, hl with | [_, _], _ => rfl)⟩
    have R_l : CalM l.prog w K mg base CX0 2 cG "lapse" P_Registry_lapse (sp_Registry_lapse (CA.mk cG cU cK cL cC B1 B2 B3 B4)) := ⟨_, _, ok_Registry_lapse (c := (CA.mk cG cU cK cL cC B1 B2 B3 B4)) (fun_mk (st := s_Registry_lapse) l_gl cc_gl k_gl) T TC TK TG K_e, TG.cl, ⟨a_gl, i_gl, k_gl⟩, ((fun_mk (st := s_Registry_lapse) l_gl cc_gl k_gl).binds fun _ _ _ _ _ _ us hl => match us, hl with | [_, _], _ => rfl)⟩
    have R_f : CalM l.prog w K mg base CX0 2 cG "fall" P_Registry_fall (sp_Registry_fall (CA.mk cG cU cK cL cC B1 B2 B3 B4)) := ⟨_, _, ok_Registry_fall (c := (CA.mk cG cU cK cL cC B1 B2 B3 B4)) (fun_mk (st := s_Registry_fall) l_gf cc_gf k_gf) T TC TK TG N_o U_g, TG.cl, ⟨a_gf, i_gf, k_gf⟩, ((fun_mk (st := s_Registry_fall) l_gf cc_gf k_gf).binds fun _ _ _ _ _ _ us hl => match us, hl with | [_], _ => rfl)⟩
    have R_r : CalM l.prog w K mg base CX0 2 cG "roots" P_Registry_roots (sp_Registry_roots (CA.mk cG cU cK cL cC B1 B2 B3 B4)) := ⟨_, _, ok_Registry_roots (c := (CA.mk cG cU cK cL cC B1 B2 B3 B4)) (fun_mk (st := s_Registry_roots) l_gr cc_gr k_gr) T TC TK TG K_q, TG.cl, ⟨a_gr, i_gr, k_gr⟩, ((fun_mk (st := s_Registry_roots) l_gr cc_gr k_gr).binds fun _ _ _ _ _ _ us hl => match us, hl with | [_], _ => rfl)⟩
    have R_e : CalM l.prog w K mg base CX0 2 cG "_piece" P_Registry__piece (sp_Registry__piece (CA.mk cG cU cK cL cC B1 B2 B3 B4)) := ⟨_, _, ok_Registry__piece (c := (CA.mk cG cU cK cL cC B1 B2 B3 B4)) (fun_mk (st := s_Registry__piece) l_ge cc_ge k_ge) T TC TK TG M_b, TG.cl, ⟨a_ge, i_ge, k_ge⟩, ((fun_mk (st := s_Registry__piece) l_ge cc_ge k_ge).binds fun _ _ _ _ _ _ us hl => match us, hl with | [_, _, _, _], _ => rfl)⟩
    have R_F : CalM l.prog w K mg base CX0 33 cG "_finish" P_Registry__finish (sp_Registry__finish (CA.mk cG cU cK cL cC B1 B2 B3 B4)) := ⟨_, _, ok_Registry__finish (c := (CA.mk cG cU cK cL cC B1 B2 B3 B4)) (fun_mk (st := s_Registry__finish) l_gF cc_gF k_gF) T TC TK TG R_k W2 M_k U_f C_ad, TG.cl, ⟨a_gF, i_gF, k_gF⟩, ((fun_mk (st := s_Registry__finish) l_gF cc_gF k_gF).binds fun _ _ _ _ _ _ us hl => match us, hl with | [_, _, _, _], _ => rfl)⟩
    have MX : RefX l.prog w K mg base cM B1 B2 f_rf _ := ⟨ok_referencesX (fun_mk (st := s_references) l_rf cc_rf k_rf) T MO, PySem.W.mg_of X G a_rf, k_rf, ((fun_mk (st := s_references) l_rf cc_rf k_rf).binds fun _ _ _ _ _ _ us hl => match us, hl with | [_, _], _ => rfl), PySem.W.exm_ref eC hC tC sC⟩
    have R_P : CalM l.prog w K mg base CX0 33 cG "_put" P_Registry__put (sp_Registry__put (CA.mk cG cU cK cL cC B1 B2 B3 B4)) := ⟨_, _, ok_Registry__put (c := (CA.mk cG cU cK cL cC B1 B2 B3 B4)) (fun_mk (st := s_Registry__put) l_gP cc_gP k_gP) T TC TK TG R_k O3 M_k MX, TG.cl, ⟨a_gP, i_gP, k_gP⟩, ((fun_mk (st := s_Registry__put) l_gP cc_gP k_gP).binds fun _ _ _ _ _ _ us hl => match us, hl with | [_, _, _, _], _ => rfl)⟩
    have FN : FunC K "_name" "Registry._name" s_Registry__name f_gn _ c_gn := ⟨⟨_, _, _, _, _, _, _, _, rfl, l_gn, cc_gn⟩, k_gn⟩
    have R_n : CalM l.prog w K mg base CX0 33 cG "_name" P_Registry__name (sp_Registry__name (CA.mk cG cU cK cL cC B1 B2 B3 B4)) := ⟨_, _, ok_Registry__name (c := (CA.mk cG cU cK cL cC B1 B2 B3 B4)) FN TN T TC TK TG R_p O3, TG.cl, ⟨a_gn, i_gn, k_gn⟩, ((fun_mk (st := s_Registry__name) l_gn cc_gn k_gn).binds fun _ _ _ _ _ _ us hl => match us, hl with | [_, _, _, _], _ => rfl)⟩
    have R_u : CalM l.prog w K mg base CX0 34 cG "_answer_under" P_Registry__answer_under (sp_Registry__answer_under (CA.mk cG cU cK cL cC B1 B2 B3 B4)) := ⟨_, _, ok_Registry__answer_under (c := (CA.mk cG cU cK cL cC B1 B2 B3 B4)) (fun_mk (st := s_Registry__answer_under) l_gu cc_gu k_gu) T TC TK TG K_o W2 R_k U_b R_F R_P R_n, TG.cl, ⟨a_gu, i_gu, k_gu⟩, ((fun_mk (st := s_Registry__answer_under) l_gu cc_gu k_gu).binds fun _ _ _ _ _ _ us hl => match us, hl with | [_, _, _], _ => rfl)⟩
    have R_a : CalM l.prog w K mg base CX0 35 cG "answer" P_Registry_answer (sp_Registry_answer (CA.mk cG cU cK cL cC B1 B2 B3 B4)) := ⟨_, _, ok_Registry_answer (c := (CA.mk cG cU cK cL cC B1 B2 B3 B4)) (fun_mk (st := s_Registry_answer) l_ga cc_ga k_ga) T TC TK TG R_u K_b K_e U_a R_e R_d, TG.cl, ⟨a_ga, i_ga, k_ga⟩, ((fun_mk (st := s_Registry_answer) l_ga cc_ga k_ga).binds fun _ _ _ _ _ _ us hl => match us, hl with | [_, _], _ => rfl)⟩
    have L_r : Cal l.prog w K mg base CX0 1 "_law_refs" P_law_refs (sp_refs6) := ⟨_, _, ok_law_refs (c := (CA.mk cG cU cK cL cC B1 B2 B3 B4)) (fun_mk (st := s_law_refs) l_lr cc_lr k_lr) T TC TK TG , PySem.W.mg_of X G a_lr, k_lr, ((fun_mk (st := s_law_refs) l_lr cc_lr k_lr).binds fun _ _ _ _ _ _ us hl => match us, hl with | [_, _], _ => rfl)⟩
    have H0 : Cal l.prog w K mg base CX0 0 "_law_whole" P_law_whole (sp_whole6 0) := ⟨_, _, vac_fn fun vs H Q E h => by (obtain ⟨_, _, _, _, _, h, _⟩ := h; cases h), PySem.W.mg_of X G a_lh, k_lh, ((fun_mk (st := s_law_whole) l_lh cc_lh k_lh).binds fun _ _ _ _ _ _ us hl => match us, hl with | [_, _], _ => rfl)⟩
    have H1 : Cal l.prog w K mg base CX0 2 "_law_whole" P_law_whole (sp_whole6 1) := ⟨_, _, ok_law_whole (c := (CA.mk cG cU cK cL cC B1 B2 B3 B4)) (fun_mk (st := s_law_whole) l_lh cc_lh k_lh) T TC TK TG L_r H0, PySem.W.mg_of X G a_lh, k_lh, ((fun_mk (st := s_law_whole) l_lh cc_lh k_lh).binds fun _ _ _ _ _ _ us hl => match us, hl with | [_, _], _ => rfl)⟩
    have H2 : Cal l.prog w K mg base CX0 4 "_law_whole" P_law_whole (sp_whole6 2) := ⟨_, _, ok_law_whole (c := (CA.mk cG cU cK cL cC B1 B2 B3 B4)) (fun_mk (st := s_law_whole) l_lh cc_lh k_lh) T TC TK TG L_r H1, PySem.W.mg_of X G a_lh, k_lh, ((fun_mk (st := s_law_whole) l_lh cc_lh k_lh).binds fun _ _ _ _ _ _ us hl => match us, hl with | [_, _], _ => rfl)⟩
    have H3 : Cal l.prog w K mg base CX0 6 "_law_whole" P_law_whole (sp_whole6 3) := ⟨_, _, ok_law_whole (c := (CA.mk cG cU cK cL cC B1 B2 B3 B4)) (fun_mk (st := s_law_whole) l_lh cc_lh k_lh) T TC TK TG L_r H2, PySem.W.mg_of X G a_lh, k_lh, ((fun_mk (st := s_law_whole) l_lh cc_lh k_lh).binds fun _ _ _ _ _ _ us hl => match us, hl with | [_, _], _ => rfl)⟩
    have L_k : Cal l.prog w K mg base CX0 1 "_law_kept" P_law_kept (sp_kept6) := ⟨_, _, ok_law_kept (c := (CA.mk cG cU cK cL cC B1 B2 B3 B4)) (fun_mk (st := s_law_kept) l_lk cc_lk k_lk) T TC TK TG , PySem.W.mg_of X G a_lk, k_lk, ((fun_mk (st := s_law_kept) l_lk cc_lk k_lk).binds fun _ _ _ _ _ _ us hl => match us, hl with | [_, _, _], _ => rfl)⟩
    have L_o : Cal l.prog w K mg base CX0 1 "_law_without" P_law_without (sp_without6) := ⟨_, _, ok_law_without (c := (CA.mk cG cU cK cL cC B1 B2 B3 B4)) (fun_mk (st := s_law_without) l_lo cc_lo k_lo) T TC TK TG , PySem.W.mg_of X G a_lo, k_lo, ((fun_mk (st := s_law_without) l_lo cc_lo k_lo).binds fun _ _ _ _ _ _ us hl => match us, hl with | [_, _], _ => rfl)⟩
    have L_f : Cal l.prog w K mg base CX0 8 "_law_finish" P_law_finish (sp_finish6) := ⟨_, _, ok_law_finish (c := (CA.mk cG cU cK cL cC B1 B2 B3 B4)) (fun_mk (st := s_law_finish) l_lf cc_lf k_lf) T TC TK TG L_k H3 C_ad, PySem.W.mg_of X G a_lf, k_lf, ((fun_mk (st := s_law_finish) l_lf cc_lf k_lf).binds fun _ _ _ _ _ _ us hl => match us, hl with | [_, _, _, _], _ => rfl)⟩
    have L_p : Cal l.prog w K mg base CX0 8 "_law_put" P_law_put (sp_put6) := ⟨_, _, ok_law_put (c := (CA.mk cG cU cK cL cC B1 B2 B3 B4)) (fun_mk (st := s_law_put) l_lp cc_lp k_lp) T TC TK TG L_k L_r H3 C_ad, PySem.W.mg_of X G a_lp, k_lp, ((fun_mk (st := s_law_put) l_lp cc_lp k_lp).binds fun _ _ _ _ _ _ us hl => match us, hl with | [_, _, _, _], _ => rfl)⟩
    have L_c : Cal l.prog w K mg base CX0 10 "_law_claimed" P_law_claimed (sp_claimed6) := ⟨_, _, ok_law_claimed (c := (CA.mk cG cU cK cL cC B1 B2 B3 B4)) (fun_mk (st := s_law_claimed) l_lc cc_lc k_lc) T TC TK TG L_f L_k L_p H3, PySem.W.mg_of X G a_lc, k_lc, ((fun_mk (st := s_law_claimed) l_lc cc_lc k_lc).binds fun _ _ _ _ _ _ us hl => match us, hl with | [_, _], _ => rfl)⟩
    have L_a : Cal l.prog w K mg base CX0 11 "_law_answer" P_law_answer (sp_answer6) := ⟨_, _, ok_law_answer (c := (CA.mk cG cU cK cL cC B1 B2 B3 B4)) (fun_mk (st := s_law_answer) l_la cc_la k_la) T TC TK TG L_c L_o, PySem.W.mg_of X G a_la, k_la, ((fun_mk (st := s_law_answer) l_la cc_la k_la).binds fun _ _ _ _ _ _ us hl => match us, hl with | [_, _], _ => rfl)⟩
    have L_d : Cal l.prog w K mg base CX0 3 "_law_address" P_law_address (sp_address6) := ⟨_, _, ok_law_address (c := (CA.mk cG cU cK cL cC B1 B2 B3 B4)) (fun_mk (st := s_law_address) l_ld cc_ld k_ld) T TC TK TG C_lt C_lx C_ad, PySem.W.mg_of X G a_ld, k_ld, ((fun_mk (st := s_law_address) l_ld cc_ld k_ld).binds fun _ _ _ _ _ _ us hl => match us, hl with | [_, _], _ => rfl)⟩
    have L_e : Cal l.prog w K mg base CX0 4 "_law_text_of" P_law_text_of (sp_text6) := ⟨_, _, ok_law_text_of (c := (CA.mk cG cU cK cL cC B1 B2 B3 B4)) (fun_mk (st := s_law_text_of) l_le cc_le k_le) T TC TK TG L_d C_lt C_bt C_it, PySem.W.mg_of X G a_le, k_le, ((fun_mk (st := s_law_text_of) l_le cc_le k_le).binds fun _ _ _ _ _ _ us hl => match us, hl with | [_, _, _], _ => rfl)⟩
    have L_q : Cal l.prog w K mg base CX0 5 "_law_request" P_law_request (sp_request6) := ⟨_, _, ok_law_request (c := (CA.mk cG cU cK cL cC B1 B2 B3 B4)) (fun_mk (st := s_law_request) l_lq cc_lq k_lq) T TC TK TG L_d C_lt C_lx L_e C_ad, PySem.W.mg_of X G a_lq, k_lq, ((fun_mk (st := s_law_request) l_lq cc_lq k_lq).binds fun _ _ _ _ _ _ us hl => match us, hl with | [_, _], _ => rfl)⟩
    have L_n : Cal l.prog w K mg base CX0 2 "_law_roots" P_law_roots (sp_roots6) := ⟨_, _, ok_law_roots (c := (CA.mk cG cU cK cL cC B1 B2 B3 B4)) (fun_mk (st := s_law_roots) l_ln cc_ln k_ln) T TC TK TG , PySem.W.mg_of X G a_ln, k_ln, ((fun_mk (st := s_law_roots) l_ln cc_ln k_ln).binds fun _ _ _ _ _ _ us hl => match us, hl with | [_], _ => rfl)⟩
    have LC : LawC6 l.prog w K mg base (CA.mk cG cU cK cL cC B1 B2 B3 B4) := ⟨PySem.W.mg_none_of X G z17, K_n, K_g, R_a, R_f, R_l, R_r, M_d, L_a, L_q, L_n, C_ls, C_lt, L_o⟩
    exact run_law (c := (CA.mk cG cU cK cL cC B1 B2 B3 B4)) (fun_mk (st := s_law) l_lw cc_lw k_lw) T TC TK TG LC
end LW
/-! the head by one kernel run, its facts by tests of all that stands (but empty tables) -/
namespace LW
open PySem PySem.Spec PyProof.Rows L2
structure HkD where
  n : Nat
  chk : List (PySem.W.Frag → Bool)
  fn : List He.FnD
  fc : List He.FnD
  ts : List He.Tab
  tb : List He.Defn
def HkD.K (d : HkD) (g : Addr → Option Obj) : PySem.W.Frag := He.frT g (List.range d.n)
def ctB (K : PySem.W.Frag) (g : Addr → Option Obj) (p : He.Defn) : Bool := PySem.W.codeHdIn K (He.cT K p).1 (He.cT K p).2 && match g (He.cT K p).2 with
  | some o => He.emptyTab o
  | none => false
/-- a method whose only free name is its class -/
abbrev FnC : Type := Option (Str × Str × Arguments × FuncBody × Scope × Addr × List Str × Value × Addr)
def fnObsC (K : PySem.W.Frag) (p : He.Defn) : FnC := match K.lookup (He.fAd K p) with
  | some ⟨_, _, .func fd, _⟩ => some (fd.name, fd.qualname, fd.params, fd.body, fd.scope, fd.globals, fd.closure.map (·.1), fd.defaults, fd.builtins)
  | _ => none
def valC (d : He.FnD) : FnC := some (d.name, d.qual, d.params, .stmts d.body, d.scope, mainGlobals, ["__class__"], .none, builtinsNs)
abbrev HkA : Type := Bool × List He.FnV × List (Option (List (Option (Str × Int)))) × List FnC
def HkD.obsK (d : HkD) (g : Addr → Option Obj) (K : PySem.W.Frag) : HkA := ((d.chk.all fun f => f K) && d.tb.all (ctB K g), d.fn.map fun f => He.fnObs K f.at_, d.ts.map fun t => He.dicW K (t.1 K), d.fc.map fun f => fnObsC K f.at_)
def HkD.obsG (d : HkD) (g : Addr → Option Obj) : HkA := d.obsK g (d.K g)
def HkD.val (d : HkD) (w : World) : HkA := (true, d.fn.map He.FnD.val, d.ts.map fun t => some (He.keysIn w.params t.2), d.fc.map valC)
structure HkSays (d : HkD) (w : World) (h : Heap) (K : PySem.W.Frag) : Prop where
  kin : K.In h
  chk : ∀ f ∈ d.chk, f K = true
  fn : d.fn.map (fun f => He.fnObs K f.at_) = d.fn.map He.FnD.val
  ts : d.ts.map (fun t => He.dicW K (t.1 K)) = d.ts.map fun t => some (He.keysIn w.params t.2)
  fc : d.fc.map (fun f => fnObsC K f.at_) = d.fc.map valC
  tb : ∀ p ∈ d.tb, PySem.W.codeHdIn K (He.cT K p).1 (He.cT K p).2 = true ∧ h.get? (He.cT K p).2 = some { cls := .none, data := .fields #[] } ∧ K.lookup (He.cT K p).2 = none
theorem hk_of {d : HkD} {w : World} {h : Heap} (e : d.obsG h.get? = d.val w) : HkSays d w h (d.K h.get?) := by
  have e1 : ((d.chk.all fun f => f (d.K h.get?)) && d.tb.all (ctB (d.K h.get?) h.get?)) = true := congrArg (fun z : HkA => z.1) e
  obtain ⟨c1, c2⟩ := Bool.and_eq_true_iff.mp e1
  refine ⟨He.frT_in, List.all_eq_true.mp c1, congrArg (fun z : HkA => z.2.1) e, congrArg (fun z : HkA => z.2.2.1) e, congrArg (fun z : HkA => z.2.2.2) e, fun p hp => ?_⟩
  have q := List.all_eq_true.mp c2 p hp
  unfold ctB at q
  obtain ⟨q1, q2⟩ := Bool.and_eq_true_iff.mp q
  cases eo : h.get? (He.cT (d.K h.get?) p).2 with
  | none => rw [eo] at q2; cases q2
  | some o =>
    rw [eo] at q2
    have q2 : He.emptyTab o = true := q2
    exact ⟨q1, by rw [He.emptyTab_eq q2], He.frT_none eo q2⟩
def HkD.hook (d : HkD) : PySem.W.Hook where
  α := HkA
  obs := fun s => d.obsG s.heap.get?
  val := d.val
  says := fun w h => ∃ K : PySem.W.Frag, HkSays d w h K
  of := fun _ _ e => ⟨_, hk_of e⟩
  keeps := fun _ _ _ ⟨K, q⟩ k => ⟨K, PySem.W.Frag.In.keeps q.kin k, q.chk, q.fn, q.ts, q.fc, fun p hp => ⟨(q.tb p hp).1, k _ _ (q.tb p hp).2.1, (q.tb p hp).2.2⟩⟩
theorem obs_eq {d : HkD} {g : Addr → Option Obj} {s : Shared} (h : ∀ a, g a = s.heap.get? a) : d.obsG g = d.hook.obs s := by
  have e : g = s.heap.get? := funext h
  rw [e] <;> rfl
section
variable {d : HkD} {w : World} {h : Heap} {K : PySem.W.Frag}
theorem HkSays.fact (c : HkSays d w h K) (i : Nat) {f : PySem.W.Frag → Bool} (e : d.chk[i]? = some f) : f K = true := c.chk f (List.mem_of_getElem? e)
theorem HkSays.def_ (c : HkSays d w h K) (i : Nat) {q : He.FnD} (e : d.fn[i]? = some q) (cc : (He.Fa.code q.at_ q.qual).ok K = true) :
    ∃ oc od osl kV doc pm an cdv ct, K.lookup (He.fAd K q.at_) = some ⟨oc, od, .func (PySem.W.fnOf q.name q.qual q.params q.body q.scope .none kV doc pm an cdv ct), osl⟩ ∧ PySem.W.codeIn K cdv q.qual = true := by
  have e2 : (d.fn.map fun f => He.fnObs K f.at_)[i]? = (d.fn.map He.FnD.val)[i]? := by rw [c.fn]
  rw [List.getElem?_map, List.getElem?_map, e] at e2
  exact He.fn_ok (Option.some.inj e2) cc
theorem HkSays.dict (c : HkSays d w h K) (i : Nat) {t : He.Tab} (e : d.ts[i]? = some t) : ∃ es n, L2.KDict K w (t.1 K) es n := by
  have e2 : (d.ts.map fun t => He.dicW K (t.1 K))[i]? = (d.ts.map fun t => some (He.keysIn w.params t.2))[i]? := by rw [c.ts]
  rw [List.getElem?_map, List.getElem?_map, e] at e2
  exact He.dicW_ok (Option.some.inj e2)
/-- a dict of the module with text keys: its object, its keys in order -/
theorem dict_ok {a : Addr} {ks : List Str} (h : He.dicW K a = some (He.keysIn w.params ks)) : ∃ es n, K.lookup a = some ⟨.type "dict", none, .dict es n, #[]⟩ ∧ PySem.W.KeysLit w.params es.toList ∧ (a == sysModules) = false ∧ es.toList.map He.keyOf = He.keysIn w.params ks := by
  obtain ⟨es, n, D⟩ := He.dicW_ok h
  refine ⟨es, n, D.at_, D.lit, D.low, ?_⟩
  unfold He.dicW at h
  rw [D.at_] at h
  have h1 : (match decide ("dict" = "dict") && ((#[] : Array (Option Value)).isEmpty && !(a == sysModules)) with
    | true => some (es.toList.map He.keyOf)
    | false => none) = some (He.keysIn w.params ks) := h
  rw [D.low] at h1
  exact Option.some.inj h1
theorem HkSays.dictAt (c : HkSays d w h K) (i : Nat) {t : He.Tab} (e : d.ts[i]? = some t) : ∃ es n, K.lookup (t.1 K) = some ⟨.type "dict", none, .dict es n, #[]⟩ ∧ PySem.W.KeysLit w.params es.toList ∧ (t.1 K == sysModules) = false ∧ es.toList.map He.keyOf = He.keysIn w.params t.2 := by
  have e2 : (d.ts.map fun t => He.dicW K (t.1 K))[i]? = (d.ts.map fun t => some (He.keysIn w.params t.2))[i]? := by rw [c.ts]
  rw [List.getElem?_map, List.getElem?_map, e] at e2
  exact dict_ok (Option.some.inj e2)
theorem key_at {es : Array DictEntry} {P : Params} {ks : List Str} (h : es.toList.map He.keyOf = He.keysIn P ks) : es.size = ks.length ∧ ∀ (i : Nat) (k : Str), ks[i]? = some k → ∃ (en : DictEntry) (t : Tok), es[i]? = some en ∧ en.key = .str k t := by
  refine ⟨by have := congrArg List.length h; simpa [He.keysIn] using this, fun i k hk => ?_⟩
  have e := congrArg (fun l : List (Option (Str × Int)) => l[i]?) h
  dsimp only [He.keysIn] at e
  rw [List.getElem?_map, List.getElem?_map, hk] at e
  cases q : es.toList[i]? with
  | none => rw [q] at e; cases e
  | some en =>
    rw [q] at e
    have e : He.keyOf en = some (k, PyData.keyHash P k) := Option.some.inj e
    unfold He.keyOf at e
    split at e
    · rename_i x t hx
      have := Option.some.inj e
      injection this with h1 h2
      subst h1
      exact ⟨en, t, by rw [← Array.getElem?_toList]; exact q, hx⟩
    · cases e
theorem HkSays.clo (c : HkSays d w h K) (i : Nat) {q : He.FnD} (e : d.fc[i]? = some q) (cc : (He.Fa.code q.at_ q.qual).ok K = true) :
    ∃ oc od osl kV doc pm an cdv ct cl, K.lookup (He.fAd K q.at_) = some ⟨oc, od, .func (PySem.W.ksFn q.name q.qual q.params q.body q.scope .none kV doc pm an cdv ct cl), osl⟩ ∧ PySem.W.codeIn K cdv q.qual = true := by
  have e2 : (d.fc.map fun f => fnObsC K f.at_)[i]? = (d.fc.map valC)[i]? := by rw [c.fc]
  rw [List.getElem?_map, List.getElem?_map, e] at e2
  have e := Option.some.inj e2
  have c2 : (match K.lookup (He.fAd K q.at_) with
    | some ⟨_, _, .func fd, _⟩ => PySem.W.codeIn K fd.code q.qual
    | _ => false) = true := cc
  have e : (match K.lookup (He.fAd K q.at_) with
    | some ⟨_, _, .func fd, _⟩ => some (fd.name, fd.qualname, fd.params, fd.body, fd.scope, fd.globals, fd.closure.map (·.1), fd.defaults, fd.builtins)
    | _ => none) = valC q := e
  cases z : K.lookup (He.fAd K q.at_) with
  | none => rw [z] at c2; cases c2
  | some o =>
    obtain ⟨oc, od, dt, osl⟩ := o
    rw [z] at c2 e
    cases dt with
    | func fd =>
      obtain ⟨n1, n2, n3, n4, n5, n6, n7, n8, n9, n10, n11, n12, n13, n14, n15⟩ := fd
      have e3 : (some (n1, n2, n3, n4, n5, n6, n7.map (·.1), n8, n15) : FnC) = (some (q.name, q.qual, q.params, FuncBody.stmts q.body, q.scope, mainGlobals, [("__class__" : Str)], Value.none, builtinsNs) : FnC) := e
      simp only [Option.some.injEq, Prod.mk.injEq] at e3
      obtain ⟨h1, h2, h3, h4, h5, h6, h7, h8, h9⟩ := e3
      match n7, h7 with
      | [(x, cl)], h7 =>
        have hx : x = "__class__" := by simpa using h7
        subst h1 h2 h3 h4 h5 h6 hx h8 h9
        exact ⟨oc, od, osl, n9, n10, n11, n12, n13, n14, cl, rfl, c2⟩
      | [], h7 => simp at h7
      | _ :: _ :: _, h7 => simp at h7
    | _ => cases c2
end
theorem HkSays.tabs {d : HkD} {w : World} {h : Heap} {K : PySem.W.Frag} (c : HkSays d w h K) {p : He.Defn} (hp : p ∈ d.tb) {oc : Value} {od : Option Addr} {osl : Array (Option Value)} {fd : FuncData} {ca : Addr} (lk : K.lookup (He.fAd K p) = some ⟨oc, od, .func fd, osl⟩) (e : fd.code = .ref ca) :
    ∃ B, PySem.W.CodeHd h ca B ∧ h.get? B = some { cls := .none, data := .fields #[] } ∧ K.lookup B = none := by
  obtain ⟨h1, h2, h3⟩ := c.tb p hp
  refine ⟨_, ?_, h2, h3⟩
  have ec : (He.cT K p).1 = ca := He.codeOf_eq lk e
  rw [ec] at h1
  exact PySem.W.codeHd_of_K c.kin h1
/-! ### single tests -/
section
variable {K : PySem.W.Frag}
theorem intN_ok {x : Str} {i : Int} (c : (He.Fa.int x i).ok K = true) : ∃ t, PySem.W.nsIn K mainGlobals x = some (some (.int i t)) := by
  have c2 : (match PySem.W.nsIn K mainGlobals x with
    | some (some (.int j _)) => decide (j = i)
    | _ => false) = true := c
  cases e : PySem.W.nsIn K mainGlobals x with
  | none => rw [e] at c2; cases c2
  | some o =>
    rw [e] at c2
    cases o with
    | none => cases c2
    | some v =>
      cases v with
      | int j t => exact ⟨t, by rw [of_decide_eq_true c2]⟩
      | _ => cases c2
theorem strN_ok {x z : Str} (c : (He.Fa.str x z).ok K = true) : ∃ t, PySem.W.nsIn K mainGlobals x = some (some (.str z t)) := by
  have c2 : (match PySem.W.nsIn K mainGlobals x with
    | some (some (.str j _)) => decide (j = z)
    | _ => false) = true := c
  cases e : PySem.W.nsIn K mainGlobals x with
  | none => rw [e] at c2; cases c2
  | some o =>
    rw [e] at c2
    cases o with
    | none => cases c2
    | some v =>
      cases v with
      | str j t => exact ⟨t, by rw [of_decide_eq_true c2]⟩
      | _ => cases c2
/-- the value at a key of a dict of the module -/
def valN (K : PySem.W.Frag) (d : Str) (k : Str) : Option (Option Value) := PySem.W.nsIn K (He.ga K d) k
def intV (o : Option (Option Value)) (i : Int) : Bool := match o with
  | some (some (.int j _)) => decide (j = i)
  | _ => false
def strV (o : Option (Option Value)) (z : Str) : Bool := match o with
  | some (some (.str j _)) => decide (j = z)
  | _ => false
theorem intV_ok {o : Option (Option Value)} {i : Int} (c : intV o i = true) : ∃ t, o = some (some (.int i t)) := by
  match o, c with
  | some (some (.int j t)), c =>
    have c : decide (j = i) = true := c
    exact ⟨t, by rw [of_decide_eq_true c]⟩
theorem strV_ok {o : Option (Option Value)} {i : Str} (c : strV o i = true) : ∃ t, o = some (some (.str i t)) := by
  match o, c with
  | some (some (.str j t)), c =>
    have c : decide (j = i) = true := c
    exact ⟨t, by rw [of_decide_eq_true c]⟩
/-- an exception class of the program, at its name -/
def excB (K : PySem.W.Frag) (C : Addr) : Bool := match K.lookup C with
  | some ⟨.type "type", _, .cls cd, sl⟩ => (match cd.mro, sl.toList with
    | .ref C' :: bm, [_, _, _, _, some (.builtin n), _] => C' == C && (n == "ValueError.__new__" && (!cd.hasDel && (cd.hasDict && PySem.HandSPX.refsVE bm)))
    | _, _ => false)
  | _ => false
theorem excB_ok {C : Addr} (q : excB K C = true) : ∃ nm q N bs bm sn sub ab col dd k0 k1 k2 k3 k5, K.lookup C = some (excClassObj nm q C N bs bm true sn sub ab col dd k0 k1 k2 k3 k5 "ValueError.__new__") ∧ PySem.HandSPX.refsVE bm = true := by
  unfold excB at q
  split at q
  · rename_i dd cd sl ho
    split at q
    · rename_i C' bm k0 k1 k2 k3 n k5 hm hs
      simp only [Bool.and_eq_true, beq_iff_eq, Bool.not_eq_true'] at q
      obtain ⟨rfl, rfl, hdel, hd, ht⟩ := q
      obtain ⟨nm, bs, mro, ns, qn, hdct, sn, sub, ab, col, del⟩ := cd
      dsimp only at hm hdel hd
      subst hm hdel hd
      have hsl : sl = #[k0, k1, k2, k3, some (.builtin "ValueError.__new__"), k5] := by
        obtain ⟨l⟩ := sl
        simp only at hs
        rw [hs]
      subst hsl
      exact ⟨_, _, _, _, _, _, _, _, _, _, _, _, _, _, _, ho, ht⟩
    · cases q
  · cases q
/-- the cell of a method's class -/
def cellB (K : PySem.W.Frag) (p : He.Defn) (C : Addr) : Bool := match K.lookup (He.fAd K p) with
  | some ⟨_, _, .func fd, _⟩ => (match fd.closure with
    | [(_, cc)] => (match K.lookup cc with
      | some ⟨_, _, .cell (some (.ref D)), _⟩ => D == C
      | _ => false)
    | _ => false)
  | _ => false
theorem cellB_ok {p : He.Defn} {C cc : Addr} {oc : Value} {od : Option Addr} {osl : Array (Option Value)} {fd : FuncData} {x : Str} (e : K.lookup (He.fAd K p) = some ⟨oc, od, .func fd, osl⟩) (cl : fd.closure = [(x, cc)]) (h : cellB K p C = true) : ∃ c1 c2 c3, K.lookup cc = some ⟨c1, c2, .cell (some (.ref C)), c3⟩ := by
  unfold cellB at h
  rw [e] at h
  have h : (match fd.closure with
    | [(_, cc)] => (match K.lookup cc with
      | some ⟨_, _, .cell (some (.ref D)), _⟩ => D == C
      | _ => false)
    | _ => false) = true := h
  rw [cl] at h
  have h : (match K.lookup cc with
      | some ⟨_, _, .cell (some (.ref D)), _⟩ => D == C
      | _ => false) = true := h
  split at h
  · rename_i c1 c2 D c3 q
    rw [beq_iff_eq.mp h] at q
    exact ⟨_, _, _, q⟩
  · cases h
/-- the file that a method's code names -/
def fileB (K : PySem.W.Frag) (p : He.Defn) (file : Str) : Bool := match K.lookup (He.codeOf K p) with
  | some ⟨_, _, .fields vs, _⟩ => (match (vs[2]? : Option Value) with
    | some (.str f _) => file == f
    | _ => false)
  | _ => false
theorem fileB_ok {p : He.Defn} {file : Str} {oc : Value} {od : Option Addr} {osl : Array (Option Value)} {fd : FuncData} {c : Addr} (e : K.lookup (He.fAd K p) = some ⟨oc, od, .func fd, osl⟩) (hc : fd.code = .ref c) (h : fileB K p file = true) :
    ∃ ccl cdd ccs vs f tf, K.lookup c = some ⟨ccl, cdd, .fields vs, ccs⟩ ∧ vs[2]? = some (.str f tf) ∧ (file == f) = true := by
  have ec := He.codeOf_eq (p := p) e hc
  unfold fileB at h
  rw [ec] at h
  split at h
  · rename_i ccl cdd vs ccs q
    split at h
    · rename_i f tf q2
      exact ⟨_, _, _, _, _, _, q, q2, h⟩
    · cases h
  · cases h
/-- a tuple of texts of the module -/
def tupsB (K : PySem.W.Frag) (x : Str) (ks : List Str) : Bool := He.eqO (PySem.W.nsIn K mainGlobals x) (some (some (.ref (He.ga K x)))) && match K.lookup (He.ga K x) with
  | some ⟨.type c, none, .seq its _, _⟩ => decide (c = "tuple") && (decide (its.size ≤ sizeLine) && He.relAll (ks.map V.str) its.toList)
  | _ => false
theorem tupsB_ok {h : Heap} {mg : Str → Option Value} (X : K.In h) (G : h.Ns mainGlobals mg) {x : Str} {ks : List Str} (c : tupsB K x ks = true) : ∃ kd, mg x = some (.ref kd) ∧ ∃ (o : Obj) (its : Array Value) (n : Nat), K.lookup kd = some o ∧ o.cls = .type "tuple" ∧ o.dict = none ∧ o.data = .seq its n ∧ its.size ≤ sizeLine ∧ Vals (ks.map V.str) its.toList := by
  unfold tupsB at c
  obtain ⟨c1, c2⟩ := Bool.and_eq_true_iff.mp c
  refine ⟨_, PySem.W.mg_of X G (He.eqO_ok c1), ?_⟩
  split at c2
  · rename_i c its n sl q
    simp only [Bool.and_eq_true, decide_eq_true_eq] at c2
    obtain ⟨rfl, c3, c4⟩ := c2
    exact ⟨_, its, n, q, rfl, rfl, rfl, c3, He.relAll_ok c4⟩
  · cases c2
theorem code_ref {cd : Value} {q : Str} (h : PySem.W.codeIn K cd q = true) : ∃ c, cd = .ref c := He.codeIn_ref h
end
/-- walk_gnd and walk_gndC where the written part is told by such a Hook -/
theorem walk_gndE {l : PySem.W.OpenLaw} {n k : Nat} {q : Program} {loose : List Str} {XP : (Str → Option Value) → Heap → Prop} {YP : World → Heap → Prop} {d : DefRec} {CX : World → CXT} {x : Str}
    (hn : l.most = some n) (hn2 : n ≤ sizeLine) (hdf : d.params.defaults = []) (hr : Room k callerA)
    (F : ∀ (w : World) (s0 : Shared) (mg mb : Str → Option Value) (fa : Addr) (h : Heap), PySem.W.Ground q loose [] XP w s0 mg mb h → YP w h → mg d.name = some (.ref fa) → ∃ K : PySem.W.Frag, K.In h ∧ LamX.LawAtS l w K (CX w) k n x mg fa h)
    (hCX : ∀ (w : World) (H : Hp) (s : Shared) (e : Value) (s' : Shared), CX w [] H s (fun _ _ _ => False) e s' → False) :
    PySem.W.WalkO q loose XP YP l.row.toRowW d [] (fun f vs => PySem.call f vs) := by
  refine Att.attach_callB hn hdf ?_
  intro w s0 s1 mg mb fa o pm cd doc a vs ns G Y ho hd hcd hmg hobj hints hlen hbits hg
  obtain ⟨K, KX, fd, cs, sp, hT, nT, C, hb, hsp, hF⟩ := F w s0 mg mb fa _ G Y hmg
  refine LamX.law_callTs KX G.T.g G.T.b G.T.builtins G.T.nolimit hg hT nT C G.T.bmain hobj hints (Nat.le_trans hlen hn2) hr hF hb ?_ ?_
  · intro H hH hS
    exact hsp H a ns hlen hbits hH hS
  · intro H e s'
    exact hCX w H s1 e s'
theorem walk_gndCE {l : PySem.W.OpenLaw} {n : Nat} {q : Program} {loose : List Str} {XP : (Str → Option Value) → Heap → Prop} {YP : World → Heap → Prop} {d : DefRec} {CX : World → CXT} {x : Str}
    (hn : l.most = some n) (hn2 : n ≤ sizeLine) (hdf : d.params.defaults = [])
    (F : ∀ (w : World) (s0 : Shared) (mg mb : Str → Option Value) (fa : Addr) (h : Heap), PySem.W.Ground q loose [] XP w s0 mg mb h → YP w h → mg d.name = some (.ref fa) → ∃ K : PySem.W.Frag, K.In h ∧ ∃ fd cs sp, LawC0 l w K (CX w) n x mg fa h fd cs sp)
    (hCX : ∀ (w : World) (H : Hp) (s : Shared) (e : Value) (s' : Shared), CX w [] H s (fun _ _ _ => False) e s' → False) :
    PySem.W.WalkO q loose XP YP l.row.toRowW d [] (fun f vs => PySem.call f vs) := by
  refine Att.attach_callB hn hdf ?_
  intro w s0 s1 mg mb fa o pm cd doc a vs ns G Y ho hd hcd hmg hobj hints hlen hbits hg
  obtain ⟨K, KX, fd, cs, sp, L⟩ := F w s0 mg mb fa _ G Y hmg
  exact law_callC KX G.T.g G.T.b G.T.builtins G.T.nolimit hg L.tab L.ntab L.code G.T.bmain hobj hints (Nat.le_trans hlen hn2) L.run L.bnd (fun H hH hS => L.ask H a ns hlen hH hS) fun H e s' => hCX w H s1 e s'
end LW
namespace LW
open PySem PySem.Spec PyProof.Rows L2 GxR
abbrev HR : PySem.W.OpenRow := PySem.W.OpenLaw.row PySem.Challenge.rw_layerwharf_k06_registry_answers
def hk_c0 : List (PySem.W.Frag → Bool) := [fun K => He.eqO (PySem.W.nsIn K mainGlobals "is_address") (some (some (.ref (He.ga K "is_address")))),
  fun K => (He.Fa.code ("is_address", none) "is_address").ok K,
  fun K => PySem.W.keepIn K (.ref (He.ga K "is_address")),
  fun K => He.eqO (PySem.W.nsIn K mainGlobals "_is_platform") (some (some (.ref (He.ga K "_is_platform")))),
  fun K => (He.Fa.code ("_is_platform", none) "_is_platform").ok K,
  fun K => PySem.W.keepIn K (.ref (He.ga K "_is_platform")),
  fun K => He.eqO (PySem.W.nsIn K mainGlobals "address_of") (some (some (.ref (He.ga K "address_of")))),
  fun K => (He.Fa.code ("address_of", none) "address_of").ok K,
  fun K => PySem.W.keepIn K (.ref (He.ga K "address_of")),
  fun K => He.eqO (PySem.W.nsIn K mainGlobals "image_text") (some (some (.ref (He.ga K "image_text")))),
  fun K => (He.Fa.code ("image_text", none) "image_text").ok K,
  fun K => PySem.W.keepIn K (.ref (He.ga K "image_text")),
  fun K => He.eqO (PySem.W.nsIn K mainGlobals "bundle_text") (some (some (.ref (He.ga K "bundle_text")))),
  fun K => (He.Fa.code ("bundle_text", none) "bundle_text").ok K,
  fun K => PySem.W.keepIn K (.ref (He.ga K "bundle_text")),
  fun K => He.eqO (PySem.W.nsIn K mainGlobals "read_image") (some (some (.ref (He.ga K "read_image")))),
  fun K => (He.Fa.code ("read_image", none) "read_image").ok K,
  fun K => PySem.W.keepIn K (.ref (He.ga K "read_image")),
  fun K => He.eqO (PySem.W.nsIn K mainGlobals "read_bundle") (some (some (.ref (He.ga K "read_bundle")))),
  fun K => (He.Fa.code ("read_bundle", none) "read_bundle").ok K,
  fun K => PySem.W.keepIn K (.ref (He.ga K "read_bundle")),
  fun K => He.eqO (PySem.W.nsIn K mainGlobals "references") (some (some (.ref (He.ga K "references")))),
  fun K => (He.Fa.code ("references", none) "references").ok K,
  fun K => PySem.W.keepIn K (.ref (He.ga K "references")),
  fun K => He.eqO (PySem.W.nsIn K mainGlobals "_text_of") (some (some (.ref (He.ga K "_text_of")))),
  fun K => (He.Fa.code ("_text_of", none) "_text_of").ok K,
  fun K => PySem.W.keepIn K (.ref (He.ga K "_text_of")),
  fun K => He.eqO (PySem.W.nsIn K mainGlobals "_lines_behind") (some (some (.ref (He.ga K "_lines_behind")))),
  fun K => (He.Fa.code ("_lines_behind", none) "_lines_behind").ok K,
  fun K => PySem.W.keepIn K (.ref (He.ga K "_lines_behind")),
  fun K => He.eqO (PySem.W.nsIn K mainGlobals "_law_state") (some (some (.ref (He.ga K "_law_state")))),
  fun K => (He.Fa.code ("_law_state", none) "_law_state").ok K,
  fun K => PySem.W.keepIn K (.ref (He.ga K "_law_state")),
  fun K => He.eqO (PySem.W.nsIn K mainGlobals "_law_take") (some (some (.ref (He.ga K "_law_take")))),
  fun K => (He.Fa.code ("_law_take", none) "_law_take").ok K,
  fun K => PySem.W.keepIn K (.ref (He.ga K "_law_take")),
  fun K => He.eqO (PySem.W.nsIn K mainGlobals "_law_text") (some (some (.ref (He.ga K "_law_text")))),
  fun K => (He.Fa.code ("_law_text", none) "_law_text").ok K,
  fun K => PySem.W.keepIn K (.ref (He.ga K "_law_text")),
  fun K => He.eqO (PySem.W.nsIn K mainGlobals "_law_refs") (some (some (.ref (He.ga K "_law_refs"))))]
def hk_c1 : List (PySem.W.Frag → Bool) := [fun K => (He.Fa.code ("_law_refs", none) "_law_refs").ok K,
  fun K => PySem.W.keepIn K (.ref (He.ga K "_law_refs")),
  fun K => He.eqO (PySem.W.nsIn K mainGlobals "_law_whole") (some (some (.ref (He.ga K "_law_whole")))),
  fun K => (He.Fa.code ("_law_whole", none) "_law_whole").ok K,
  fun K => PySem.W.keepIn K (.ref (He.ga K "_law_whole")),
  fun K => He.eqO (PySem.W.nsIn K mainGlobals "_law_kept") (some (some (.ref (He.ga K "_law_kept")))),
  fun K => (He.Fa.code ("_law_kept", none) "_law_kept").ok K,
  fun K => PySem.W.keepIn K (.ref (He.ga K "_law_kept")),
  fun K => He.eqO (PySem.W.nsIn K mainGlobals "_law_finish") (some (some (.ref (He.ga K "_law_finish")))),
  fun K => (He.Fa.code ("_law_finish", none) "_law_finish").ok K,
  fun K => PySem.W.keepIn K (.ref (He.ga K "_law_finish")),
  fun K => He.eqO (PySem.W.nsIn K mainGlobals "_law_put") (some (some (.ref (He.ga K "_law_put")))),
  fun K => (He.Fa.code ("_law_put", none) "_law_put").ok K,
  fun K => PySem.W.keepIn K (.ref (He.ga K "_law_put")),
  fun K => He.eqO (PySem.W.nsIn K mainGlobals "_law_claimed") (some (some (.ref (He.ga K "_law_claimed")))),
  fun K => (He.Fa.code ("_law_claimed", none) "_law_claimed").ok K,
  fun K => PySem.W.keepIn K (.ref (He.ga K "_law_claimed")),
  fun K => He.eqO (PySem.W.nsIn K mainGlobals "_law_answer") (some (some (.ref (He.ga K "_law_answer")))),
  fun K => (He.Fa.code ("_law_answer", none) "_law_answer").ok K,
  fun K => PySem.W.keepIn K (.ref (He.ga K "_law_answer")),
  fun K => He.eqO (PySem.W.nsIn K mainGlobals "_law_without") (some (some (.ref (He.ga K "_law_without")))),
  fun K => (He.Fa.code ("_law_without", none) "_law_without").ok K,
  fun K => PySem.W.keepIn K (.ref (He.ga K "_law_without")),
  fun K => He.eqO (PySem.W.nsIn K mainGlobals "_law_address") (some (some (.ref (He.ga K "_law_address")))),
  fun K => (He.Fa.code ("_law_address", none) "_law_address").ok K,
  fun K => PySem.W.keepIn K (.ref (He.ga K "_law_address")),
  fun K => He.eqO (PySem.W.nsIn K mainGlobals "_law_text_of") (some (some (.ref (He.ga K "_law_text_of")))),
  fun K => (He.Fa.code ("_law_text_of", none) "_law_text_of").ok K,
  fun K => PySem.W.keepIn K (.ref (He.ga K "_law_text_of")),
  fun K => He.eqO (PySem.W.nsIn K mainGlobals "_law_request") (some (some (.ref (He.ga K "_law_request")))),
  fun K => (He.Fa.code ("_law_request", none) "_law_request").ok K,
  fun K => PySem.W.keepIn K (.ref (He.ga K "_law_request")),
  fun K => He.eqO (PySem.W.nsIn K mainGlobals "_law_roots") (some (some (.ref (He.ga K "_law_roots")))),
  fun K => (He.Fa.code ("_law_roots", none) "_law_roots").ok K,
  fun K => PySem.W.keepIn K (.ref (He.ga K "_law_roots")),
  fun K => He.eqO (PySem.W.nsIn K mainGlobals "law") (some (some (.ref (He.ga K "law")))),
  fun K => (He.Fa.code ("law", none) "law").ok K,
  fun K => PySem.W.keepIn K (.ref (He.ga K "law")),
  fun K => He.eqO (PySem.W.findIn K (.ref (He.ga K "Store")) "__init__") (some (some (.ref (He.ma K (He.ga K "Store") "__init__")))),
  fun K => PySem.W.isFn K (.ref (He.ma K (He.ga K "Store") "__init__"))]
def hk_c2 : List (PySem.W.Frag → Bool) := [fun K => (He.Fa.code ("Store", some "__init__") "Store.__init__").ok K,
  fun K => PySem.W.keepIn K (.ref (He.ma K (He.ga K "Store") "__init__")),
  fun K => He.eqO (PySem.W.findIn K (.ref (He.ga K "Store")) "keep") (some (some (.ref (He.ma K (He.ga K "Store") "keep")))),
  fun K => PySem.W.isFn K (.ref (He.ma K (He.ga K "Store") "keep")),
  fun K => (He.Fa.code ("Store", some "keep") "Store.keep").ok K,
  fun K => PySem.W.keepIn K (.ref (He.ma K (He.ga K "Store") "keep")),
  fun K => He.eqO (PySem.W.findIn K (.ref (He.ga K "Store")) "blob") (some (some (.ref (He.ma K (He.ga K "Store") "blob")))),
  fun K => PySem.W.isFn K (.ref (He.ma K (He.ga K "Store") "blob")),
  fun K => (He.Fa.code ("Store", some "blob") "Store.blob").ok K,
  fun K => PySem.W.keepIn K (.ref (He.ma K (He.ga K "Store") "blob")),
  fun K => He.eqO (PySem.W.findIn K (.ref (He.ga K "Store")) "addresses") (some (some (.ref (He.ma K (He.ga K "Store") "addresses")))),
  fun K => PySem.W.isFn K (.ref (He.ma K (He.ga K "Store") "addresses")),
  fun K => (He.Fa.code ("Store", some "addresses") "Store.addresses").ok K,
  fun K => PySem.W.keepIn K (.ref (He.ma K (He.ga K "Store") "addresses")),
  fun K => He.eqO (PySem.W.findIn K (.ref (He.ga K "Store")) "below") (some (some (.ref (He.ma K (He.ga K "Store") "below")))),
  fun K => PySem.W.isFn K (.ref (He.ma K (He.ga K "Store") "below")),
  fun K => (He.Fa.code ("Store", some "below") "Store.below").ok K,
  fun K => PySem.W.keepIn K (.ref (He.ma K (He.ga K "Store") "below")),
  fun K => He.eqO (PySem.W.findIn K (.ref (He.ga K "Store")) "closure") (some (some (.ref (He.ma K (He.ga K "Store") "closure")))),
  fun K => PySem.W.isFn K (.ref (He.ma K (He.ga K "Store") "closure")),
  fun K => (He.Fa.code ("Store", some "closure") "Store.closure").ok K,
  fun K => PySem.W.keepIn K (.ref (He.ma K (He.ga K "Store") "closure")),
  fun K => He.eqO (PySem.W.findIn K (.ref (He.ga K "Store")) "is_whole_of") (some (some (.ref (He.ma K (He.ga K "Store") "is_whole_of")))),
  fun K => PySem.W.isFn K (.ref (He.ma K (He.ga K "Store") "is_whole_of")),
  fun K => (He.Fa.code ("Store", some "is_whole_of") "Store.is_whole_of").ok K,
  fun K => PySem.W.keepIn K (.ref (He.ma K (He.ga K "Store") "is_whole_of")),
  fun K => He.eqO (PySem.W.findIn K (.ref (He.ga K "Store")) "_gather") (some (some (.ref (He.ma K (He.ga K "Store") "_gather")))),
  fun K => PySem.W.isFn K (.ref (He.ma K (He.ga K "Store") "_gather")),
  fun K => (He.Fa.code ("Store", some "_gather") "Store._gather").ok K,
  fun K => PySem.W.keepIn K (.ref (He.ma K (He.ga K "Store") "_gather")),
  fun K => He.eqO (PySem.W.findIn K (.ref (He.ga K "Store")) "is_whole") (some (some (.ref (He.ma K (He.ga K "Store") "is_whole")))),
  fun K => PySem.W.isFn K (.ref (He.ma K (He.ga K "Store") "is_whole")),
  fun K => (He.Fa.code ("Store", some "is_whole") "Store.is_whole").ok K,
  fun K => PySem.W.keepIn K (.ref (He.ma K (He.ga K "Store") "is_whole")),
  fun K => He.eqO (PySem.W.findIn K (.ref (He.ga K "Collector")) "__init__") (some (some (.ref (He.ma K (He.ga K "Collector") "__init__")))),
  fun K => PySem.W.isFn K (.ref (He.ma K (He.ga K "Collector") "__init__")),
  fun K => (He.Fa.code ("Collector", some "__init__") "Collector.__init__").ok K,
  fun K => PySem.W.keepIn K (.ref (He.ma K (He.ga K "Collector") "__init__")),
  fun K => He.eqO (PySem.W.findIn K (.ref (He.ga K "Collector")) "shade") (some (some (.ref (He.ma K (He.ga K "Collector") "shade")))),
  fun K => PySem.W.isFn K (.ref (He.ma K (He.ga K "Collector") "shade"))]
def hk_c3 : List (PySem.W.Frag → Bool) := [fun K => (He.Fa.code ("Collector", some "shade") "Collector.shade").ok K,
  fun K => PySem.W.keepIn K (.ref (He.ma K (He.ga K "Collector") "shade")),
  fun K => He.eqO (PySem.W.findIn K (.ref (He.ga K "Collector")) "stop") (some (some (.ref (He.ma K (He.ga K "Collector") "stop")))),
  fun K => PySem.W.isFn K (.ref (He.ma K (He.ga K "Collector") "stop")),
  fun K => (He.Fa.code ("Collector", some "stop") "Collector.stop").ok K,
  fun K => PySem.W.keepIn K (.ref (He.ma K (He.ga K "Collector") "stop")),
  fun K => He.eqO (PySem.W.findIn K (.ref (He.ga K "Claims")) "__init__") (some (some (.ref (He.ma K (He.ga K "Claims") "__init__")))),
  fun K => PySem.W.isFn K (.ref (He.ma K (He.ga K "Claims") "__init__")),
  fun K => (He.Fa.code ("Claims", some "__init__") "Claims.__init__").ok K,
  fun K => PySem.W.keepIn K (.ref (He.ma K (He.ga K "Claims") "__init__")),
  fun K => He.eqO (PySem.W.findIn K (.ref (He.ga K "Claims")) "begin") (some (some (.ref (He.ma K (He.ga K "Claims") "begin")))),
  fun K => PySem.W.isFn K (.ref (He.ma K (He.ga K "Claims") "begin")),
  fun K => (He.Fa.code ("Claims", some "begin") "Claims.begin").ok K,
  fun K => PySem.W.keepIn K (.ref (He.ma K (He.ga K "Claims") "begin")),
  fun K => He.eqO (PySem.W.findIn K (.ref (He.ga K "Claims")) "is_open") (some (some (.ref (He.ma K (He.ga K "Claims") "is_open")))),
  fun K => PySem.W.isFn K (.ref (He.ma K (He.ga K "Claims") "is_open")),
  fun K => (He.Fa.code ("Claims", some "is_open") "Claims.is_open").ok K,
  fun K => PySem.W.keepIn K (.ref (He.ma K (He.ga K "Claims") "is_open")),
  fun K => He.eqO (PySem.W.findIn K (.ref (He.ga K "Claims")) "pin") (some (some (.ref (He.ma K (He.ga K "Claims") "pin")))),
  fun K => PySem.W.isFn K (.ref (He.ma K (He.ga K "Claims") "pin")),
  fun K => (He.Fa.code ("Claims", some "pin") "Claims.pin").ok K,
  fun K => PySem.W.keepIn K (.ref (He.ma K (He.ga K "Claims") "pin")),
  fun K => He.eqO (PySem.W.findIn K (.ref (He.ga K "Claims")) "end") (some (some (.ref (He.ma K (He.ga K "Claims") "end")))),
  fun K => PySem.W.isFn K (.ref (He.ma K (He.ga K "Claims") "end")),
  fun K => (He.Fa.code ("Claims", some "end") "Claims.end").ok K,
  fun K => PySem.W.keepIn K (.ref (He.ma K (He.ga K "Claims") "end")),
  fun K => He.eqO (PySem.W.findIn K (.ref (He.ga K "Claims")) "numbers") (some (some (.ref (He.ma K (He.ga K "Claims") "numbers")))),
  fun K => PySem.W.isFn K (.ref (He.ma K (He.ga K "Claims") "numbers")),
  fun K => (He.Fa.code ("Claims", some "numbers") "Claims.numbers").ok K,
  fun K => PySem.W.keepIn K (.ref (He.ma K (He.ga K "Claims") "numbers")),
  fun K => He.eqO (PySem.W.findIn K (.ref (He.ga K "Claims")) "pinned") (some (some (.ref (He.ma K (He.ga K "Claims") "pinned")))),
  fun K => PySem.W.isFn K (.ref (He.ma K (He.ga K "Claims") "pinned")),
  fun K => (He.Fa.code ("Claims", some "pinned") "Claims.pinned").ok K,
  fun K => PySem.W.keepIn K (.ref (He.ma K (He.ga K "Claims") "pinned")),
  fun K => He.eqO (PySem.W.findIn K (.ref (He.ga K "Uploads")) "__init__") (some (some (.ref (He.ma K (He.ga K "Uploads") "__init__")))),
  fun K => PySem.W.isFn K (.ref (He.ma K (He.ga K "Uploads") "__init__")),
  fun K => (He.Fa.code ("Uploads", some "__init__") "Uploads.__init__").ok K,
  fun K => PySem.W.keepIn K (.ref (He.ma K (He.ga K "Uploads") "__init__")),
  fun K => He.eqO (PySem.W.findIn K (.ref (He.ga K "Uploads")) "begin") (some (some (.ref (He.ma K (He.ga K "Uploads") "begin")))),
  fun K => PySem.W.isFn K (.ref (He.ma K (He.ga K "Uploads") "begin"))]
def hk_c4 : List (PySem.W.Frag → Bool) := [fun K => (He.Fa.code ("Uploads", some "begin") "Uploads.begin").ok K,
  fun K => PySem.W.keepIn K (.ref (He.ma K (He.ga K "Uploads") "begin")),
  fun K => He.eqO (PySem.W.findIn K (.ref (He.ga K "Uploads")) "add_part") (some (some (.ref (He.ma K (He.ga K "Uploads") "add_part")))),
  fun K => PySem.W.isFn K (.ref (He.ma K (He.ga K "Uploads") "add_part")),
  fun K => (He.Fa.code ("Uploads", some "add_part") "Uploads.add_part").ok K,
  fun K => PySem.W.keepIn K (.ref (He.ma K (He.ga K "Uploads") "add_part")),
  fun K => He.eqO (PySem.W.findIn K (.ref (He.ga K "Uploads")) "finish") (some (some (.ref (He.ma K (He.ga K "Uploads") "finish")))),
  fun K => PySem.W.isFn K (.ref (He.ma K (He.ga K "Uploads") "finish")),
  fun K => (He.Fa.code ("Uploads", some "finish") "Uploads.finish").ok K,
  fun K => PySem.W.keepIn K (.ref (He.ma K (He.ga K "Uploads") "finish")),
  fun K => He.eqO (PySem.W.findIn K (.ref (He.ga K "Uploads")) "forget") (some (some (.ref (He.ma K (He.ga K "Uploads") "forget")))),
  fun K => PySem.W.isFn K (.ref (He.ma K (He.ga K "Uploads") "forget")),
  fun K => (He.Fa.code ("Uploads", some "forget") "Uploads.forget").ok K,
  fun K => PySem.W.keepIn K (.ref (He.ma K (He.ga K "Uploads") "forget")),
  fun K => He.eqO (PySem.W.findIn K (.ref (He.ga K "Registry")) "__init__") (some (some (.ref (He.ma K (He.ga K "Registry") "__init__")))),
  fun K => PySem.W.isFn K (.ref (He.ma K (He.ga K "Registry") "__init__")),
  fun K => (He.Fa.code ("Registry", some "__init__") "Registry.__init__").ok K,
  fun K => PySem.W.keepIn K (.ref (He.ma K (He.ga K "Registry") "__init__")),
  fun K => He.eqO (PySem.W.findIn K (.ref (He.ga K "Registry")) "answer") (some (some (.ref (He.ma K (He.ga K "Registry") "answer")))),
  fun K => PySem.W.isFn K (.ref (He.ma K (He.ga K "Registry") "answer")),
  fun K => (He.Fa.code ("Registry", some "answer") "Registry.answer").ok K,
  fun K => PySem.W.keepIn K (.ref (He.ma K (He.ga K "Registry") "answer")),
  fun K => He.eqO (PySem.W.findIn K (.ref (He.ga K "Registry")) "drop_name") (some (some (.ref (He.ma K (He.ga K "Registry") "drop_name")))),
  fun K => PySem.W.isFn K (.ref (He.ma K (He.ga K "Registry") "drop_name")),
  fun K => (He.Fa.code ("Registry", some "drop_name") "Registry.drop_name").ok K,
  fun K => PySem.W.keepIn K (.ref (He.ma K (He.ga K "Registry") "drop_name")),
  fun K => He.eqO (PySem.W.findIn K (.ref (He.ga K "Registry")) "lapse") (some (some (.ref (He.ma K (He.ga K "Registry") "lapse")))),
  fun K => PySem.W.isFn K (.ref (He.ma K (He.ga K "Registry") "lapse")),
  fun K => (He.Fa.code ("Registry", some "lapse") "Registry.lapse").ok K,
  fun K => PySem.W.keepIn K (.ref (He.ma K (He.ga K "Registry") "lapse")),
  fun K => He.eqO (PySem.W.findIn K (.ref (He.ga K "Registry")) "fall") (some (some (.ref (He.ma K (He.ga K "Registry") "fall")))),
  fun K => PySem.W.isFn K (.ref (He.ma K (He.ga K "Registry") "fall")),
  fun K => (He.Fa.code ("Registry", some "fall") "Registry.fall").ok K,
  fun K => PySem.W.keepIn K (.ref (He.ma K (He.ga K "Registry") "fall")),
  fun K => He.eqO (PySem.W.findIn K (.ref (He.ga K "Registry")) "roots") (some (some (.ref (He.ma K (He.ga K "Registry") "roots")))),
  fun K => PySem.W.isFn K (.ref (He.ma K (He.ga K "Registry") "roots")),
  fun K => (He.Fa.code ("Registry", some "roots") "Registry.roots").ok K,
  fun K => PySem.W.keepIn K (.ref (He.ma K (He.ga K "Registry") "roots")),
  fun K => He.eqO (PySem.W.findIn K (.ref (He.ga K "Registry")) "_answer_under") (some (some (.ref (He.ma K (He.ga K "Registry") "_answer_under")))),
  fun K => PySem.W.isFn K (.ref (He.ma K (He.ga K "Registry") "_answer_under"))]
def hk_c5 : List (PySem.W.Frag → Bool) := [fun K => (He.Fa.code ("Registry", some "_answer_under") "Registry._answer_under").ok K,
  fun K => PySem.W.keepIn K (.ref (He.ma K (He.ga K "Registry") "_answer_under")),
  fun K => He.eqO (PySem.W.findIn K (.ref (He.ga K "Registry")) "_finish") (some (some (.ref (He.ma K (He.ga K "Registry") "_finish")))),
  fun K => PySem.W.isFn K (.ref (He.ma K (He.ga K "Registry") "_finish")),
  fun K => (He.Fa.code ("Registry", some "_finish") "Registry._finish").ok K,
  fun K => PySem.W.keepIn K (.ref (He.ma K (He.ga K "Registry") "_finish")),
  fun K => He.eqO (PySem.W.findIn K (.ref (He.ga K "Registry")) "_put") (some (some (.ref (He.ma K (He.ga K "Registry") "_put")))),
  fun K => PySem.W.isFn K (.ref (He.ma K (He.ga K "Registry") "_put")),
  fun K => (He.Fa.code ("Registry", some "_put") "Registry._put").ok K,
  fun K => PySem.W.keepIn K (.ref (He.ma K (He.ga K "Registry") "_put")),
  fun K => He.eqO (PySem.W.findIn K (.ref (He.ga K "Registry")) "_name") (some (some (.ref (He.ma K (He.ga K "Registry") "_name")))),
  fun K => PySem.W.isFn K (.ref (He.ma K (He.ga K "Registry") "_name")),
  fun K => (He.Fa.code ("Registry", some "_name") "Registry._name").ok K,
  fun K => PySem.W.keepIn K (.ref (He.ma K (He.ga K "Registry") "_name")),
  fun K => He.eqO (PySem.W.findIn K (.ref (He.ga K "Registry")) "_piece") (some (some (.ref (He.ma K (He.ga K "Registry") "_piece")))),
  fun K => PySem.W.isFn K (.ref (He.ma K (He.ga K "Registry") "_piece")),
  fun K => (He.Fa.code ("Registry", some "_piece") "Registry._piece").ok K,
  fun K => PySem.W.keepIn K (.ref (He.ma K (He.ga K "Registry") "_piece")),
  fun K => He.eqO (PySem.W.findIn K (.ref (He.ga K "Registry")) "_keep") (some (some (.ref (He.ma K (He.ga K "Registry") "_keep")))),
  fun K => PySem.W.isFn K (.ref (He.ma K (He.ga K "Registry") "_keep")),
  fun K => (He.Fa.code ("Registry", some "_keep") "Registry._keep").ok K,
  fun K => PySem.W.keepIn K (.ref (He.ma K (He.ga K "Registry") "_keep")),
  fun K => He.eqO (PySem.W.findIn K (.ref (He.ga K "Registry")) "_pin") (some (some (.ref (He.ma K (He.ga K "Registry") "_pin")))),
  fun K => PySem.W.isFn K (.ref (He.ma K (He.ga K "Registry") "_pin")),
  fun K => (He.Fa.code ("Registry", some "_pin") "Registry._pin").ok K,
  fun K => PySem.W.keepIn K (.ref (He.ma K (He.ga K "Registry") "_pin")),
  fun K => He.eqO (PySem.W.nsIn K mainGlobals "len") (some none),
  fun K => He.eqO (PySem.W.nsIn K mainGlobals "int") (some none),
  fun K => He.eqO (PySem.W.nsIn K mainGlobals "abs") (some none),
  fun K => He.eqO (PySem.W.nsIn K mainGlobals "all") (some none),
  fun K => He.eqO (PySem.W.nsIn K mainGlobals "range") (some none),
  fun K => He.eqO (PySem.W.nsIn K mainGlobals "isinstance") (some none),
  fun K => He.eqO (PySem.W.nsIn K mainGlobals "str") (some none),
  fun K => He.eqO (PySem.W.nsIn K mainGlobals "bool") (some none),
  fun K => He.eqO (PySem.W.nsIn K mainGlobals "list") (some none),
  fun K => He.eqO (PySem.W.nsIn K mainGlobals "enumerate") (some none),
  fun K => He.eqO (PySem.W.nsIn K mainGlobals "super") (some none),
  fun K => He.eqO (PySem.W.nsIn K mainGlobals "ValueError") (some none),
  fun K => He.eqO (PySem.W.nsIn K mainGlobals "ord") (some none),
  fun K => He.eqO (PySem.W.nsIn K mainGlobals "repr") (some none)]
def hk_c6 : List (PySem.W.Frag → Bool) := [fun K => He.eqO (PySem.W.nsIn K mainGlobals "sorted") (some none),
  fun K => He.eqO (PySem.W.nsIn K mainGlobals "set") (some none),
  fun K => He.eqO (PySem.W.nsIn K mainGlobals "any") (some none),
  fun K => He.eqO (PySem.W.nsIn K mainGlobals "tuple") (some none),
  fun K => (He.Fa.int "_FACTOR" 257).ok K,
  fun K => (He.Fa.str "_DIGITS" "0123456789abcdef").ok K,
  fun K => (He.Fa.int "_LENGTH" 16).ok K,
  fun K => (He.Fa.str "_IMAGE" "image").ok K,
  fun K => (He.Fa.str "_BUNDLE" "bundle").ok K,
  fun K => (He.Fa.int "_MOST_LINES" 50).ok K,
  fun K => (He.Fa.str "_LETTERS" "abcdefghijklmnopqrstuvwxyz").ok K,
  fun K => (He.Fa.int "_LONGEST_PLATFORM" 10).ok K,
  fun K => (He.Fa.str "_IDLE" "idle").ok K,
  fun K => He.eqO (PySem.W.nsIn K mainGlobals "Store") (some (some (.ref (He.ga K "Store")))),
  fun K => PySem.W.plainGet K (He.ga K "Store") Str.empty,
  fun K => PySem.W.hasDictIn K (He.ga K "Store"),
  fun K => PySem.W.plainOver K (He.ga K "Store"),
  fun K => PySem.W.makesIn K (He.ga K "Store"),
  fun K => PySem.W.keepIn K (.ref (He.ga K "Store")),
  fun K => He.eqO (PySem.W.findIn K (.ref (He.ga K "Store")) "__setattr__") (some (some (.builtin "object.__setattr__"))),
  fun K => He.eqO (PySem.W.nsIn K mainGlobals "Collector") (some (some (.ref (He.ga K "Collector")))),
  fun K => PySem.W.plainGet K (He.ga K "Collector") Str.empty,
  fun K => PySem.W.hasDictIn K (He.ga K "Collector"),
  fun K => PySem.W.plainOver K (He.ga K "Collector"),
  fun K => PySem.W.makesIn K (He.ga K "Collector"),
  fun K => PySem.W.keepIn K (.ref (He.ga K "Collector")),
  fun K => He.eqO (PySem.W.findIn K (.ref (He.ga K "Collector")) "__setattr__") (some (some (.builtin "object.__setattr__"))),
  fun K => He.eqO (PySem.W.nsIn K mainGlobals "Claims") (some (some (.ref (He.ga K "Claims")))),
  fun K => PySem.W.plainGet K (He.ga K "Claims") Str.empty,
  fun K => PySem.W.hasDictIn K (He.ga K "Claims"),
  fun K => PySem.W.plainOver K (He.ga K "Claims"),
  fun K => PySem.W.makesIn K (He.ga K "Claims"),
  fun K => PySem.W.keepIn K (.ref (He.ga K "Claims")),
  fun K => He.eqO (PySem.W.findIn K (.ref (He.ga K "Claims")) "__setattr__") (some (some (.builtin "object.__setattr__"))),
  fun K => He.eqO (PySem.W.nsIn K mainGlobals "Uploads") (some (some (.ref (He.ga K "Uploads")))),
  fun K => PySem.W.plainGet K (He.ga K "Uploads") Str.empty,
  fun K => PySem.W.hasDictIn K (He.ga K "Uploads"),
  fun K => PySem.W.plainOver K (He.ga K "Uploads"),
  fun K => PySem.W.makesIn K (He.ga K "Uploads"),
  fun K => PySem.W.keepIn K (.ref (He.ga K "Uploads"))]
def hk_c7 : List (PySem.W.Frag → Bool) := [fun K => He.eqO (PySem.W.findIn K (.ref (He.ga K "Uploads")) "__setattr__") (some (some (.builtin "object.__setattr__"))),
  fun K => He.eqO (PySem.W.nsIn K mainGlobals "Registry") (some (some (.ref (He.ga K "Registry")))),
  fun K => PySem.W.plainGet K (He.ga K "Registry") Str.empty,
  fun K => PySem.W.hasDictIn K (He.ga K "Registry"),
  fun K => PySem.W.plainOver K (He.ga K "Registry"),
  fun K => PySem.W.makesIn K (He.ga K "Registry"),
  fun K => PySem.W.keepIn K (.ref (He.ga K "Registry")),
  fun K => He.eqO (PySem.W.findIn K (.ref (He.ga K "Registry")) "__setattr__") (some (some (.builtin "object.__setattr__"))),
  fun K => He.eqO (PySem.W.findIn K (.ref (He.ga K "Collector")) "_store") (some none),
  fun K => He.eqO (PySem.W.findIn K (.ref (He.ga K "Collector")) "_waiting") (some none),
  fun K => He.eqO (PySem.W.findIn K (.ref (He.ga K "Collector")) "phase") (some none),
  fun K => He.eqO (PySem.W.findIn K (.ref (He.ga K "Collector")) "marked") (some none),
  fun K => He.eqO (PySem.W.findIn K (.ref (He.ga K "Claims")) "_last") (some none),
  fun K => He.eqO (PySem.W.findIn K (.ref (He.ga K "Claims")) "_pins") (some none),
  fun K => He.eqO (PySem.W.findIn K (.ref (He.ga K "Uploads")) "_last") (some none),
  fun K => He.eqO (PySem.W.findIn K (.ref (He.ga K "Uploads")) "_texts") (some none),
  fun K => He.eqO (PySem.W.findIn K (.ref (He.ga K "Registry")) "store") (some none),
  fun K => He.eqO (PySem.W.findIn K (.ref (He.ga K "Registry")) "names") (some none),
  fun K => He.eqO (PySem.W.findIn K (.ref (He.ga K "Registry")) "claims") (some none),
  fun K => He.eqO (PySem.W.findIn K (.ref (He.ga K "Registry")) "uploads") (some none),
  fun K => He.eqO (PySem.W.findIn K (.ref (He.ga K "Registry")) "collector") (some none),
  fun K => He.eqO (PySem.W.findIn K (.ref (He.ga K "Store")) "_blobs") (some none),
  fun K => He.eqO (PySem.W.nsIn K mainGlobals "Malformed") (some (some (.ref (He.ga K "Malformed")))),
  fun K => He.eqO (PySem.W.nsIn K mainGlobals "Refused") (some (some (.ref (He.ga K "Refused")))),
  fun K => excB K (He.ga K "Malformed"),
  fun K => He.eqO (PySem.W.findIn K (.ref (He.ga K "Malformed")) "__setattr__") (some (some (.builtin "object.__setattr__"))),
  fun K => He.eqO (PySem.W.findIn K (.ref (He.ga K "Malformed")) "line") (some none),
  fun K => He.eqO (PySem.W.findIn K (.ref (He.ga K "Malformed")) "__init__") (some (some (.ref (He.ma K (He.ga K "Malformed") "__init__")))),
  fun K => decide (PySem.W.typeIn K (.ref (He.ma K (He.ga K "Malformed") "__init__")) = some (.type "function")),
  fun K => (He.Fa.code ("Malformed", some "__init__") "Malformed.__init__").ok K,
  fun K => cellB K ("Malformed", some "__init__") (He.ga K "Malformed"),
  fun K => fileB K ("Malformed", some "__init__") (PySem.Challenge.pw_layerwharf_k06_registry_answers.main.file : Str),
  fun K => He.eqO (PySem.W.nsIn K cStatics "thirdparty.any") (some none),
  fun K => decide (PySem.W.mroIn K (He.ga K "Malformed") (.ref (He.ga K "Malformed")) = some true),
  fun K => decide (PySem.W.ks_superIn K (He.ga K "Malformed") (He.ga K "Malformed") "__init__" = some (some (.builtin "ValueError.__init__"))),
  fun K => decide (PySem.W.subIn K (.ref (He.ga K "Malformed")) (.type "ValueError") = some true),
  fun K => decide (PySem.W.subIn K (.ref (He.ga K "Malformed")) (.type "BaseException") = some true),
  fun K => decide (PySem.W.typeIn K (.ref (He.ga K "Malformed")) = some (.type "type")),
  fun K => decide (PySem.W.subIn K (.ref (He.ga K "Malformed")) (.ref (He.ga K "Malformed")) = some true),
  fun K => PySem.W.keepIn K (.ref (He.ga K "Malformed"))]
def hk_c8 : List (PySem.W.Frag → Bool) := [fun K => PySem.W.hasDictIn K (He.ga K "Malformed"),
  fun K => tupsB K "KINDS" ["layer", "image", "bundle"],
  fun K => He.eqO (PySem.W.nsIn K mainGlobals "BELOW") (some (some (.ref (He.ga K "BELOW")))),
  fun K => strV (valN K "BELOW" "image") "layer",
  fun K => strV (valN K "BELOW" "bundle") "image",
  fun K => He.eqO (PySem.W.nsIn K mainGlobals "_CLAIM_AT") (some (some (.ref (He.ga K "_CLAIM_AT")))),
  fun K => intV (valN K "_CLAIM_AT" "has") 1,
  fun K => intV (valN K "_CLAIM_AT" "start") 1,
  fun K => intV (valN K "_CLAIM_AT" "finish") 2,
  fun K => intV (valN K "_CLAIM_AT" "put") 1,
  fun K => intV (valN K "_CLAIM_AT" "name") 1,
  fun K => He.eqO (valN K "_CLAIM_AT" "open") (some none),
  fun K => He.eqO (valN K "_CLAIM_AT" "part") (some none),
  fun K => He.eqO (valN K "_CLAIM_AT" "close") (some none),
  fun K => He.eqO (valN K "_CLAIM_AT" "look") (some none),
  fun K => He.eqO (valN K "_CLAIM_AT" "get") (some none),
  fun K => He.eqO (valN K "_CLAIM_AT" "drop") (some none),
  fun K => (He.Fa.int "_MODULUS" 2305843009213693951).ok K]
def hk_fn : List He.FnD := [⟨("is_address", none), "is_address", "is_address", defArgs s_is_address, defBody s_is_address, defScope s_is_address⟩,
  ⟨("_is_platform", none), "_is_platform", "_is_platform", defArgs s_is_platform, defBody s_is_platform, defScope s_is_platform⟩,
  ⟨("address_of", none), "address_of", "address_of", defArgs s_address_of, defBody s_address_of, defScope s_address_of⟩,
  ⟨("image_text", none), "image_text", "image_text", defArgs s_image_text, defBody s_image_text, defScope s_image_text⟩,
  ⟨("bundle_text", none), "bundle_text", "bundle_text", defArgs s_bundle_text, defBody s_bundle_text, defScope s_bundle_text⟩,
  ⟨("read_image", none), "read_image", "read_image", defArgs s_read_image, defBody s_read_image, defScope s_read_image⟩,
  ⟨("read_bundle", none), "read_bundle", "read_bundle", defArgs s_read_bundle, defBody s_read_bundle, defScope s_read_bundle⟩,
  ⟨("references", none), "references", "references", defArgs s_references, defBody s_references, defScope s_references⟩,
  ⟨("_text_of", none), "_text_of", "_text_of", defArgs s_text_of, defBody s_text_of, defScope s_text_of⟩,
  ⟨("_lines_behind", none), "_lines_behind", "_lines_behind", defArgs s_lines_behind, defBody s_lines_behind, defScope s_lines_behind⟩,
  ⟨("_law_state", none), "_law_state", "_law_state", defArgs s_law_state, defBody s_law_state, defScope s_law_state⟩,
  ⟨("_law_take", none), "_law_take", "_law_take", defArgs s_law_take, defBody s_law_take, defScope s_law_take⟩,
  ⟨("_law_text", none), "_law_text", "_law_text", defArgs s_law_text, defBody s_law_text, defScope s_law_text⟩,
  ⟨("_law_refs", none), "_law_refs", "_law_refs", defArgs s_law_refs, defBody s_law_refs, defScope s_law_refs⟩,
  ⟨("_law_whole", none), "_law_whole", "_law_whole", defArgs s_law_whole, defBody s_law_whole, defScope s_law_whole⟩,
  ⟨("_law_kept", none), "_law_kept", "_law_kept", defArgs s_law_kept, defBody s_law_kept, defScope s_law_kept⟩,
  ⟨("_law_finish", none), "_law_finish", "_law_finish", defArgs s_law_finish, defBody s_law_finish, defScope s_law_finish⟩,
  ⟨("_law_put", none), "_law_put", "_law_put", defArgs s_law_put, defBody s_law_put, defScope s_law_put⟩,
  ⟨("_law_claimed", none), "_law_claimed", "_law_claimed", defArgs s_law_claimed, defBody s_law_claimed, defScope s_law_claimed⟩,
  ⟨("_law_answer", none), "_law_answer", "_law_answer", defArgs s_law_answer, defBody s_law_answer, defScope s_law_answer⟩,
  ⟨("_law_without", none), "_law_without", "_law_without", defArgs s_law_without, defBody s_law_without, defScope s_law_without⟩,
  ⟨("_law_address", none), "_law_address", "_law_address", defArgs s_law_address, defBody s_law_address, defScope s_law_address⟩,
  ⟨("_law_text_of", none), "_law_text_of", "_law_text_of", defArgs s_law_text_of, defBody s_law_text_of, defScope s_law_text_of⟩,
  ⟨("_law_request", none), "_law_request", "_law_request", defArgs s_law_request, defBody s_law_request, defScope s_law_request⟩,
  ⟨("_law_roots", none), "_law_roots", "_law_roots", defArgs s_law_roots, defBody s_law_roots, defScope s_law_roots⟩,
  ⟨("law", none), "law", "law", defArgs s_law, defBody s_law, defScope s_law⟩,
  ⟨("Store", some "__init__"), "__init__", "Store.__init__", defArgs s_Store___init, defBody s_Store___init, defScope s_Store___init⟩,
  ⟨("Store", some "keep"), "keep", "Store.keep", defArgs s_Store_keep, defBody s_Store_keep, defScope s_Store_keep⟩,
  ⟨("Store", some "blob"), "blob", "Store.blob", defArgs s_Store_blob, defBody s_Store_blob, defScope s_Store_blob⟩,
  ⟨("Store", some "addresses"), "addresses", "Store.addresses", defArgs s_Store_addresses, defBody s_Store_addresses, defScope s_Store_addresses⟩,
  ⟨("Store", some "below"), "below", "Store.below", defArgs s_Store_below, defBody s_Store_below, defScope s_Store_below⟩,
  ⟨("Store", some "closure"), "closure", "Store.closure", defArgs s_Store_closure, defBody s_Store_closure, defScope s_Store_closure⟩,
  ⟨("Store", some "is_whole_of"), "is_whole_of", "Store.is_whole_of", defArgs s_Store__is_whole_of, defBody s_Store__is_whole_of, defScope s_Store__is_whole_of⟩,
  ⟨("Store", some "_gather"), "_gather", "Store._gather", defArgs s_Store__gather, defBody s_Store__gather, defScope s_Store__gather⟩,
  ⟨("Store", some "is_whole"), "is_whole", "Store.is_whole", defArgs s_Store_is_whole, defBody s_Store_is_whole, defScope s_Store_is_whole⟩,
  ⟨("Collector", some "__init__"), "__init__", "Collector.__init__", defArgs s_Collector___init, defBody s_Collector___init, defScope s_Collector___init⟩,
  ⟨("Collector", some "shade"), "shade", "Collector.shade", defArgs s_Collector_shade, defBody s_Collector_shade, defScope s_Collector_shade⟩,
  ⟨("Collector", some "stop"), "stop", "Collector.stop", defArgs s_Collector_stop, defBody s_Collector_stop, defScope s_Collector_stop⟩,
  ⟨("Claims", some "__init__"), "__init__", "Claims.__init__", defArgs s_Claims___init, defBody s_Claims___init, defScope s_Claims___init⟩,
  ⟨("Claims", some "begin"), "begin", "Claims.begin", defArgs s_Claims_begin, defBody s_Claims_begin, defScope s_Claims_begin⟩,
  ⟨("Claims", some "is_open"), "is_open", "Claims.is_open", defArgs s_Claims_is_open, defBody s_Claims_is_open, defScope s_Claims_is_open⟩,
  ⟨("Claims", some "pin"), "pin", "Claims.pin", defArgs s_Claims_pin, defBody s_Claims_pin, defScope s_Claims_pin⟩,
  ⟨("Claims", some "end"), "end", "Claims.end", defArgs s_Claims_end, defBody s_Claims_end, defScope s_Claims_end⟩,
  ⟨("Claims", some "numbers"), "numbers", "Claims.numbers", defArgs s_Claims_numbers, defBody s_Claims_numbers, defScope s_Claims_numbers⟩,
  ⟨("Claims", some "pinned"), "pinned", "Claims.pinned", defArgs s_Claims_pinned, defBody s_Claims_pinned, defScope s_Claims_pinned⟩,
  ⟨("Uploads", some "__init__"), "__init__", "Uploads.__init__", defArgs s_Uploads___init, defBody s_Uploads___init, defScope s_Uploads___init⟩,
  ⟨("Uploads", some "begin"), "begin", "Uploads.begin", defArgs s_Uploads_begin, defBody s_Uploads_begin, defScope s_Uploads_begin⟩,
  ⟨("Uploads", some "add_part"), "add_part", "Uploads.add_part", defArgs s_Uploads_add_part, defBody s_Uploads_add_part, defScope s_Uploads_add_part⟩,
  ⟨("Uploads", some "finish"), "finish", "Uploads.finish", defArgs s_Uploads_finish, defBody s_Uploads_finish, defScope s_Uploads_finish⟩,
  ⟨("Uploads", some "forget"), "forget", "Uploads.forget", defArgs s_Uploads_forget, defBody s_Uploads_forget, defScope s_Uploads_forget⟩,
  ⟨("Registry", some "__init__"), "__init__", "Registry.__init__", defArgs s_Registry___init, defBody s_Registry___init, defScope s_Registry___init⟩,
  ⟨("Registry", some "answer"), "answer", "Registry.answer", defArgs s_Registry_answer, defBody s_Registry_answer, defScope s_Registry_answer⟩,
  ⟨("Registry", some "drop_name"), "drop_name", "Registry.drop_name", defArgs s_Registry_drop_name, defBody s_Registry_drop_name, defScope s_Registry_drop_name⟩,
  ⟨("Registry", some "lapse"), "lapse", "Registry.lapse", defArgs s_Registry_lapse, defBody s_Registry_lapse, defScope s_Registry_lapse⟩,
  ⟨("Registry", some "fall"), "fall", "Registry.fall", defArgs s_Registry_fall, defBody s_Registry_fall, defScope s_Registry_fall⟩,
  ⟨("Registry", some "roots"), "roots", "Registry.roots", defArgs s_Registry_roots, defBody s_Registry_roots, defScope s_Registry_roots⟩,
  ⟨("Registry", some "_answer_under"), "_answer_under", "Registry._answer_under", defArgs s_Registry__answer_under, defBody s_Registry__answer_under, defScope s_Registry__answer_under⟩,
  ⟨("Registry", some "_finish"), "_finish", "Registry._finish", defArgs s_Registry__finish, defBody s_Registry__finish, defScope s_Registry__finish⟩,
  ⟨("Registry", some "_put"), "_put", "Registry._put", defArgs s_Registry__put, defBody s_Registry__put, defScope s_Registry__put⟩,
  ⟨("Registry", some "_name"), "_name", "Registry._name", defArgs s_Registry__name, defBody s_Registry__name, defScope s_Registry__name⟩,
  ⟨("Registry", some "_piece"), "_piece", "Registry._piece", defArgs s_Registry__piece, defBody s_Registry__piece, defScope s_Registry__piece⟩,
  ⟨("Registry", some "_keep"), "_keep", "Registry._keep", defArgs s_Registry__keep, defBody s_Registry__keep, defScope s_Registry__keep⟩,
  ⟨("Registry", some "_pin"), "_pin", "Registry._pin", defArgs s_Registry__pin, defBody s_Registry__pin, defScope s_Registry__pin⟩]
def hk_fc : List He.FnD := [⟨("Malformed", some "__init__"), "__init__", "Malformed.__init__", defArgs s_init, defBody s_init, defScope s_init⟩]
def hk_ts : List He.Tab := [((fun K => He.ga K "BELOW"), ["image", "bundle"]), ((fun K => He.ga K "_CLAIM_AT"), ["has", "start", "finish", "put", "name"])]
def hk : HkD := ⟨1200, hk_c0 ++ (hk_c1 ++ (hk_c2 ++ (hk_c3 ++ (hk_c4 ++ (hk_c5 ++ (hk_c6 ++ (hk_c7 ++ (hk_c8)))))))), hk_fn, hk_fc, hk_ts, [("is_address", none), ("_is_platform", none), ("Store", some "is_whole"), ("Registry", some "_name")]⟩
def hk_loose : List Str := (["_wall", "KINDS", "_FACTOR", "_MODULUS", "_DIGITS", "_LENGTH", "address_of", "is_address", "Claims", "_IDLE", "Collector", "Refused", "Malformed", "_IMAGE", "_BUNDLE", "_MOST_LINES", "_LETTERS", "_LONGEST_PLATFORM", "image_text", "bundle_text", "read_image", "read_bundle", "references", "_text_of", "_lines_behind", "_is_platform", "BELOW", "Store", "Uploads", "_CLAIM_AT"] : List Str) ++ (["Registry", "_law_state", "_law_take", "_law_bits", "_law_text", "_law_refs", "_law_whole", "_law_kept", "_law_finish", "_law_put", "_law_claimed", "_law_answer", "_law_without", "_law_address", "_law_text_of", "_law_request", "_law_roots"] : List Str)
abbrev hk_view : Program := PySem.W.view HR.prog [56]
theorem hk_runF (w : World) : HandSHeadRun.RunEq HR hk_view hk.hook (fun s => hk.obsG (HandSHeadRun.getT s)) 12000 hk_loose (w.withFollow "special-get-raises" false) := by intro os; kernel_rfl
theorem hk_runT (w : World) : HandSHeadRun.RunEq HR hk_view hk.hook (fun s => hk.obsG (HandSHeadRun.getT s)) 12000 hk_loose (w.withFollow "special-get-raises" true) := by intro os; kernel_rfl
theorem hk_run (w : World) : HandSHeadRun.RunEq HR hk_view hk.hook (fun s => hk.obsG (HandSHeadRun.getT s)) 12000 hk_loose w :=
  PySem.W.byRow2 "special-get-raises" (P := fun w => HandSHeadRun.RunEq HR hk_view hk.hook (fun s => hk.obsG (HandSHeadRun.getT s)) 12000 hk_loose w) hk_runF hk_runT w
set_option maxHeartbeats 0 in
theorem hk_fin {w : World} {h : Heap} {K : PySem.W.Frag} {mg : Str → Option Value} {fa : Addr} (c : HkSays hk w h K) (G : h.Ns mainGlobals mg) (hfa : mg "law" = some (.ref fa)) : ∃ fd cs sp, LawC0 PySem.Challenge.rw_layerwharf_k06_registry_answers w K CX0 63 "script" mg fa h fd cs sp := by
  obtain ⟨_, _, _, _, _, _, _, c0_ia, _, l_ia, cc_ia⟩ := c.def_ 0 rfl (c.fact 1 rfl)
  obtain ⟨c_ia, rfl⟩ := code_ref cc_ia
  obtain ⟨_, _, _, _, _, _, _, c0_ip, _, l_ip, cc_ip⟩ := c.def_ 1 rfl (c.fact 4 rfl)
  obtain ⟨c_ip, rfl⟩ := code_ref cc_ip
  obtain ⟨_, _, _, _, _, _, _, c0_ad, _, l_ad, cc_ad⟩ := c.def_ 2 rfl (c.fact 7 rfl)
  obtain ⟨_, _, _, _, _, _, _, c0_it, _, l_it, cc_it⟩ := c.def_ 3 rfl (c.fact 10 rfl)
  obtain ⟨_, _, _, _, _, _, _, c0_bt, _, l_bt, cc_bt⟩ := c.def_ 4 rfl (c.fact 13 rfl)
  obtain ⟨_, _, _, _, _, _, _, c0_ri, _, l_ri, cc_ri⟩ := c.def_ 5 rfl (c.fact 16 rfl)
  obtain ⟨_, _, _, _, _, _, _, c0_rb, _, l_rb, cc_rb⟩ := c.def_ 6 rfl (c.fact 19 rfl)
  obtain ⟨_, _, _, _, _, _, _, c0_rf, _, l_rf, cc_rf⟩ := c.def_ 7 rfl (c.fact 22 rfl)
  obtain ⟨_, _, _, _, _, _, _, c0_to, _, l_to, cc_to⟩ := c.def_ 8 rfl (c.fact 25 rfl)
  obtain ⟨_, _, _, _, _, _, _, c0_lb, _, l_lb, cc_lb⟩ := c.def_ 9 rfl (c.fact 28 rfl)
  obtain ⟨_, _, _, _, _, _, _, c0_ls, _, l_ls, cc_ls⟩ := c.def_ 10 rfl (c.fact 31 rfl)
  obtain ⟨_, _, _, _, _, _, _, c0_lt, _, l_lt, cc_lt⟩ := c.def_ 11 rfl (c.fact 34 rfl)
  obtain ⟨_, _, _, _, _, _, _, c0_lx, _, l_lx, cc_lx⟩ := c.def_ 12 rfl (c.fact 37 rfl)
  obtain ⟨_, _, _, _, _, _, _, c0_lr, _, l_lr, cc_lr⟩ := c.def_ 13 rfl (c.fact 40 rfl)
  obtain ⟨_, _, _, _, _, _, _, c0_lh, _, l_lh, cc_lh⟩ := c.def_ 14 rfl (c.fact 43 rfl)
  obtain ⟨_, _, _, _, _, _, _, c0_lk, _, l_lk, cc_lk⟩ := c.def_ 15 rfl (c.fact 46 rfl)
  obtain ⟨_, _, _, _, _, _, _, c0_lf, _, l_lf, cc_lf⟩ := c.def_ 16 rfl (c.fact 49 rfl)
  obtain ⟨_, _, _, _, _, _, _, c0_lp, _, l_lp, cc_lp⟩ := c.def_ 17 rfl (c.fact 52 rfl)
  obtain ⟨_, _, _, _, _, _, _, c0_lc, _, l_lc, cc_lc⟩ := c.def_ 18 rfl (c.fact 55 rfl)
  obtain ⟨_, _, _, _, _, _, _, c0_la, _, l_la, cc_la⟩ := c.def_ 19 rfl (c.fact 58 rfl)
  obtain ⟨_, _, _, _, _, _, _, c0_lo, _, l_lo, cc_lo⟩ := c.def_ 20 rfl (c.fact 61 rfl)
  obtain ⟨_, _, _, _, _, _, _, c0_ld, _, l_ld, cc_ld⟩ := c.def_ 21 rfl (c.fact 64 rfl)
  obtain ⟨_, _, _, _, _, _, _, c0_le, _, l_le, cc_le⟩ := c.def_ 22 rfl (c.fact 67 rfl)
  obtain ⟨_, _, _, _, _, _, _, c0_lq, _, l_lq, cc_lq⟩ := c.def_ 23 rfl (c.fact 70 rfl)
  obtain ⟨_, _, _, _, _, _, _, c0_ln, _, l_ln, cc_ln⟩ := c.def_ 24 rfl (c.fact 73 rfl)
  obtain ⟨_, _, _, _, _, _, _, c0_lw, _, l_lw, cc_lw⟩ := c.def_ 25 rfl (c.fact 76 rfl)
  obtain ⟨_, _, _, _, _, _, _, c0_si, _, l_si, cc_si⟩ := c.def_ 26 rfl (c.fact 80 rfl)
  obtain ⟨_, _, _, _, _, _, _, c0_sk, _, l_sk, cc_sk⟩ := c.def_ 27 rfl (c.fact 84 rfl)
  obtain ⟨_, _, _, _, _, _, _, c0_sb, _, l_sb, cc_sb⟩ := c.def_ 28 rfl (c.fact 88 rfl)
  obtain ⟨_, _, _, _, _, _, _, c0_sd, _, l_sd, cc_sd⟩ := c.def_ 29 rfl (c.fact 92 rfl)
  obtain ⟨_, _, _, _, _, _, _, c0_sl, _, l_sl, cc_sl⟩ := c.def_ 30 rfl (c.fact 96 rfl)
  obtain ⟨_, _, _, _, _, _, _, c0_sc, _, l_sc, cc_sc⟩ := c.def_ 31 rfl (c.fact 100 rfl)
  obtain ⟨_, _, _, _, _, _, _, c0_so, _, l_so, cc_so⟩ := c.def_ 32 rfl (c.fact 104 rfl)
  obtain ⟨_, _, _, _, _, _, _, c0_sg, _, l_sg, cc_sg⟩ := c.def_ 33 rfl (c.fact 108 rfl)
  obtain ⟨_, _, _, _, _, _, _, c0_sw, _, l_sw, cc_sw⟩ := c.def_ 34 rfl (c.fact 112 rfl)
  obtain ⟨c_sw, rfl⟩ := code_ref cc_sw
  obtain ⟨_, _, _, _, _, _, _, c0_ci, _, l_ci, cc_ci⟩ := c.def_ 35 rfl (c.fact 116 rfl)
  obtain ⟨_, _, _, _, _, _, _, c0_ch, _, l_ch, cc_ch⟩ := c.def_ 36 rfl (c.fact 120 rfl)
  obtain ⟨_, _, _, _, _, _, _, c0_co, _, l_co, cc_co⟩ := c.def_ 37 rfl (c.fact 124 rfl)
  obtain ⟨_, _, _, _, _, _, _, c0_ki, _, l_ki, cc_ki⟩ := c.def_ 38 rfl (c.fact 128 rfl)
  obtain ⟨_, _, _, _, _, _, _, c0_kb, _, l_kb, cc_kb⟩ := c.def_ 39 rfl (c.fact 132 rfl)
  obtain ⟨_, _, _, _, _, _, _, c0_ko, _, l_ko, cc_ko⟩ := c.def_ 40 rfl (c.fact 136 rfl)
  obtain ⟨_, _, _, _, _, _, _, c0_kp, _, l_kp, cc_kp⟩ := c.def_ 41 rfl (c.fact 140 rfl)
  obtain ⟨_, _, _, _, _, _, _, c0_ke, _, l_ke, cc_ke⟩ := c.def_ 42 rfl (c.fact 144 rfl)
  obtain ⟨_, _, _, _, _, _, _, c0_kn, _, l_kn, cc_kn⟩ := c.def_ 43 rfl (c.fact 148 rfl)
  obtain ⟨_, _, _, _, _, _, _, c0_kq, _, l_kq, cc_kq⟩ := c.def_ 44 rfl (c.fact 152 rfl)
  obtain ⟨_, _, _, _, _, _, _, c0_ui, _, l_ui, cc_ui⟩ := c.def_ 45 rfl (c.fact 156 rfl)
  obtain ⟨_, _, _, _, _, _, _, c0_ub, _, l_ub, cc_ub⟩ := c.def_ 46 rfl (c.fact 160 rfl)
  obtain ⟨_, _, _, _, _, _, _, c0_ua, _, l_ua, cc_ua⟩ := c.def_ 47 rfl (c.fact 164 rfl)
  obtain ⟨_, _, _, _, _, _, _, c0_uf, _, l_uf, cc_uf⟩ := c.def_ 48 rfl (c.fact 168 rfl)
  obtain ⟨_, _, _, _, _, _, _, c0_ug, _, l_ug, cc_ug⟩ := c.def_ 49 rfl (c.fact 172 rfl)
  obtain ⟨_, _, _, _, _, _, _, c0_gi, _, l_gi, cc_gi⟩ := c.def_ 50 rfl (c.fact 176 rfl)
  obtain ⟨_, _, _, _, _, _, _, c0_ga, _, l_ga, cc_ga⟩ := c.def_ 51 rfl (c.fact 180 rfl)
  obtain ⟨_, _, _, _, _, _, _, c0_gd, _, l_gd, cc_gd⟩ := c.def_ 52 rfl (c.fact 184 rfl)
  obtain ⟨_, _, _, _, _, _, _, c0_gl, _, l_gl, cc_gl⟩ := c.def_ 53 rfl (c.fact 188 rfl)
  obtain ⟨_, _, _, _, _, _, _, c0_gf, _, l_gf, cc_gf⟩ := c.def_ 54 rfl (c.fact 192 rfl)
  obtain ⟨_, _, _, _, _, _, _, c0_gr, _, l_gr, cc_gr⟩ := c.def_ 55 rfl (c.fact 196 rfl)
  obtain ⟨_, _, _, _, _, _, _, c0_gu, _, l_gu, cc_gu⟩ := c.def_ 56 rfl (c.fact 200 rfl)
  obtain ⟨_, _, _, _, _, _, _, c0_gF, _, l_gF, cc_gF⟩ := c.def_ 57 rfl (c.fact 204 rfl)
  obtain ⟨_, _, _, _, _, _, _, c0_gP, _, l_gP, cc_gP⟩ := c.def_ 58 rfl (c.fact 208 rfl)
  obtain ⟨_, _, _, _, _, _, _, c0_gn, _, l_gn, cc_gn⟩ := c.def_ 59 rfl (c.fact 212 rfl)
  obtain ⟨c_gn, rfl⟩ := code_ref cc_gn
  obtain ⟨_, _, _, _, _, _, _, c0_ge, _, l_ge, cc_ge⟩ := c.def_ 60 rfl (c.fact 216 rfl)
  obtain ⟨_, _, _, _, _, _, _, c0_gk, _, l_gk, cc_gk⟩ := c.def_ 61 rfl (c.fact 220 rfl)
  obtain ⟨_, _, _, _, _, _, _, c0_gp, _, l_gp, cc_gp⟩ := c.def_ 62 rfl (c.fact 224 rfl)
  obtain ⟨_, v0⟩ := intN_ok (c.fact 244 rfl)
  obtain ⟨_, v1⟩ := strN_ok (c.fact 245 rfl)
  obtain ⟨_, v2⟩ := intN_ok (c.fact 246 rfl)
  obtain ⟨_, v3⟩ := strN_ok (c.fact 247 rfl)
  obtain ⟨_, v4⟩ := strN_ok (c.fact 248 rfl)
  obtain ⟨_, v5⟩ := intN_ok (c.fact 249 rfl)
  obtain ⟨_, v6⟩ := strN_ok (c.fact 250 rfl)
  obtain ⟨_, v7⟩ := intN_ok (c.fact 251 rfl)
  obtain ⟨_, v8⟩ := strN_ok (c.fact 252 rfl)
  obtain ⟨_, _, _, _, _, _, _, cd1, _, cc1, l1, c1⟩ := c.clo 0 rfl (c.fact 309 rfl)
  obtain ⟨cda1, rfl⟩ := code_ref c1
  obtain ⟨_, _, _, xc⟩ := cellB_ok (p := ("Malformed", some "__init__")) l1 rfl (c.fact 310 rfl)
  obtain ⟨_, _, _, _, _, _, xd, xe, xf⟩ := fileB_ok (p := ("Malformed", some "__init__")) l1 rfl (c.fact 311 rfl)
  obtain ⟨_, _, lBE, kBE, sBE, yBE⟩ := c.dictAt 0 rfl
  obtain ⟨_, vBE1⟩ := strV_ok (c.fact 323 rfl)
  obtain ⟨_, vBE2⟩ := strV_ok (c.fact 324 rfl)
  obtain ⟨_, _, lCA, kCA, sCA, yCA⟩ := c.dictAt 1 rfl
  obtain ⟨_, vCA0⟩ := intV_ok (c.fact 326 rfl)
  obtain ⟨_, vCA1⟩ := intV_ok (c.fact 327 rfl)
  obtain ⟨_, vCA2⟩ := intV_ok (c.fact 328 rfl)
  obtain ⟨_, vCA3⟩ := intV_ok (c.fact 329 rfl)
  obtain ⟨_, vCA4⟩ := intV_ok (c.fact 330 rfl)
  have cMo : ∃ t, mg "_MODULUS" = some (.int 2305843009213693951 t) := He.int_ok c.kin G (c.fact 337 rfl)
  obtain ⟨B1, hB1, tB1, nB1⟩ := c.tabs (p := ("is_address", none)) (List.mem_of_getElem? (i := 0) rfl) l_ia rfl
  obtain ⟨B2, hB2, tB2, nB2⟩ := c.tabs (p := ("_is_platform", none)) (List.mem_of_getElem? (i := 1) rfl) l_ip rfl
  obtain ⟨B3, hB3, tB3, nB3⟩ := c.tabs (p := ("Store", some "is_whole")) (List.mem_of_getElem? (i := 2) rfl) l_sw rfl
  obtain ⟨B4, hB4, tB4, nB4⟩ := c.tabs (p := ("Registry", some "_name")) (List.mem_of_getElem? (i := 3) rfl) l_gn rfl
  exact all_mk (l := PySem.Challenge.rw_layerwharf_k06_registry_answers) c.kin G hfa
    (a_ia := He.eqO_ok (c.fact 0 rfl))
    (l_ia := l_ia)
    (cc_ia := cc_ia)
    (k_ia := c.fact 2 rfl)
    (a_ip := He.eqO_ok (c.fact 3 rfl))
    (l_ip := l_ip)
    (cc_ip := cc_ip)
    (k_ip := c.fact 5 rfl)
    (a_ad := He.eqO_ok (c.fact 6 rfl))
    (l_ad := l_ad)
    (cc_ad := cc_ad)
    (k_ad := c.fact 8 rfl)
    (a_it := He.eqO_ok (c.fact 9 rfl))
    (l_it := l_it)
    (cc_it := cc_it)
    (k_it := c.fact 11 rfl)
    (a_bt := He.eqO_ok (c.fact 12 rfl))
    (l_bt := l_bt)
    (cc_bt := cc_bt)
    (k_bt := c.fact 14 rfl)
    (a_ri := He.eqO_ok (c.fact 15 rfl))
    (l_ri := l_ri)
    (cc_ri := cc_ri)
    (k_ri := c.fact 17 rfl)
    (a_rb := He.eqO_ok (c.fact 18 rfl))
    (l_rb := l_rb)
    (cc_rb := cc_rb)
    (k_rb := c.fact 20 rfl)
    (a_rf := He.eqO_ok (c.fact 21 rfl))
    (l_rf := l_rf)
    (cc_rf := cc_rf)
    (k_rf := c.fact 23 rfl)
    (a_to := He.eqO_ok (c.fact 24 rfl))
    (l_to := l_to)
    (cc_to := cc_to)
    (k_to := c.fact 26 rfl)
    (a_lb := He.eqO_ok (c.fact 27 rfl))
    (l_lb := l_lb)
    (cc_lb := cc_lb)
    (k_lb := c.fact 29 rfl)
    (a_ls := He.eqO_ok (c.fact 30 rfl))
    (l_ls := l_ls)
    (cc_ls := cc_ls)
    (k_ls := c.fact 32 rfl)
    (a_lt := He.eqO_ok (c.fact 33 rfl))
    (l_lt := l_lt)
    (cc_lt := cc_lt)
    (k_lt := c.fact 35 rfl)
    (a_lx := He.eqO_ok (c.fact 36 rfl))
    (l_lx := l_lx)
    (cc_lx := cc_lx)
    (k_lx := c.fact 38 rfl)
    (a_lr := He.eqO_ok (c.fact 39 rfl))
    (l_lr := l_lr)
    (cc_lr := cc_lr)
    (k_lr := c.fact 41 rfl)
    (a_lh := He.eqO_ok (c.fact 42 rfl))
    (l_lh := l_lh)
    (cc_lh := cc_lh)
    (k_lh := c.fact 44 rfl)
    (a_lk := He.eqO_ok (c.fact 45 rfl))
    (l_lk := l_lk)
    (cc_lk := cc_lk)
    (k_lk := c.fact 47 rfl)
    (a_lf := He.eqO_ok (c.fact 48 rfl))
    (l_lf := l_lf)
    (cc_lf := cc_lf)
    (k_lf := c.fact 50 rfl)
    (a_lp := He.eqO_ok (c.fact 51 rfl))
    (l_lp := l_lp)
    (cc_lp := cc_lp)
    (k_lp := c.fact 53 rfl)
    (a_lc := He.eqO_ok (c.fact 54 rfl))
    (l_lc := l_lc)
    (cc_lc := cc_lc)
    (k_lc := c.fact 56 rfl)
    (a_la := He.eqO_ok (c.fact 57 rfl))
    (l_la := l_la)
    (cc_la := cc_la)
    (k_la := c.fact 59 rfl)
    (a_lo := He.eqO_ok (c.fact 60 rfl))
    (l_lo := l_lo)
    (cc_lo := cc_lo)
    (k_lo := c.fact 62 rfl)
    (a_ld := He.eqO_ok (c.fact 63 rfl))
    (l_ld := l_ld)
    (cc_ld := cc_ld)
    (k_ld := c.fact 65 rfl)
    (a_le := He.eqO_ok (c.fact 66 rfl))
    (l_le := l_le)
    (cc_le := cc_le)
    (k_le := c.fact 68 rfl)
    (a_lq := He.eqO_ok (c.fact 69 rfl))
    (l_lq := l_lq)
    (cc_lq := cc_lq)
    (k_lq := c.fact 71 rfl)
    (a_ln := He.eqO_ok (c.fact 72 rfl))
    (l_ln := l_ln)
    (cc_ln := cc_ln)
    (k_ln := c.fact 74 rfl)
    (a_lw := He.eqO_ok (c.fact 75 rfl))
    (l_lw := l_lw)
    (cc_lw := cc_lw)
    (k_lw := c.fact 77 rfl)
    (a_si := He.eqO_ok (c.fact 78 rfl))
    (i_si := c.fact 79 rfl)
    (l_si := l_si)
    (cc_si := cc_si)
    (k_si := c.fact 81 rfl)
    (a_sk := He.eqO_ok (c.fact 82 rfl))
    (i_sk := c.fact 83 rfl)
    (l_sk := l_sk)
    (cc_sk := cc_sk)
    (k_sk := c.fact 85 rfl)
    (a_sb := He.eqO_ok (c.fact 86 rfl))
    (i_sb := c.fact 87 rfl)
    (l_sb := l_sb)
    (cc_sb := cc_sb)
    (k_sb := c.fact 89 rfl)
    (a_sd := He.eqO_ok (c.fact 90 rfl))
    (i_sd := c.fact 91 rfl)
    (l_sd := l_sd)
    (cc_sd := cc_sd)
    (k_sd := c.fact 93 rfl)
    (a_sl := He.eqO_ok (c.fact 94 rfl))
    (i_sl := c.fact 95 rfl)
    (l_sl := l_sl)
    (cc_sl := cc_sl)
    (k_sl := c.fact 97 rfl)
    (a_sc := He.eqO_ok (c.fact 98 rfl))
    (i_sc := c.fact 99 rfl)
    (l_sc := l_sc)
    (cc_sc := cc_sc)
    (k_sc := c.fact 101 rfl)
    (a_so := He.eqO_ok (c.fact 102 rfl))
    (i_so := c.fact 103 rfl)
    (l_so := l_so)
    (cc_so := cc_so)
    (k_so := c.fact 105 rfl)
    (a_sg := He.eqO_ok (c.fact 106 rfl))
    (i_sg := c.fact 107 rfl)
    (l_sg := l_sg)
    (cc_sg := cc_sg)
    (k_sg := c.fact 109 rfl)
    (a_sw := He.eqO_ok (c.fact 110 rfl))
    (i_sw := c.fact 111 rfl)
    (l_sw := l_sw)
    (cc_sw := cc_sw)
    (k_sw := c.fact 113 rfl)
    (a_ci := He.eqO_ok (c.fact 114 rfl))
    (i_ci := c.fact 115 rfl)
    (l_ci := l_ci)
    (cc_ci := cc_ci)
    (k_ci := c.fact 117 rfl)
    (a_ch := He.eqO_ok (c.fact 118 rfl))
    (i_ch := c.fact 119 rfl)
    (l_ch := l_ch)
    (cc_ch := cc_ch)
    (k_ch := c.fact 121 rfl)
    (a_co := He.eqO_ok (c.fact 122 rfl))
    (i_co := c.fact 123 rfl)
    (l_co := l_co)
    (cc_co := cc_co)
    (k_co := c.fact 125 rfl)
    (a_ki := He.eqO_ok (c.fact 126 rfl))
    (i_ki := c.fact 127 rfl)
    (l_ki := l_ki)
    (cc_ki := cc_ki)
    (k_ki := c.fact 129 rfl)
    (a_kb := He.eqO_ok (c.fact 130 rfl))
    (i_kb := c.fact 131 rfl)
    (l_kb := l_kb)
    (cc_kb := cc_kb)
    (k_kb := c.fact 133 rfl)
    (a_ko := He.eqO_ok (c.fact 134 rfl))
    (i_ko := c.fact 135 rfl)
    (l_ko := l_ko)
    (cc_ko := cc_ko)
    (k_ko := c.fact 137 rfl)
    (a_kp := He.eqO_ok (c.fact 138 rfl))
    (i_kp := c.fact 139 rfl)
    (l_kp := l_kp)
    (cc_kp := cc_kp)
    (k_kp := c.fact 141 rfl)
    (a_ke := He.eqO_ok (c.fact 142 rfl))
    (i_ke := c.fact 143 rfl)
    (l_ke := l_ke)
    (cc_ke := cc_ke)
    (k_ke := c.fact 145 rfl)
    (a_kn := He.eqO_ok (c.fact 146 rfl))
    (i_kn := c.fact 147 rfl)
    (l_kn := l_kn)
    (cc_kn := cc_kn)
    (k_kn := c.fact 149 rfl)
    (a_kq := He.eqO_ok (c.fact 150 rfl))
    (i_kq := c.fact 151 rfl)
    (l_kq := l_kq)
    (cc_kq := cc_kq)
    (k_kq := c.fact 153 rfl)
    (a_ui := He.eqO_ok (c.fact 154 rfl))
    (i_ui := c.fact 155 rfl)
    (l_ui := l_ui)
    (cc_ui := cc_ui)
    (k_ui := c.fact 157 rfl)
    (a_ub := He.eqO_ok (c.fact 158 rfl))
    (i_ub := c.fact 159 rfl)
    (l_ub := l_ub)
    (cc_ub := cc_ub)
    (k_ub := c.fact 161 rfl)
    (a_ua := He.eqO_ok (c.fact 162 rfl))
    (i_ua := c.fact 163 rfl)
    (l_ua := l_ua)
    (cc_ua := cc_ua)
    (k_ua := c.fact 165 rfl)
    (a_uf := He.eqO_ok (c.fact 166 rfl))
    (i_uf := c.fact 167 rfl)
    (l_uf := l_uf)
    (cc_uf := cc_uf)
    (k_uf := c.fact 169 rfl)
    (a_ug := He.eqO_ok (c.fact 170 rfl))
    (i_ug := c.fact 171 rfl)
    (l_ug := l_ug)
    (cc_ug := cc_ug)
    (k_ug := c.fact 173 rfl)
    (a_gi := He.eqO_ok (c.fact 174 rfl))
    (i_gi := c.fact 175 rfl)
    (l_gi := l_gi)
    (cc_gi := cc_gi)
    (k_gi := c.fact 177 rfl)
    (a_ga := He.eqO_ok (c.fact 178 rfl))
    (i_ga := c.fact 179 rfl)
    (l_ga := l_ga)
    (cc_ga := cc_ga)
    (k_ga := c.fact 181 rfl)
    (a_gd := He.eqO_ok (c.fact 182 rfl))
    (i_gd := c.fact 183 rfl)
    (l_gd := l_gd)
    (cc_gd := cc_gd)
    (k_gd := c.fact 185 rfl)
    (a_gl := He.eqO_ok (c.fact 186 rfl))
    (i_gl := c.fact 187 rfl)
    (l_gl := l_gl)
    (cc_gl := cc_gl)
    (k_gl := c.fact 189 rfl)
    (a_gf := He.eqO_ok (c.fact 190 rfl))
    (i_gf := c.fact 191 rfl)
    (l_gf := l_gf)
    (cc_gf := cc_gf)
    (k_gf := c.fact 193 rfl)
    (a_gr := He.eqO_ok (c.fact 194 rfl))
    (i_gr := c.fact 195 rfl)
    (l_gr := l_gr)
    (cc_gr := cc_gr)
    (k_gr := c.fact 197 rfl)
    (a_gu := He.eqO_ok (c.fact 198 rfl))
    (i_gu := c.fact 199 rfl)
    (l_gu := l_gu)
    (cc_gu := cc_gu)
    (k_gu := c.fact 201 rfl)
    (a_gF := He.eqO_ok (c.fact 202 rfl))
    (i_gF := c.fact 203 rfl)
    (l_gF := l_gF)
    (cc_gF := cc_gF)
    (k_gF := c.fact 205 rfl)
    (a_gP := He.eqO_ok (c.fact 206 rfl))
    (i_gP := c.fact 207 rfl)
    (l_gP := l_gP)
    (cc_gP := cc_gP)
    (k_gP := c.fact 209 rfl)
    (a_gn := He.eqO_ok (c.fact 210 rfl))
    (i_gn := c.fact 211 rfl)
    (l_gn := l_gn)
    (cc_gn := cc_gn)
    (k_gn := c.fact 213 rfl)
    (a_ge := He.eqO_ok (c.fact 214 rfl))
    (i_ge := c.fact 215 rfl)
    (l_ge := l_ge)
    (cc_ge := cc_ge)
    (k_ge := c.fact 217 rfl)
    (a_gk := He.eqO_ok (c.fact 218 rfl))
    (i_gk := c.fact 219 rfl)
    (l_gk := l_gk)
    (cc_gk := cc_gk)
    (k_gk := c.fact 221 rfl)
    (a_gp := He.eqO_ok (c.fact 222 rfl))
    (i_gp := c.fact 223 rfl)
    (l_gp := l_gp)
    (cc_gp := cc_gp)
    (k_gp := c.fact 225 rfl)
    (z0 := He.eqO_ok (c.fact 226 rfl))
    (z1 := He.eqO_ok (c.fact 227 rfl))
    (z2 := He.eqO_ok (c.fact 228 rfl))
    (z3 := He.eqO_ok (c.fact 229 rfl))
    (z4 := He.eqO_ok (c.fact 230 rfl))
    (z5 := He.eqO_ok (c.fact 231 rfl))
    (z6 := He.eqO_ok (c.fact 232 rfl))
    (z7 := He.eqO_ok (c.fact 233 rfl))
    (z8 := He.eqO_ok (c.fact 234 rfl))
    (z9 := He.eqO_ok (c.fact 235 rfl))
    (z10 := He.eqO_ok (c.fact 236 rfl))
    (z11 := He.eqO_ok (c.fact 237 rfl))
    (z12 := He.eqO_ok (c.fact 238 rfl))
    (z13 := He.eqO_ok (c.fact 239 rfl))
    (z14 := He.eqO_ok (c.fact 240 rfl))
    (z15 := He.eqO_ok (c.fact 241 rfl))
    (z16 := He.eqO_ok (c.fact 242 rfl))
    (z17 := He.eqO_ok (c.fact 243 rfl))
    (v0 := v0)
    (v1 := v1)
    (v2 := v2)
    (v3 := v3)
    (v4 := v4)
    (v5 := v5)
    (v6 := v6)
    (v7 := v7)
    (v8 := v8)
    (g_cU := He.eqO_ok (c.fact 253 rfl))
    (pg_cU := c.fact 254 rfl)
    (hd_cU := c.fact 255 rfl)
    (po_cU := c.fact 256 rfl)
    (mk_cU := c.fact 257 rfl)
    (kc_cU := c.fact 258 rfl)
    (sa_cU := He.eqO_ok (c.fact 259 rfl))
    (g_cC := He.eqO_ok (c.fact 260 rfl))
    (pg_cC := c.fact 261 rfl)
    (hd_cC := c.fact 262 rfl)
    (po_cC := c.fact 263 rfl)
    (mk_cC := c.fact 264 rfl)
    (kc_cC := c.fact 265 rfl)
    (sa_cC := He.eqO_ok (c.fact 266 rfl))
    (g_cK := He.eqO_ok (c.fact 267 rfl))
    (pg_cK := c.fact 268 rfl)
    (hd_cK := c.fact 269 rfl)
    (po_cK := c.fact 270 rfl)
    (mk_cK := c.fact 271 rfl)
    (kc_cK := c.fact 272 rfl)
    (sa_cK := He.eqO_ok (c.fact 273 rfl))
    (g_cL := He.eqO_ok (c.fact 274 rfl))
    (pg_cL := c.fact 275 rfl)
    (hd_cL := c.fact 276 rfl)
    (po_cL := c.fact 277 rfl)
    (mk_cL := c.fact 278 rfl)
    (kc_cL := c.fact 279 rfl)
    (sa_cL := He.eqO_ok (c.fact 280 rfl))
    (g_cG := He.eqO_ok (c.fact 281 rfl))
    (pg_cG := c.fact 282 rfl)
    (hd_cG := c.fact 283 rfl)
    (po_cG := c.fact 284 rfl)
    (mk_cG := c.fact 285 rfl)
    (kc_cG := c.fact 286 rfl)
    (sa_cG := He.eqO_ok (c.fact 287 rfl))
    (ncC0 := He.eqO_ok (c.fact 288 rfl))
    (ncC1 := He.eqO_ok (c.fact 289 rfl))
    (ncC2 := He.eqO_ok (c.fact 290 rfl))
    (ncC3 := He.eqO_ok (c.fact 291 rfl))
    (ncK0 := He.eqO_ok (c.fact 292 rfl))
    (ncK1 := He.eqO_ok (c.fact 293 rfl))
    (ncL0 := He.eqO_ok (c.fact 294 rfl))
    (ncL1 := He.eqO_ok (c.fact 295 rfl))
    (ncG0 := He.eqO_ok (c.fact 296 rfl))
    (ncG1 := He.eqO_ok (c.fact 297 rfl))
    (ncG2 := He.eqO_ok (c.fact 298 rfl))
    (ncG3 := He.eqO_ok (c.fact 299 rfl))
    (ncG4 := He.eqO_ok (c.fact 300 rfl))
    (nB := He.eqO_ok (c.fact 301 rfl))
    (gM := He.eqO_ok (c.fact 302 rfl))
    (gR := He.eqO_ok (c.fact 303 rfl))
    (xM := excB_ok (c.fact 304 rfl))
    (sa := He.eqO_ok (c.fact 305 rfl))
    (nL := He.eqO_ok (c.fact 306 rfl))
    (a1 := He.eqO_ok (c.fact 307 rfl))
    (t1f := of_decide_eq_true (c.fact 308 rfl))
    (l1 := l1)
    (c1 := c1)
    (xc := xc)
    (xd := xd)
    (xe := xe)
    (xf := xf)
    (tp := by rfl)
    (op := He.eqO_ok (c.fact 312 rfl))
    (ow := of_decide_eq_true (c.fact 313 rfl))
    (su := of_decide_eq_true (c.fact 314 rfl))
    (sv := of_decide_eq_true (c.fact 315 rfl))
    (eC := of_decide_eq_true (c.fact 316 rfl))
    (tC := of_decide_eq_true (c.fact 317 rfl))
    (sC := of_decide_eq_true (c.fact 318 rfl))
    (kC := c.fact 319 rfl)
    (hC := c.fact 320 rfl)
    (KDS := tupsB_ok c.kin G (c.fact 321 rfl))
    (aBE := He.eqO_ok (c.fact 322 rfl))
    (lBE := lBE)
    (kBE := kBE)
    (sBE := sBE)
    (vBE1 := vBE1)
    (vBE2 := vBE2)
    (eB0 := (key_at yBE).1)
    (eB1 := (key_at yBE).2 0 "image" rfl)
    (eB2 := (key_at yBE).2 1 "bundle" rfl)
    (aCA := He.eqO_ok (c.fact 325 rfl))
    (lCA := lCA)
    (kCA := kCA)
    (sCA := sCA)
    (vCA0 := vCA0)
    (vCA1 := vCA1)
    (vCA2 := vCA2)
    (vCA3 := vCA3)
    (vCA4 := vCA4)
    (nCA0 := He.eqO_ok (c.fact 331 rfl))
    (nCA1 := He.eqO_ok (c.fact 332 rfl))
    (nCA2 := He.eqO_ok (c.fact 333 rfl))
    (nCA3 := He.eqO_ok (c.fact 334 rfl))
    (nCA4 := He.eqO_ok (c.fact 335 rfl))
    (nCA5 := He.eqO_ok (c.fact 336 rfl))
    (cMo := cMo)
    (tb1 := ⟨hB1, tB1⟩)
    (nB1 := nB1)
    (tb2 := ⟨hB2, tB2⟩)
    (nB2 := nB2)
    (tb3 := ⟨hB3, tB3⟩)
    (nB3 := nB3)
    (tb4 := ⟨hB4, tB4⟩)
    (nB4 := nB4)
end LW
open PySem PySem.W PySem.Calls PyProof.Rows
set_option maxHeartbeats 0 in
theorem PySem.Challenge.cw_layerwharf_k06_registry_answers_holds : PySem.Challenge.rw_layerwharf_k06_registry_answers.Holds := by
  w_on; o_law
  refine HandSHeadRun.head_any (r := OpenLaw.row PySem.Challenge.rw_layerwharf_k06_registry_answers) (q := LW.hk_view) (H := LW.hk.hook) (ob := fun s => LW.hk.obsG (HandSHeadRun.getT s)) (M := 12000) (loose := LW.hk_loose) (d := HandSHeadRun.topDef (OpenLaw.row PySem.Challenge.rw_layerwharf_k06_registry_answers).prog 56) (kwd := []) (fun s => LW.obs_eq (HandSHeadRun.getT_eq s)) (by kernel_rfl) (fun s => by kernel_rfl) LW.hk_run (by kernel_rfl) (by kernel_rfl) (by kernel_rfl) (by rfl) (by first | assumption | decide +kernel) (by decide +kernel) ⟨rfl, rfl, rfl, rfl, rfl, by decide +kernel⟩ ?hw ?hc
  case hw => w_witness2
  case hc =>
    refine LW.walk_gndCE (l := PySem.Challenge.rw_layerwharf_k06_registry_answers) (n := 63) (x := "script") (CX := fun _ => L2.CX0) rfl (by decide) rfl ?F (fun _ _ _ _ _ h => h)
    case F =>
      intro w s0 mg mb fa h G Y hmg0
      obtain ⟨K, c⟩ := Y
      have hmg : mg ("law" : PySem.Str) = some (.ref fa) := by
        have e : (HandSHeadRun.topDef (OpenLaw.row PySem.Challenge.rw_layerwharf_k06_registry_answers).prog 56).name = ("law" : PySem.Str) := by kernel_rfl
        rw [← e]
        exact hmg0
      exact ⟨K, c.kin, LW.hk_fin c G.T.g hmg⟩
