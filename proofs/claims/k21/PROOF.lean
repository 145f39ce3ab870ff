import PyProof.Rows.All
import Wide.All
import OpenK.AllK
import Wide.FinOn
import HandS.ForMost
import HandS.AnyAll
import HandS.FStr
import HandS.Walk
import HandS.EndTab
import HandS.EndOwn
import HandS.Codes
import HandS.Strs
import HandS.IsInst
import HandS.Style
import HandS.Replace
import KE.KExcSuper
import KE.KSuper
import HandS.ExcInit
import KE.GoesEnumKw
import KE.GoesMore
import HandS.ExcIs
import HandS.ExcField
import HandS.ExcOwn
import HandS.TryOnly
import HandS.Star
import HandS.ListItems
import HandS.ForDict
import HandS.Deep
import HandS.DeepEq
import KE.KExcIs
import HandS.Text
import HandS.SetKeys
import HandS.SetBool
import PyProof.Rows.SortShellAny
import HandS.SetFor
import HandS.More
import HandS.WrittenGet
import HandS.Conv
import PyProof.ListStr
import PyProof.RulesMatch
import HandS.WordsExc
import HandS.Steps
import HandS.Small
import HandS.Flow
import HandS.MakeKwOnly
import HandS.TupAny
import PySem.Challenge.RW_layerwharf_k21_push_step_by_step
set_option Elab.async false
set_option linter.all false
set_option maxRecDepth 100000
set_option maxHeartbeats 4000000
namespace LW
open PySem PySem.Spec PyProof.Rows L2 GxR
/-- a test of one sign that may read names of the module -/
def EltG (P : Program) (w : World) (mg : Str → Option Value) (sc : Scope) (x : Str) (e : Expr) (pb : Nat → Bool) : Prop :=
  ∀ (env : Env) (A : Around) (E : Value → Shared → Prop) (c : Nat) (t : Tok) (s : Shared) (m : Str → Option Value),
    env.scope = sc → env.globals = mainGlobals → s.heap.Ns mainGlobals mg → s.heap.Ns env.locals m → m x = some (.str ⟨#[c]⟩ t) →
    wpAny (model P w) A (eval e env) (fun y s' => y = .bool (pb c) ∧ Keeps s s') E s
theorem elt_inG {P : Program} {w : World} {mg : Str → Option Value} {sc : Scope} {x g z : Str} {tz : Tok} {p1 p2 p3 : Pos}
    (hk : sc.kind = .function) (hl : sc.names.lookup x = some .local) (hg : sc.names.lookup g = some .globalImplicit) (hm : mg g = some (.str z tz))
    (d1 : (x == ("__debug__" : Str)) = false := by decide) (d2 : (g == ("__debug__" : Str)) = false := by decide) :
    EltG P w mg sc x (.Compare (.Name x p1) [.In] [.Name g p2] p3) (fun c => decide (c ∈ z.cps.toList)) := by
  intro env A E c t s m e1 e2 n1 n2 hx
  subst e1
  refine wpAny_Compare1 (wpAny_Name (wpAny_loadName_local hk hl n2 hx ?_) d1)
  refine Calls.Name_function_global hk hg (Calls.loadGlobal_global (by rw [e2]; exact n1) hm ?_) d2
  refine PyProof.Rows.in_str ⟨?_, keeps_refl s⟩
  rw [PySem.StrLaws.found_one z c]
theorem ns_at {h h' : Heap} {a : Addr} {m : Str → Option Value} (n : h.Ns a m) (k : ∀ o, h.get? a = some o → h'.get? a = some o) : h'.Ns a m := by
  obtain ⟨o, es, ep, e, r⟩ := n
  exact ⟨o, es, ep, k o e, r⟩
end LW
namespace LW
open PySem PySem.Spec PyProof.Rows L2 GxR
section
variable {X : Cx} {pins : List (Addr × Obj)} {σ : L2.St} {H : Hp} {s : Shared}
/-- (test for x in text), the test reading the module's names: made, and ready to be walked -/
theorem gen_textG {c T : Addr} {e it : Expr} {x : Str} {px gp : Pos} {sc : Scope} {pb : Nat → Bool} {te : TE} {k : Nat} {Q' : Value → Shared → Prop} {R : Str → Hp → Prop}
    (hr : Room k X.A) (B : TabB X.base X.mg c T) (hc : X.env.code = .ref c) (S : GenS X.env sc x) (hi : PE X it te)
    (he : EltG X.prog X.w X.mg sc x e pb) (hs : ∀ v, genFold it X.env v = pure v) (I : Inv X pins σ H s)
    (h : te σ H fun v H1 => ∃ a : Str, v = .str a ∧ TabG H1 T ∧ R a H1)
    (q : ∀ a H1 g s5, R a H1 → Ready X pins σ H1 T a pb g s5 → Q' (.ref g) s5) :
    wpAny (model X.prog X.w) X.A (eval (.GeneratorExp e [⟨.Name x px, it, [], 0⟩] sc gp) X.env) Q' X.xe s := by
  have room : X.A.depth < recursionLimit := hr.depth
  refine wpAny_GeneratorExp_walksQ hr.hd S.co (closure_ok S.free) S.cell S.dot S.loc S.kind room ?_ hs
  refine thn (hi.run pins s σ H _ I h) ?_
  rintro xv s1 ⟨v, H1, I1, r1, a, ev, ⟨ps, hT, tr⟩, ra⟩
  subst ev
  obtain ⟨t, et⟩ := r1
  subst et
  refine wpAny_pyIter_str ?_
  intro o St W st0
  have oT : s1.heap.get? T = some { cls := .none, data := .fields ps } := I1.hok T _ hT
  have ltT := Heap.lt_size oT
  have oT2 : (s1.heap.push o).get? T = some { cls := .none, data := .fields ps } := Heap.get?_push_of_some _ oT
  have lim : (s1.heap.push o).NoLimit := I1.nolimit.push o
  have cd : PySem.W.CodeHd (s1.heap.push o) c T := B.code.keeps fun b u hb => Heap.get?_push_of_some _ (I1.bk b u hb)
  have psz : (s1.heap.push o).objs.size = s1.heap.objs.size + 1 := Heap.size_push ..
  have goG : ∃ og, s1.heap.get? mainGlobals = some og ∧ mainGlobals ≠ T := by
    obtain ⟨og, _, _, eg, _⟩ := I1.mod.glob
    exact ⟨og, I1.bk _ _ eg, B.gP⟩
  obtain ⟨og, gg, gT⟩ := goG
  have nsG : s1.heap.Ns mainGlobals X.mg := I1.mod.glob.keeps I1.bk
  -- what is left once the code of the generator is there
  have rest : ∀ (cv : Value) (h3 : Heap) (tk : Nat) (ps' more : Array Value), Heap.ExtBut T (s1.heap.push o) h3 → (s1.heap.push o).objs.size ≤ h3.objs.size →
      h3.get? T = some { cls := .none, data := .fields ps' } → ps' = ps ++ more → TriplesOk ps'.toList →
      wpAny (model X.prog X.w) X.A (builtinsFor X.env.globals X.env.builtins) (fun bi s4 =>
        ∃ Ia fp wr n0 Pf St0 pz F, Value.ref s1.heap.objs.size = .ref Ia ∧ (∀ A' : Around, A'.handled = none → Walks X.prog X.w A' Ia fp wr n0 Pf St0) ∧ St0 0 s4.heap ∧
          (∀ b ∈ fp, b < s4.heap.objs.size) ∧ s4.heap.NoLimit ∧ cStatics ∉ wr ∧
          (∀ hf : Heap, (∀ b u, s4.heap.get? b = some u → hf.get? b = some u) →
            QuietGen X.prog X.w (genEnv sc (cloFrom X.env.cells sc.names []) s4.heap.objs.size cv bi X.env) x [] e (List.range s4.heap.objs.size) wr Pf pz F hf) ∧
          (∀ g h5 tk' gs, gs.bare = true → s4.heap.objs.size < g → h5.objs.size = g + 1 → (∀ b u, s4.heap.get? b = some u → h5.get? b = some u) →
            WalksS X.prog X.w X.A.in4 g (g :: s4.heap.objs.size :: List.range s4.heap.objs.size) (s4.heap.objs.size :: wr) (GenOnlyQ s4.gens.size) (passing pz n0 0).length
              (fun j y => ∃ i, (passing pz n0 0)[j]? = some i ∧ F i y) (GenAt X.prog X.w X.A.in4 g s4.gens.size s4.heap.objs.size (List.range s4.heap.objs.size) wr pz n0 F) →
            GenAt X.prog X.w X.A.in4 g s4.gens.size s4.heap.objs.size (List.range s4.heap.objs.size) wr pz n0 F 0 { s4 with gens := s4.gens.push gs, toks := tk', heap := h5 } →
            Q' (.ref g) { s4 with gens := s4.gens.push gs, toks := tk', heap := h5 })) X.xe { s1 with heap := h3, toks := tk } := by
    intro cv h3 tk ps' more ext hz hT3 emore tr3
    have old : ∀ b u, b ≠ T → s1.heap.get? b = some u → h3.get? b = some u := fun b u n eu => ext b u n (Heap.get?_push_of_some _ eu)
    obtain ⟨bm, ob, m1, m2, m3, m4, m5, m6, m7, m8⟩ := B.bm
    have csT : cStatics ≠ T := by
      intro ee
      obtain ⟨_, ⟨o', es, ep, ho, hd, _⟩, _⟩ := I1.nolimit
      rw [ee, oT] at ho
      cases ho
      cases hd
    have csl : cStatics < s1.heap.objs.size := by
      obtain ⟨_, hn, _⟩ := I1.nolimit
      exact hn.lt
    have g3 : h3.Ns mainGlobals X.mg := ns_at nsG fun u hu => old _ u gT hu
    refine wpAny_builtinsFor (m := X.mg) (by rw [I1.ok.glob]; exact g3) m1 m2 (old _ _ m4 (I1.bk _ _ m5)) m6 m7 m8 ?_
    refine ⟨s1.heap.objs.size, [s1.heap.objs.size], [s1.heap.objs.size], a.cps.size, SignAt a, St, fun _ => true, fun i y => ∃ cc, a.cps[i]? = some cc ∧ y = .bool (pb cc), rfl, W, ?_, ?_, lim.extBut ext csT, ?_, ?_, ?_⟩
    · refine (W X.A hr.hd).frame _ _ _ st0 fun b hb u eu => ext b u ?_ eu
      have eb : b = s1.heap.objs.size := by simpa using hb
      rw [eb]
      exact Nat.ne_of_gt ltT
    · intro b hb
      have eb : b = s1.heap.objs.size := by simpa using hb
      rw [eb]
      show s1.heap.objs.size < h3.objs.size
      omega
    · intro z
      have z' : cStatics = s1.heap.objs.size := by simpa using z
      exact Nat.ne_of_lt csl z'
    · intro hf kf
      refine ⟨?_, ?_⟩
      · intro A' E' i v s₂ m₂ _ _ _ _ _
        simp only [List.forIn_nil]
        exact wpAny_pure ⟨rfl, keeps_refl _⟩
      · intro A' E' i v s₂ m₂ hA pv _ hn hm hk
        obtain ⟨cc, u, hcc, ev⟩ := pv
        subst ev
        have gl : s₂.heap.Ns mainGlobals X.mg := ns_at g3 fun u hu => by
          refine hk mainGlobals (List.mem_range.mpr (Heap.lt_size hu)) ?_ u (kf _ _ hu)
          intro z
          have z' : mainGlobals = s1.heap.objs.size := by simpa using z
          have l := Heap.lt_size gg
          rw [z'] at l
          exact Nat.lt_irrefl _ l
        have res := he (genEnv sc (cloFrom X.env.cells sc.names []) h3.objs.size cv builtinsNs X.env) A' E' cc u s₂ m₂ rfl I1.ok.glob gl hn hm
        exact wpAny_mono res (fun y s3 r => ⟨⟨cc, hcc, r.1⟩, r.2⟩) fun _ _ z => z
    · intro g h5 tk5 gs hgb hag hsz5 hk5 W5 hat
      simp only [GxR.passing_true, List.length_range] at W5
      refine q a H1 g _ ra ⟨_, _, _, _, _, W5.in4_1, hat, ?_, ?_⟩
      · rintro j y sj Qj Ej ⟨i, hij, cc, hcc, ey⟩ hq
        subst ey
        obtain ⟨hj, ej⟩ := List.getElem?_eq_some_iff.mp hij
        rw [List.getElem_range] at ej
        subst ej
        have at_j : a.cps.toList[j]? = some cc := by rw [Array.getElem?_toList]; exact hcc
        rw [trF_some at_j] at hq
        exact wpAny_truthy_bool hq
      · intro s' hm
        have nw : ∀ b u, s1.heap.get? b = some u → b ∉ h3.objs.size :: [s1.heap.objs.size] := by
          intro b u eu hb
          have l := Heap.lt_size eu
          have l3 : (s1.heap.objs.size : Nat) ≤ h3.objs.size := by omega
          rcases List.mem_cons.mp hb with z | z
          · rw [z] at l
            exact absurd (Nat.lt_of_lt_of_le l l3) (Nat.lt_irrefl _)
          · have z' : b = s1.heap.objs.size := by simpa using z
            rw [z'] at l
            exact Nat.lt_irrefl _ l
        have J := inv_tab (more := more) (h' := s'.heap) (g' := s'.gens) (d' := s'.drawn) (t' := s'.toks) I1 hT
          (fun b u n eu => hm.heap b u (nw b u eu) (hk5 b u (old b u n eu)))
          (by rw [← emore]; exact hm.heap T _ (nw T _ oT) (hk5 T _ hT3)) (AllBare.movedS (I1.bare.push hgb) hm)
        rw [sh_eta s1 s' hm.os] at J
        exact ⟨_, ⟨⟨ps ++ more, upd_same, by rw [← emore]; exact tr3⟩, fun b n => upd_ne n⟩, J⟩
  refine ⟨lim, ?_⟩
  cases hf : codeAmong gp ps.toList with
  | some cv =>
    refine wpAny_genexprCode_hit hc (cd.code oT2 tr) hf ?_
    exact rest cv (s1.heap.push o) s1.toks ps #[] (Heap.ExtBut.refl _ _) (Nat.le_refl _) oT2 (by simp) tr
  | none =>
    refine wpAny_genexprCodeX hc (cd.code oT2 tr) (cd.tab oT2) hf ?_
    intro c' h' tk ext ge lt isC _ htab _
    obtain ⟨o1, vs, f1, tf, fl, tg, inF, tx, tt, op, _, _, _, _, _, _, _, _, _, tr3, _⟩ := isC
    exact rest _ h' tk _ _ ext (Nat.le_trans ge (Nat.le_of_lt lt)) htab.2 rfl tr3
/-- all(test for x in e), e a text -/
theorem pe_allG {c T : Addr} {e it : Expr} {x : Str} {px p pos gp : Pos} {sc : Scope} {pb : Nat → Bool} {te : TE} {k : Nat}
    (hr : Room k X.A) (hg : Gl X "all") (hm : X.mg "all" = none) (B : TabB X.base X.mg c T) (hc : X.env.code = .ref c) (S : GenS X.env sc x)
    (hi : PE X it te) (he : EltG X.prog X.w X.mg sc x e pb) (hs : ∀ v, genFold it X.env v = pure v := by intro _; rfl)
    (ha : starEach [.GeneratorExp e [⟨.Name x px, it, [], 0⟩] sc gp] X.env = (false, eval (.GeneratorExp e [⟨.Name x px, it, [], 0⟩] sc gp) X.env) :: starEach [] X.env := by rfl) :
    PE X (.Call (.Name "all" p) [.GeneratorExp e [⟨.Name x px, it, [], 0⟩] sc gp] [] pos) (tAllS T pb te) := by
  constructor
  intro pins s σ H Q I h
  refine wpAny_Call_Name_kw (ld_blt I hg hm (u := .builtin "all") (by decide +kernel) ?_)
  refine PyProof.Rows.callWith_builtin1 ?_ ha (by rfl)
  rw [ha]
  show wpAny _ _ (spliced ((false, eval (.GeneratorExp e [⟨.Name x px, it, [], 0⟩] sc gp) X.env) :: backTo pos (starEach [] X.env))) _ _ s
  refine Calls.spliced_cons (gen_textG (R := fun a H1 => ∀ H2, Tabbed T H1 H2 → Q (.bl (a.cps.toList.all pb)) H2) hr B hc S hi he hs I h ?_)
  rintro a H1 g s5 hR ⟨fp, wr, G, F, St, W, hst, htr, hI⟩
  refine Calls.spliced_nil (call_all_walkS (W.self 0 _ _ _ hst ⟨g, fp, wr, G, _, F, St, _, rfl, W, hst, htr, ?_⟩))
  intro s' hmv
  obtain ⟨H2, hT, J⟩ := hI s' hmv
  refine ⟨.bl _, H2, J, rfl, ?_⟩
  rw [all_signs a pb]
  exact hR H2 hT
end
end LW
namespace LW
open PySem
/-! ### sixteen hexadecimal digits -/
def dig (d : Nat) : Nat := if d < 10 then 48 + d else 87 + d
/-- k digits of n -/
def hx : Nat → Nat → List Nat
  | 0, _ => []
  | k + 1, n => hx k (n / 16) ++ [dig (n % 16)]
theorem hx_len : ∀ k n, (hx k n).length = k
  | 0, _ => rfl
  | k + 1, n => by simp [hx, hx_len k]
theorem hx_zero : ∀ k, hx k 0 = List.replicate k 48
  | 0 => rfl
  | k + 1 => by
    show hx k (0 / 16) ++ [dig (0 % 16)] = _
    rw [Nat.zero_div, hx_zero k, List.replicate_succ']
    rfl
theorem core_acc : ∀ (f n : Nat) (ds : List Char), Nat.toDigitsCore 16 f n ds = Nat.toDigitsCore 16 f n [] ++ ds
  | 0, n, ds => rfl
  | f + 1, n, ds => by
    unfold Nat.toDigitsCore
    by_cases h : n / 16 = 0
    · simp [h]
    · simp only [h, if_false]
      rw [core_acc f (n / 16) (Nat.digitChar (n % 16) :: ds), core_acc f (n / 16) [Nat.digitChar (n % 16)]]
      simp
theorem dig_char {d : Nat} (h : d < 16) : (Nat.digitChar d).toNat = dig d := by
  have : ∀ d : Fin 16, (Nat.digitChar d.val).toNat = dig d.val := by decide +kernel
  exact this ⟨d, h⟩
theorem core_hx : ∀ (k f n : Nat), 1 ≤ k → n < 16 ^ k → n < f →
    ((Nat.toDigitsCore 16 f n []).map Char.toNat).length ≤ k ∧
    List.replicate (k - ((Nat.toDigitsCore 16 f n []).map Char.toNat).length) 48 ++ (Nat.toDigitsCore 16 f n []).map Char.toNat = hx k n
  | 0, _, _, h, _, _ => by omega
  | k + 1, 0, n, _, _, h => by omega
  | k + 1, f + 1, n, _, h, hf => by
    have hm : n % 16 < 16 := Nat.mod_lt _ (by decide)
    by_cases h0 : n / 16 = 0
    · have e : Nat.toDigitsCore 16 (f + 1) n [] = [Nat.digitChar (n % 16)] := by
        unfold Nat.toDigitsCore
        simp [h0]
      rw [e]
      refine ⟨by simp, ?_⟩
      show List.replicate (k + 1 - 1) 48 ++ [(Nat.digitChar (n % 16)).toNat] = hx k (n / 16) ++ [dig (n % 16)]
      rw [h0, hx_zero, dig_char hm, Nat.add_sub_cancel]
    · have e : Nat.toDigitsCore 16 (f + 1) n [] = Nat.toDigitsCore 16 f (n / 16) [] ++ [Nat.digitChar (n % 16)] := by
        rw [← core_acc]
        conv => lhs; unfold Nat.toDigitsCore
        simp [h0]
      have h16 : n / 16 < 16 ^ k := by
        rw [Nat.div_lt_iff_lt_mul (by decide)]
        rw [Nat.pow_succ] at h
        exact h
      have k1 : 1 ≤ k := by
        cases k with
        | zero => rw [Nat.pow_zero] at h16; omega
        | succ k => omega
      have ih := core_hx k f (n / 16) k1 h16 (by omega)
      rw [e, List.map_append]
      refine ⟨by have i1 := ih.1; simp only [List.length_append, List.length_map, List.length_cons, List.length_nil] at i1 ⊢; omega, ?_⟩
      show List.replicate (k + 1 - _) 48 ++ (_ ++ [(Nat.digitChar (n % 16)).toNat]) = hx k (n / 16) ++ [dig (n % 16)]
      rw [← ih.2, dig_char hm, ← List.append_assoc]
      have el : ((Nat.toDigitsCore 16 f (n / 16) []).map Char.toNat ++ ([Nat.digitChar (n % 16)].map Char.toNat)).length = ((Nat.toDigitsCore 16 f (n / 16) []).map Char.toNat).length + 1 := by simp
      rw [el, show k + 1 - (((Nat.toDigitsCore 16 f (n / 16) []).map Char.toNat).length + 1) = k - ((Nat.toDigitsCore 16 f (n / 16) []).map Char.toNat).length by omega]
theorem toDigits_hx {n : Nat} (h : n < 16 ^ 16) : ((Nat.toDigits 16 n).map Char.toNat).length ≤ 16 ∧
    List.replicate (16 - ((Nat.toDigits 16 n).map Char.toNat).length) 48 ++ (Nat.toDigits 16 n).map Char.toNat = hx 16 n := core_hx 16 (n + 1) n (by decide) h (by omega)
theorem toDigits_ne (n : Nat) : ((Nat.toDigits 16 n).map Char.toNat).isEmpty = false := by
  unfold Nat.toDigits
  by_cases h0 : n / 16 = 0
  · unfold Nat.toDigitsCore
    simp [h0]
  · unfold Nat.toDigitsCore
    simp only [h0, if_false]
    rw [core_acc]
    simp
/-- the digits as they are counted -/
def hexDigits : List Nat := [48, 49, 50, 51, 52, 53, 54, 55, 56, 57, 97, 98, 99, 100, 101, 102]
theorem dig_mem {d : Nat} (h : d < 16) : dig d ∈ hexDigits := by
  have : ∀ d : Fin 16, dig d.val ∈ hexDigits := by decide +kernel
  exact this ⟨d, h⟩
theorem hx_mem : ∀ k n, ∀ c ∈ hx k n, c ∈ hexDigits
  | 0, _, c, h => by simp [hx] at h
  | k + 1, n, c, h => by
    rcases List.mem_append.mp h with h | h
    · exact hx_mem k _ c h
    · rw [List.mem_singleton.mp h]
      exact dig_mem (Nat.mod_lt _ (by decide))
/-- the value of a digit: its first place -/
def val (c : Nat) : Nat := hexDigits.idxOf c
def readHex (l : List Nat) : Nat := l.foldl (fun n c => n * 16 + val c) 0
theorem val_dig {d : Nat} (h : d < 16) : val (dig d) = d := by
  have : ∀ d : Fin 16, val (dig d.val) = d.val := by decide +kernel
  exact this ⟨d, h⟩
theorem read_hx : ∀ k n, n < 16 ^ k → readHex (hx k n) = n
  | 0, n, h => by
    rw [Nat.pow_zero] at h
    have : n = 0 := by omega
    subst this
    rfl
  | k + 1, n, h => by
    have h16 : n / 16 < 16 ^ k := by
      rw [Nat.div_lt_iff_lt_mul (by decide)]
      rw [Nat.pow_succ] at h
      exact h
    have ih := read_hx k _ h16
    unfold readHex at ih ⊢
    show (hx k (n / 16) ++ [dig (n % 16)]).foldl _ 0 = n
    rw [List.foldl_append, ih]
    show n / 16 * 16 + val (dig (n % 16)) = n
    rw [val_dig (Nat.mod_lt _ (by decide))]
    omega
/-- the address's text of a number -/
def hexS (n : Nat) : Str := ⟨(hx 16 n).toArray⟩
end LW
namespace LW
open PySem PySem.Spec PyProof.Rows L2
/-- the field of a number in sixteen hexadecimal digits -/
def fld (neg : Bool) (n : Nat) : Str :=
  let sg : List Nat := if neg then [45] else []
  let ds0 : List Nat := (Nat.toDigits 16 n).map fun c => c.toNat
  let other : Int := (sg.length : Int) + 0 + 0
  let room : Int := 16 - other
  let ds : List Nat := if ds0.isEmpty then [] else List.replicate (room.toNat - ds0.length) 48 ++ ds0
  let pad : Nat := (16 - other - (ds.length : Int)).toNat
  ⟨(List.replicate 0 48 ++ sg ++ [] ++ List.replicate pad 48 ++ ds ++ [] ++ List.replicate 0 48).toArray⟩
theorem iteNo {c : Prop} [Decidable c] {X Y : Prop} (hc : ¬ c) (h : Y) : if c then X else Y := by
  rw [if_neg hc]
  exact h
theorem iteYes {c : Prop} [Decidable c] {X Y : Prop} (hc : c) (h : X) : if c then X else Y := by
  rw [if_pos hc]
  exact h
theorem gives_hex (a : Int) (t u : Tok) : Gives (Builtin.«int.__format__» ⟨[.int a t, .str "016x" u], []⟩) (.str (fld (decide (a < 0)) a.natAbs)) := by
  intro prog w A R s hq
  unfold Builtin.«int.__format__»
  refine wpAny_bind (wpAny_of_eq (a := (_, _)) rfl ?_)
  refine wpAny_bind (wpAny_of_eq (a := a) rfl ?_)
  refine wpAny_bind (wpAny_typeNameOf (T := "str") (typeIs_str _ _ _) (by decide) fun _ => ?_)
  refine wpAny_bind (wpAny_of_eq (a := some _) rfl ?_)
  refine wpAny_ite (iteNo (by decide +kernel) ?_)
  refine wpAny_ite (iteNo (by decide +kernel) ?_)
  refine wpAny_bind (wpAny_typeNameOfCut_int ?_)
  have hp : Builtin.Float.parseFormatSpec (Str.ofString "016x").cps.toList "int" 62 = .ok ⟨48, 61, none, false, false, some 16, none, none, some 120⟩ := by rfl
  rw [hp]
  refine wpAny_ite (iteYes (by decide +kernel) ?_)
  exact Gives.of_eq (m := .str (fld (decide (a < 0)) a.natAbs)) rfl prog w A R s hq
end LW
namespace LW
open PySem PySem.Spec PyProof.Rows L2
theorem fld_hexS {n : Nat} (h : n < 16 ^ 16) : fld false n = hexS n := by
  have e := toDigits_hx h
  have l : (hx 16 n).length = 16 := hx_len 16 n
  unfold fld hexS
  simp only [toDigits_ne, Bool.false_eq_true, if_false, List.length_nil, List.replicate_zero, List.nil_append, List.append_nil]
  rw [show ((16 : Int) - (((0 : Nat) : Int) + 0 + 0)).toNat = 16 from rfl, show (fun c : Char => c.toNat) = Char.toNat from rfl, e.2, l]
  rfl
theorem gives_hexS {n : Nat} (h : n < 16 ^ 16) (t u : Tok) : Gives (Builtin.«int.__format__» ⟨[.int (n : Int) t, .str "016x" u], []⟩) (.str (hexS n)) := by
  have g := gives_hex (n : Int) t u
  rw [show decide ((n : Int) < 0) = false from decide_eq_false (by omega), Int.natAbs_natCast, fld_hexS h] at g
  exact g
theorem hexS_len (n : Nat) : (hexS n).length = 16 := by
  show (hx 16 n).toArray.size = 16
  rw [List.size_toArray, hx_len]
section
variable {X : Cx}
/-- {n:016x} -/
def tHex (te : TE) : TE := fun σ H Q => te σ H fun x H1 => ∃ n : Nat, x = .int (n : Int) ∧ n < 16 ^ 16 ∧ Q (.str (hexS n)) H1
theorem pe_hex {e : Expr} {te : TE} {j : Nat} {p1 p2 pos : Pos} (he : PE X e te) : PE X (.FormattedValue e (-1) (some (.JoinedStr [.Constant (.str "016x") j p1] p2)) pos) (tHex te) := by
  constructor
  intro pins s σ H Q I h
  refine wpAny_FormattedValue_spec (thn (he.run pins s σ H _ I h) ?_)
  rintro v s1 ⟨x, H1, I1, r1, n, ex, hn, q⟩
  subst ex
  obtain ⟨t, et⟩ := r1
  subst et
  refine wpAny_JoinedStr_one (Calls.Constant_str ⟨_, _, rfl, ?_⟩)
  refine wpAny_formatField_spec (by decide +kernel) (fun s' => typeIs_int s' (n : Int) t) F.slot_int_format F.entry_int_format F.args_int_format_2 (fun u => gives_hexS hn t u) ?_ (by decide +kernel)
    (by rw [hexS_len]; decide +kernel)
  exact ⟨.str (hexS n), H1, (I1.tok _).tok _, ⟨_, rfl⟩, q⟩
end
end LW
namespace LW
open PySem PySem.Spec PyProof.Rows L2
/-- as it was but at D -/
def But (D : Addr) (H H' : Hp) : Prop := ∀ b, b ≠ D → H' b = H b
theorem But.refl (D : Addr) (H : Hp) : But D H H := fun _ _ => rfl
theorem But.upd {D : Addr} {H : Hp} {o : HO} : But D H (upd H D o) := fun _ hb => upd_ne hb
theorem But.same {D : Addr} {H H' : Hp} (h : But D H H') (n : H D = none) : Same H H' := fun b o e => by
  rw [h b (ne_of_none e n)]
  exact e
theorem But.list {K : PySem.W.Frag} {D a : Addr} {H H' : Hp} {xs : List V} (h : But D H H') (n : H D = none) (s : SqL K H a xs) : SqL K H' a xs := (h.same n).seq s
theorem upd_eq {H H' : Hp} {D : Addr} {o : HO} (h : But D H H') (e : H' D = some o) : H' = upd H D o := by
  funext b
  by_cases hb : b = D
  · subst hb; rw [e, upd_same]
  · rw [h b hb, upd_ne hb]
section
variable {J : It} {n : Nat} {G : Hp → Prop} {Y : Nat → Hp → V → Hp → Prop}
/-- a comprehension whose parts make nothing -/
theorem lc_flt (w : Walk J n G Y) {j : Nat} {tt : TT} {te : TE} {vs : List Nat} {σ : L2.St} {H1 : Hp} {D : Addr} {Qd : Hp → Prop} (t : Nat → Bool) (f : Nat → V)
    (hn : n < 16000000) (hG : ∀ H, But D H1 H → G H) (hw : ∀ x, wipe ((wipe σ vs).set j (some x)) vs = wipe σ vs)
    (hs : ∀ i x H H', i < n → But D H1 H → Y i H x H' → H' = H ∧ (∀ Q : Bool → Hp → Prop, Q (t i) H → tt ((wipe σ vs).set j (some x)) H Q) ∧ (t i = true → ∀ Q : VK, Q (f i) H → te ((wipe σ vs).set j (some x)) H Q))
    (hd : Qd (upd H1 D (.lst (((List.range n).filter t).map f)))) :
    ∃ W : Nat → Nat → Hp → Prop, (∃ m, W 0 m (upd H1 D (.lst []))) ∧ ∀ i m H, W i m H →
      (J.stop i H ∧ Qd H) ∨ (J.go i H ∧ ∃ Nx : Hp → Prop, (∀ H', Nx H' → ∃ m', m' < m ∧ W (i + 1) m' H') ∧ ∀ x H', J.yld i H x H' → gName j x (wipe σ vs) H' fun σ2 H2 => wipe σ2 vs = wipe σ vs ∧ tt σ2 H2 fun b H3 =>
        if b = true then te σ2 H3 fun y H4 => ∃ acc, H4 D = some (.lst acc) ∧ acc.length < sizeLine ∧ Nx (upd H4 D (.lst (acc ++ [y]))) else Nx H3) := by
  refine lc_it w (fun i H => H = upd H1 D (.lst (((List.range i).filter t).map f))) rfl (fun i H _ e => hG H (by rw [e]; exact But.upd)) ?_ (fun H e => by rw [e]; exact hd)
  rintro i x H H' hi e hy
  have b1 : But D H1 H := by rw [e]; exact But.upd
  obtain ⟨e2, ht, he⟩ := hs i x H H' hi b1 hy
  subst e2
  have hD : H' D = some (.lst (((List.range i).filter t).map f)) := by rw [e, upd_same]
  refine ⟨hw x, ht _ ?_⟩
  rw [List.range_succ, List.filter_append, List.map_append]
  cases hti : t i with
  | true =>
    rw [if_pos rfl]
    refine he hti _ ⟨_, hD, ?_, ?_⟩
    · have l1 : (((List.range i).filter t).map f).length ≤ i := by
        rw [List.length_map]
        exact Nat.le_trans (List.length_filter_le _ _) (by rw [List.length_range]; exact Nat.le_refl _)
      exact Nat.lt_of_le_of_lt l1 (Nat.lt_trans hi (Nat.lt_trans hn (by decide)))
    · rw [e, upd_upd]
      simp [hti]
  | false =>
    rw [if_neg Bool.false_ne_true]
    simp [hti]
    exact e
theorem lc_map (w : Walk J n G Y) {j : Nat} {te : TE} {vs : List Nat} {σ : L2.St} {H1 : Hp} {D : Addr} {Qd : Hp → Prop} (f : Nat → V)
    (hn : n < 16000000) (hG : ∀ H, But D H1 H → G H) (hw : ∀ x, wipe ((wipe σ vs).set j (some x)) vs = wipe σ vs)
    (hs : ∀ i x H H', i < n → But D H1 H → Y i H x H' → H' = H ∧ ∀ Q : VK, Q (f i) H → te ((wipe σ vs).set j (some x)) H Q)
    (hd : Qd (upd H1 D (.lst ((List.range n).map f)))) :
    ∃ W : Nat → Nat → Hp → Prop, (∃ m, W 0 m (upd H1 D (.lst []))) ∧ ∀ i m H, W i m H →
      (J.stop i H ∧ Qd H) ∨ (J.go i H ∧ ∃ Nx : Hp → Prop, (∀ H', Nx H' → ∃ m', m' < m ∧ W (i + 1) m' H') ∧ ∀ x H', J.yld i H x H' → gName j x (wipe σ vs) H' fun σ2 H2 => wipe σ2 vs = wipe σ vs ∧ tYes σ2 H2 fun b H3 =>
        if b = true then te σ2 H3 fun y H4 => ∃ acc, H4 D = some (.lst acc) ∧ acc.length < sizeLine ∧ Nx (upd H4 D (.lst (acc ++ [y]))) else Nx H3) := by
  refine lc_flt w (tt := tYes) (fun _ => true) f hn hG hw (fun i x H H' hi hb hy => ?_) ?_
  · obtain ⟨e, k⟩ := hs i x H H' hi hb hy
    exact ⟨e, fun Q q => q, fun _ => k⟩
  · rw [List.filter_eq_self.mpr (fun _ _ => rfl)]
    exact hd
end
theorem range_map_get {α β : Type} (g : α → β) (d : α) (l : List α) : (List.range l.length).map (fun i => g (l.getD i d)) = l.map g := by
  apply List.ext_getElem
  · simp
  · intro i h1 h2
    simp at h1 h2 ⊢
    rw [List.getElem?_eq_getElem (by simpa using h1)]
    rfl
theorem cutV_map {α : Type} (g : α → V) (xs : List α) (lo hi : Option Int) : ∃ ys : List α, cutV (xs.map g) lo hi = ys.map g ∧ ys.length ≤ xs.length ∧ ∀ y ∈ ys, y ∈ xs := by
  refine ⟨(xs.drop (HT.sIx xs.length 0 lo)).take (HT.sIx xs.length xs.length hi - HT.sIx xs.length 0 lo), ?_, ?_, ?_⟩
  · unfold cutV
    rw [List.length_map, ← List.map_drop, ← List.map_take]
  · rw [List.length_take, List.length_drop]
    omega
  · intro y hy
    exact List.mem_of_mem_drop (List.mem_of_mem_take hy)
section
variable {X : Cx}
/-- repr(b) -/
theorem call_repr_bl : CallR X (.builtin "repr") (fun xs H Q => ∃ b : Bool, xs = [.bl b] ∧ Q (.str (if b then "True" else "False")) H) := by
  intro pins s σ H xs us Q I r h
  obtain ⟨b, rfl, q⟩ := h
  obtain ⟨u, rfl, r1⟩ := vals1 r
  cases (show u = Value.bool b from r1)
  exact PySem.P.repr_of_bool ⟨.str _, H, I.tok _, ⟨_, rfl⟩, q⟩
end
end LW
namespace LW
open PySem PySem.Spec PyProof.Rows L2
/-! ### super().__init__(..) in the __init__ of an own exception over ValueError -/
/-- what the written part says of the class and the code that stands there -/
structure SupAt (P : Program) (K : PySem.W.Frag) (C cc cda : Addr) : Prop where
  T : OexC K C
  cell : ∃ cl cld csl, K.lookup cc = some ⟨cl, cld, .cell (some (.ref C)), csl⟩
  code : ∃ ccl cdd ccs vs file tf, K.lookup cda = some ⟨ccl, cdd, .fields vs, ccs⟩ ∧ vs[2]? = some (.str file tf) ∧ ((P.main.file : Str) == file) = true
  top : (P.main.scope.names.lookup ("super" : Str)).isSome = false
  opq : PySem.W.nsIn K cStatics "thirdparty.any" = some none
  own : PySem.W.mroIn K C (.ref C) = some true
  sup : PySem.W.ks_superIn K C C "__init__" = some (some (.builtin "ValueError.__init__"))
  sub : PySem.W.subIn K (.ref C) (.type "ValueError") = some true
theorem boot_super : bootBuiltins "super" = some (.type "super") := by decide +kernel
section
variable {X : Cx} {pins : List (Addr × Obj)} {σ : L2.St} {H : Hp} {s : Shared}
theorem sup_init {a C cc cda f : Addr} {body rest : List Stmt} {e : Expr} {ta : TA} {p0 p1 p2 p3 pos : Pos} {ar : Arg} {of : Obj} {fd : FuncData} {Qf : Flow → Shared → Prop} {R : Hp → Prop} {i : Nat}
    (S : SupAt X.prog X.K C cc cda) (I : Inv X pins σ H s) (mS : X.mg "super" = none)
    (kf : X.K.lookup f = some of) (of1 : of.data = .func fd) (hp : (fd.params.posonlyargs ++ fd.params.args).head? = some ar)
    (ef : X.env.func = some f) (ec : X.env.code = .ref cda) (hks : X.env.kindOf "super" = some .globalImplicit) (hkc : X.env.kindOf "__class__" = some .free) (hcl : X.env.cells.lookup ("__class__" : Str) = some cc)
    (hka : X.env.kindOf ar.arg = some .local) (hN : X.N[i]? = some ar.arg) (hs : σ[i]? = some (some (.ref a)))
    (ha : H a = some (exo a C none)) (he : PA X [e] ta)
    (h : ta σ H fun vs H1 => vs.length ≤ 1000 ∧ H1 a = some (exo a C none) ∧ R H1)
    (q : ∀ H1 s1, Inv X pins σ H1 s1 → R H1 → H1 a = some (exo a C none) → wpAny (model X.prog X.w) X.A (execs rest X.env) Qf X.xe s1)
    (hi : interactive X.env = false) {pl : Sem Bool}
    (hc : eval (.Call (.Attribute (.Call (.Name "super" p0) [] [] p1) "__init__" p2) [e] [] p3) X.env = (do
      let ov ← attributeBase (.Call (.Name "super" p0) [] [] p1) "__init__" X.env (eval (.Call (.Name "super" p0) [] [] p1) X.env)
      standAt p2.atName
      let (f, first) ← holding [ov] (getMethod ov "__init__" pl)
      callWith p3 f first (backTo p3 (starEach [e] X.env)) []) := by rfl)
    (hst : starEach [e] X.env = (false, eval e X.env) :: starEach [] X.env := by rfl)
    (hsw : swapsWith (.Call (.Attribute (.Call (.Name "super" p0) [] [] p1) "__init__" p2) [e] [] p3) none pos.line X.env = pure false := by rfl) :
    PySem.wpAt (model X.prog X.w) X.A (.func body X.env) (execs (.Expr (.Call (.Attribute (.Call (.Name "super" p0) [] [] p1) "__init__" p2) [e] [] p3) pos :: rest) X.env) Qf X.xe s := by
  obtain ⟨nm, qn, N, bs, bm, sn, sub, ab, col, dd, k0, k1, k2, k3, k5, hC, hbm⟩ := S.T.cls
  obtain ⟨cl, cld, csl, hcell⟩ := S.cell
  obtain ⟨ccl, cdd, ccs, vs, file, tf, hcode, hvs, hfile⟩ := S.code
  obtain ⟨t1, hx⟩ := exo_at I.hok ha
  obtain ⟨mb, hb1, hb2⟩ := I.mod.blt
  have hcd : PySem.W.clsIn X.K C = some { name := nm, bases := bs, mro := .ref C :: bm, ns := N, qualname := qn, hasDict := true, slotNames := sn, subclasses := sub, abstract := ab, collection := col, hasDel := false } := by unfold PySem.W.clsIn; rw [hC] <;> rfl
  have sup := S.sup
  unfold PySem.W.ks_superIn at sup
  rw [hcd] at sup
  refine ks_wpAt_execs_cons (ks_wpAt_Expr_any (ks_wpAt_MethodCall (pl := pl) ?_ hc) hi hsw)
  refine ks_wpAt_super_base hks hkc (by decide) ef (I.kIn _ _ kf) of1 hp ec (I.kIn _ _ hcode) rfl hvs hfile S.top ?_
  refine PySem.W.ks_loadName_global I.ok.kind hks (Calls.loadGlobal_builtin (by rw [I.ok.glob]; exact I.mod.glob.keeps I.bk) mS (by rw [I.ok.blt]; exact hb1.keeps I.bk) ((hb2 "super" (by decide)).trans boot_super) ⟨rfl, ?_⟩)
  refine wpAny_loadName_free I.ok.kind hkc hcl ⟨_, I.kIn _ _ hcell, rfl⟩ ?_
  have hself : ∃ m, s.heap.Ns X.env.locals m ∧ m ar.arg = some (.ref a) := by
    obtain ⟨m, hn, hlk⟩ := I.loc
    obtain ⟨u, ru, L⟩ := hlk i ar.arg (.ref a) hN hs (.inl hka)
    cases (show u = Value.ref a from ru)
    rcases L with ⟨_, z⟩ | ⟨z, _⟩
    · exact ⟨m, hn, z⟩
    · rw [hka] at z
      rcases z with z | z <;> cases z
  obtain ⟨m, hns, hm⟩ := hself
  refine wpAny_loadName_local I.ok.kind hka hns hm ?_
  refine ks_wpAny_isType_cls (I.kIn _ _ hC) rfl ⟨rfl, ?_⟩
  obtain ⟨hp, g, d, t, os⟩ := s
  refine ks_wpAny_call_super (I.kIn _ _ hC) rfl hx rfl (fun c z => nomatch z) (PySem.W.looks_mroIn I.kIn S.own) (fun h' es k => ?_)
  have I1 : Inv X pins σ H ⟨h', g, d, t, os⟩ := I.kept (t' := t) k
  have hx1 := k _ _ hx
  have IA : PySem.W.InstAt h' a ({ cls := .ref C, dict := none, data := .fields #[.ref t1, .none, .none, .none, .bool false, .none] } : Obj) C none := ⟨hx1, rfl, rfl, trivial⟩
  refine PySem.W.kxs_getMethod PySem.W.kxs_ValueError es (PySem.W.looks_opaque I1.kIn S.opq) (l₀ := .ref C :: bm) ?_ rfl I1.kIn sup (IA.type.andThen (PySem.W.looks_subIn I1.kIn S.sub)) (PySem.W.ks_ne I1.kIn IA hcd) (by decide) ?_
  · exact fun A Q E s k q => wpAny_bind ((PySem.W.looks_clsIn I1.kIn hcd) A _ E s k (wpAny_pure q))
  · have szu : hp.objs.size < h'.objs.size := Heap.lt_size es
    have lex := Heap.lt_size hx1
    have k2 : ∀ b o, h'.get? b = some o → (h'.push (PySem.W.kxs_mw "ValueError.__init__" a)).get? b = some o := fun b o z => Heap.get?_push_of_some _ z
    have hu : (h'.push (PySem.W.kxs_mw "ValueError.__init__" a)).get? h'.objs.size = some (PySem.W.kxs_mw "ValueError.__init__" a) := Heap.get?_push_at rfl rfl
    have I2 : Inv X pins σ H ⟨h'.push (PySem.W.kxs_mw "ValueError.__init__" a), g, d, t + 1, os⟩ := I1.kept (t' := t + 1) k2
    have fpo := I1.fpOk (Nat.le_refl h'.objs.size) (I1.hok.fresh (Nat.le_refl _))
    have I3 : Inv X (pins ++ [(h'.objs.size, PySem.W.kxs_mw "ValueError.__init__" a)]) σ H ⟨h'.push (PySem.W.kxs_mw "ValueError.__init__" a), g, d, t + 1, os⟩ := I2.pins_of fun p hp => by
      rcases List.mem_append.mp hp with z | z
      · exact I2.pin p (List.mem_append_right _ z)
      · rw [List.mem_singleton.mp z]
        exact ⟨hu, fpo.1, fpo.2.1, fpo.2.2.1, fun v z => nomatch z⟩
    rw [hst]
    refine PySem.W.kxs_callWith (i := "ValueError.__init__") (x := a) rfl (Calls.evalArgs_plain ?_)
    have run := he.run p3 _ _ σ H _ I3 h
    rw [hst] at run
    refine thn run ?_
    rintro us s1 ⟨ws, H1, J, rv, hlen, ha1, hR⟩
    have hu1 : s1.heap.get? h'.objs.size = some (PySem.W.kxs_mw "ValueError.__init__" a) := (J.pin (h'.objs.size, PySem.W.kxs_mw "ValueError.__init__" a) (by simp)).1
    refine ⟨hu1, ?_⟩
    obtain ⟨t2, hx2⟩ := exo_at J.hok ha1
    have hz : us.length ≤ sizeLine := by
      rw [← Paired.length rv, sizeLine_eq]
      omega
    obtain ⟨h2, g2, d2, tk2, os2⟩ := s1
    refine wpAny_call (codeAny_of_tree ?_)
    show wpAny _ X.A.in1 (callAny (.ref h'.objs.size) ⟨us, []⟩) _ _ _
    simp only [callAny]
    refine wpAny_bind (wpAny_load hu1 ?_)
    simp only [PySem.W.kxs_mw, show (Value.type "method-wrapper" == Value.type "method" || Value.type "method-wrapper" == Value.type "builtin_function_or_method" || Value.type "method-wrapper" == Value.type "method-wrapper") = true by decide, if_true]
    refine PySem.W.KFB.if_so (by decide) ?_
    refine wpAny_bind (PySem.W.check_bound_init F.excBase_ValueError.toExcCallFacts (J.kIn _ _ hC) hx2 rfl ?_)
    refine wpAny_bind (wpAny_pure (wpAny_pure ?_))
    refine ⟨plainId_quiet F.excBase_ValueError.init.plain _, codeAny_builtin F.excBase_ValueError.initEntry ?_⟩
    refine PySem.W.exc_init_tree (cls := .ref C) (t0 := t2) (dv := none) (c2 := .none) (c3 := .none) (b4 := .bool false) hx2 hz fun h3 k3 e3 t3 => ?_
    have J2 := J.write (t' := tk2) (x := a) (e := a) (o := exo a C none) (by rw [ha1]; exact True.intro) (.inl rfl) k3 ⟨_, e3⟩ (exo_ok e3)
    have eu : upd H1 a (exo a C none) = H1 := by
      funext b
      by_cases hb : b = a
      · rw [hb, upd_same, ha1]
      · rw [upd_ne hb]
    rw [eu] at J2
    exact PySem.wpAt_of_wpAny (q H1 _ J2.unpinned hR ha1)
end
end LW
namespace LW
open PySem PySem.Spec PyProof.Rows L2
structure SupScope (N P : List Str) (sc : Scope) : Prop where
  kind : sc.kind = .function
  co : sc.isCoroutine = false
  gen : sc.isGenerator = false
  nd : N.Nodup
  pre : N.take P.length = P
  par : ∀ x ∈ P, sc.names.lookup x = some .local
  nocell : ∀ y ∈ sc.names, y.2 ≠ .cell
  free : ∀ y ∈ sc.names, y.2 = .free → y.1 = ("__class__" : Str)
def cxS (CX : CXT) (P : Program) (w : World) (K : PySem.W.Frag) (mg : Str → Option Value) (base : Heap) (N : List Str) (qual : Str) (scope : Scope) (f : Addr) (cd : Value) (cc : Addr) (A : Around) (outer : List Env) (s : Shared) (H : Hp) (E : XK) : Cx where
  prog := P
  w := w
  K := K
  mg := mg
  base := base
  A := A.deeper (PySem.W.ksEnv qual scope s.heap.objs.size f cd cc)
  N := N
  s_0 := s
  H_0 := H
  env := PySem.W.ksEnv qual scope s.heap.objs.size f cd cc
  outer := outer
  stack := PySem.W.ksEnv qual scope s.heap.objs.size f cd cc :: outer
  ex := []
  calm := true
  fn := fun _ => false
  pn := []
  xe := fun e s' => wpAny (model P w) (A.deeper (PySem.W.ksEnv qual scope s.heap.objs.size f cd cc)) (leaving (PySem.W.ksEnv qual scope s.heap.objs.size f cd cc) e) (fun _ s'' => CX outer H s E e s'') (fun e' s'' => CX outer H s E e' s'') s'
theorem zip_lookup {P : List Str} {us : List Value} {i : Nat} {x : Str} {v : Value} (nd : P.Nodup) (h1 : P[i]? = some x) (h2 : us[i]? = some v) : (P.zip us).reverse.lookup x = some v := by
  induction P generalizing us i with
  | nil => simp at h1
  | cons p r ih =>
    cases us with
    | nil => simp at h2
    | cons u us =>
      show ((p, u) :: r.zip us).reverse.lookup x = some v
      rw [List.reverse_cons, List.lookup_append]
      cases i with
      | zero =>
        simp at h1 h2
        subst h1
        subst h2
        have : (r.zip us).reverse.lookup p = none := by
          cases e : (r.zip us).reverse.lookup p with
          | none => rfl
          | some w =>
            have m := PySem.mem_of_lookup e
            rw [List.mem_reverse] at m
            exact absurd (List.of_mem_zip m).1 (List.nodup_cons.mp nd).1
        rw [this]
        simp
      | succ i =>
        rw [ih (List.nodup_cons.mp nd).2 (by simpa using h1) (by simpa using h2)]
        rfl
theorem inv_sup {CX : CXT} {P : Program} {w : World} {K : PySem.W.Frag} {mg : Str → Option Value} {base : Heap} {N ps : List Str} {qual : Str} {scope : Scope} {f cc : Addr} {cd : Value} {A : Around} {outer : List Env} {s : Shared} {H : Hp} {E : XK} {us : List Value} {vs : List V} {h₀ : Heap} {tk : Nat} {oc : Obj} {vc : Option Value}
    (S : SupScope N ps scope) (hd : A.handled = none) (e0 : Env0 P w K mg base A outer s H) (hl : vs.length = ps.length) (r : Vals vs us) (hcc : K.lookup cc = some oc) (hvc : oc.data = .cell vc)
    (hns : h₀.Ns s.heap.objs.size (fun x => (ps.zip us).reverse.lookup x)) (hk : ∀ b o, s.heap.get? b = some o → h₀.get? b = some o) :
    Inv (cxS CX P w K mg base N qual scope f cd cc A outer s H E) [] (start N vs) H { s with heap := h₀, toks := tk } := by
  have hpl : ps.length ≤ N.length := by have := congrArg List.length S.pre; rw [List.length_take] at this; omega
  have noA : ∀ b : Addr, b ∉ (cxS CX P w K mg base N qual scope f cd cc A outer s H E).ex := fun b z => absurd (show b ∈ ([] : List Addr) from z) (by simp)
  have only : ∀ y c, (cxS CX P w K mg base N qual scope f cd cc A outer s H E).env.cells.lookup y = some c → y = ("__class__" : Str) ∧ c = cc := fun y c z => by
    have m : (y, c) ∈ [(("__class__" : Str), cc)] := PySem.mem_of_lookup z
    have e := List.mem_singleton.mp m
    cases e
    exact ⟨rfl, rfl⟩
  have kin : K.In s.heap := e0.mod.kin.keeps fun b o e => (e0.bs b o e).1
  have ccH : H cc = none := (e0.bs cc oc (e0.mod.kin _ _ hcc)).2
  refine ⟨⟨e0.mod, S.kind, rfl, rfl, Nat.le_refl _, fun y z c h1 h2 => (only y c h1).1.trans (only z c h2).1.symm, fun y hy => ?_, fun y c z _ => absurd (show false = true from z) Bool.false_ne_true, fun _ => hd, Around.frames_deeper e0.frames, .inr ⟨rfl, rfl⟩, fun b z => absurd z (noA b), e0.bs, e0.bsz, fun b _ _ => noA b, fun b z => absurd z (noA b), e0.funs, e0.frf⟩,
    rfl, e0.bare, Un.kept hk, ⟨_, hns, fun i y v h1 h2 h3 => ?_⟩, fun y c h => ?_, e0.hok.fresh (Nat.le_refl _), fun y c h => ?_, fun p hp => absurd (show p ∈ ([] : List (Addr × Obj)) from hp) (by simp), e0.hok.kept hk, ?_⟩
  · have hy : scope.names.lookup y = some .cell ∨ scope.names.lookup y = some .free := hy
    rcases hy with hy | hy
    · exact absurd rfl (S.nocell _ (PySem.mem_of_lookup hy))
    · have e := S.free _ (PySem.mem_of_lookup hy) rfl
      cases e
      exact ⟨cc, rfl⟩
  · have hi : i < vs.length := by
      unfold L2.start at h2
      by_cases hi : i < vs.length
      · exact hi
      · rw [List.getElem?_append_right (by simpa using hi)] at h2
        rw [List.getElem?_replicate] at h2
        split at h2 <;> cases h2
    have ha : vs[i]? = some v := by
      unfold L2.start at h2
      rw [List.getElem?_append_left (by simpa using hi), List.getElem?_map] at h2
      cases e : vs[i]? with
      | none => rw [e] at h2; cases h2
      | some a => rw [e] at h2; cases h2; rfl
    obtain ⟨u, hu, rv⟩ := r.get ha
    have hp : ps[i]? = some y := by
      rw [← S.pre, List.getElem?_take_of_lt (by omega)]; exact h1
    have ndP : ps.Nodup := by rw [← S.pre]; exact S.nd.sublist (List.take_sublist _ _)
    exact ⟨u, rv, .inl ⟨S.par y (List.mem_of_getElem? hp), zip_lookup ndP hp hu⟩⟩
  · rw [(only y c h).2]
    exact ⟨vc, oc, hk _ _ (kin _ _ hcc), hvc⟩
  · rw [(only y c h).2]
    exact ccH
  · unfold L2.start
    show _ = N.length
    rw [List.length_append, List.length_map, List.length_replicate]
    omega
/-- THE RULE: a def whose scope has the free name __class__, by its body -/
theorem fn_sup {CX : CXT} {P : Program} {w : World} {K : PySem.W.Frag} {mg : Str → Option Value} {base : Heap} {k : Nat} {f cc : Addr} {name qual : Str} {params : Arguments} {body : List Stmt} {scope : Scope} {dV kV doc pm cdv ct oc : Value} {an od : Option Addr}
    {osl : Array (Option Value)} {N ps : List Str} {sp : Sp} {occ : Obj} {vc : Option Value} (lk : K.lookup f = some ⟨oc, od, .func (PySem.W.ksFn name qual params body scope dV kV doc pm an cdv ct cc), osl⟩) (hcd : PySem.W.codeIn K cdv qual = true) (hcc : K.lookup cc = some occ) (hvc : occ.data = .cell vc)
    (S : SupScope N ps scope) (len : ∀ vs H Q E, sp vs H Q E → vs.length = ps.length)
    (hbody : ∀ (A : Around) (outer : List Env) (s : Shared) (H : Hp) (vs : List V) (Q : VK) (E : XK) (s1 : Shared), Room k (A.deeper (PySem.W.ksEnv qual scope s.heap.objs.size f cdv cc)) → sp vs H Q E →
      Inv (cxS CX P w K mg base N qual scope f cdv cc A outer s H E) [] (L2.start N vs) H s1 →
      PySem.wpAt (model P w) (A.deeper (PySem.W.ksEnv qual scope s.heap.objs.size f cdv cc)) (.func body (PySem.W.ksEnv qual scope s.heap.objs.size f cdv cc)) (execs body (PySem.W.ksEnv qual scope s.heap.objs.size f cdv cc))
        (SP (cxS CX P w K mg base N qual scope f cdv cc A outer s H E) [] { nx := fun _ H' => Q .non H', rt := Q }) (cxS CX P w K mg base N qual scope f cdv cc A outer s H E).xe s1) :
    FnOk P w K mg base CX (k + 1) f (PySem.W.ksFn name qual params body scope dV kV doc pm an cdv ct cc) ps sp := by
  refine ⟨len, fun A outer s H args us vs Q E hr e0 hb r hsp => ?_⟩
  have hl := len _ _ _ _ hsp
  have KX : K.In s.heap := e0.mod.kin.keeps fun b o e => (e0.bs b o e).1
  have lim : s.heap.NoLimit := e0.mod.nolimit.keeps fun b o e => (e0.bs b o e).1
  refine ks_codeAny_call_defAt (fd := PySem.W.ksFn name qual params body scope dV kV doc pm an cdv ct cc) (body := body) (binds := ps.zip us) hr.depth (KX _ _ lk) rfl lim (PySem.W.codeRec_of KX hcd) rfl hb S.nocell
    (fun y hy => S.par _ (List.of_mem_zip (show (y.1, y.2) ∈ ps.zip us from hy)).1) (fun h₁ hns hk₁ => ?_) S.co S.gen S.kind
  have I : Inv (cxS CX P w K mg base N qual scope f cdv cc A outer s H E) [] (L2.start N vs) H { s with heap := h₁, toks := s.toks + (ps.zip us).length } := inv_sup S hr.hd e0 hl r hcc hvc hns hk₁
  refine ks_wpAt_mono (hbody A outer s H vs Q E _ (hr.deeper _) hsp I) (fun fl s' hs => ?_) fun e s' hs => hs
  have fin : ∀ {σ' : L2.St} {H' : Hp} {v : V} {u : Value}, Inv (cxS CX P w K mg base N qual scope f cdv cc A outer s H E) [] σ' H' s' → RelV v u → Q v H' → CE outer P w H s Q u s' :=
    fun {σ' H' v u} J rv q => ⟨v, H', J.os, J.bare, J.base, J.hok, rv, q⟩
  cases fl with
  | ret u =>
    obtain ⟨v, σ', H', J, rv, q⟩ := hs
    exact fin J rv q
  | next =>
    obtain ⟨σ', H', J, q⟩ := hs
    exact fin (v := V.non) (u := Value.none) J rfl q
  | brk =>
    obtain ⟨_, _, _, q⟩ := hs
    exact False.elim q
  | cont =>
    obtain ⟨_, _, _, q⟩ := hs
    exact False.elim q
end LW
namespace LW
open PySem PySem.Spec PyProof.Rows L2
/-! ### enumerate(list, start=c) -/
/-- the list at a as it stands at each turn, each item in a new pair behind c + i -/
def IteC (K : PySem.W.Frag) (c : Int) (a : Addr) : It where
  go := fun i H => ∃ (xs : List V) (x : V), SqL K H a xs ∧ xs[i]? = some x
  yld := fun i H v H' => ∃ T x, v = .ref T ∧ H T = none ∧ H' = upd H T (.tup [.int (c + (i : Nat)), x]) ∧ ∀ xs, SqL K H a xs → xs[i]? = some x
  stop := fun i H => ∃ xs : List V, SqL K H a xs ∧ xs.length ≤ i
theorem apart_cls {h : Heap} {a b : Addr} {o o' : Obj} (e : h.get? a = some o) (e' : h.get? b = some o') (n : o.cls ≠ o'.cls) : a ≠ b := by
  intro z
  subst z
  rw [e] at e'
  cases e'
  exact n rfl
theorem turn_enumC {P : Program} {w : World} {K : PySem.W.Frag} {elts : List Expr} {kk : Nat} {tp : Pos} (c : Int) (a e it : Addr) :
    Turn P w K (.Tuple elts kk tp) (IteC K c a) [e, it] e (fun i h => (∃ old, IsEnum h e it (c + (i : Nat)) old) ∧ h.IsListIter it a i ∧ e ≠ it) where
  mem := by simp
  obj := by
    rintro i h ⟨⟨old, he⟩, ⟨o, ho, hc, hd⟩, _⟩ b hb
    have e' : b = e ∨ b = it := by simpa using hb
    rcases e' with z | z
    · subst z
      exact ⟨_, he, fun v q => nomatch q⟩
    · subst z
      exact ⟨o, ho, fun v q => by rw [hd] at q; cases q⟩
  keep := by
    rintro i h h' ⟨⟨old, he⟩, hi, hne⟩ k
    exact ⟨⟨old, k e (by simp) _ he⟩, hi.at fun o q => k it (by simp) o q, hne⟩
  item := by
    intro X hP hw hK hc i pins s σ H E I hf st hg
    subst hP
    subst hw
    subst hK
    obtain ⟨⟨old, he⟩, hit, hne⟩ := st
    obtain ⟨xs, x, hq, hx⟩ := hg
    obtain ⟨its, rv, p, hz⟩ := I.list hq
    obtain ⟨u, hu, ru⟩ := rv.get hx
    have hel := Heap.lt_size he
    have hil : it < s.heap.objs.size := by
      obtain ⟨_, q, _⟩ := hit
      exact Heap.lt_size q
    have hl := p.isList
    have nli : a ≠ it := by
      obtain ⟨o1, q1, c1, _⟩ := hit
      obtain ⟨o2, q2, c2, _⟩ := hl
      exact apart_cls q2 q1 (by rw [c1, c2]; decide)
    have nel : e ≠ a := by
      obtain ⟨o2, q2, c2, _⟩ := hl
      exact apart_cls he q2 (by rw [c2]; show Value.type "enumerate" ≠ Value.type "list"; decide)
    have D := Draws.list (prog := X.prog) (w := X.w) (A := X.A.in1) (I.ok.hd hc) it a nli its.toArray
    have hlt : i < its.toArray.size := by
      have := (List.getElem?_eq_some_iff.mp hu).1
      simpa using this
    refine wpAny_pyNext_enum_itemC D he ⟨hit, hl⟩ hlt hne (by simp [hne, nel]) ?_
    intro y h' tk hy ho hst hT hsz hk
    have ey : y = u := by
      have h1 : its.toArray[i]? = some y := hy
      rw [List.getElem?_toArray, hu] at h1
      exact (Option.some.inj h1).symm
    subst ey
    refine ⟨_, rfl, wpAny_letOwnedTupleGo_enum (s := { s with heap := h', toks := tk + 1 }) ho ?_⟩
    intro h2 he2 sb
    have hT2 : h2.get? s.heap.objs.size = some { cls := .type "tuple", data := .seq #[.int (c + (i : Nat)) tk, y] } := (sb.2 _ (Nat.ne_of_gt hel)).trans hT
    have new : ObjOk X.prog X.w (upd H s.heap.objs.size (.tup [.int (c + (i : Nat)), x])) h2 s.heap.objs.size (.tup [.int (c + (i : Nat)), x]) :=
      ⟨by show 2 ≤ sizeLine; decide, [.int (c + (i : Nat)) tk, y], .cons ⟨_, rfl⟩ (.cons ru .nil), ⟨_, hT2, rfl, _, rfl⟩⟩
    have I1 := I.turnedNew (ch := [e, it]) (h' := h2) (t' := tk + 1) (T := s.heap.objs.size) (ob := .tup [.int (c + (i : Nat)), x])
      (fun b ob hb q => (sb.2 b (fun z => hb (by simp [z]))).trans (hk b ob (fun z => hb (by simp [z])) (fun z => hb (by simp [z])) q)) hf (Nat.le_refl _) new
    refine ⟨.ref s.heap.objs.size, _, I1, rfl, ⟨_, x, rfl, I.hok.fresh (Nat.le_refl _), rfl, ?_⟩, ⟨⟨y, ?_⟩, hst.1.at fun o q => (sb.2 it (Ne.symm hne)).trans q, hne⟩, ?_⟩
    · intro ys hy
      rw [I.list_inj hy hq]
      exact hx
    · have e1 : c + ((i + 1 : Nat) : Int) = c + (i : Int) + 1 := by omega
      rw [e1]
      exact he2
    · intro b hb
      have e' : b = e ∨ b = it := by simpa using hb
      have hb' : b < s.heap.objs.size := by
        rcases e' with z | z
        · rw [z]; exact hel
        · rw [z]; exact hil
      rw [upd_ne (Nat.ne_of_lt hb')]
      exact (hf b hb).1
  done := by
    intro X hP hw hK hc i pins s σ H E I hf st hg
    subst hP
    subst hw
    subst hK
    obtain ⟨⟨old, he⟩, hit, hne⟩ := st
    obtain ⟨xs, hq, hx⟩ := hg
    obtain ⟨its, rv, p, hz⟩ := I.list hq
    have hl := p.isList
    have nli : a ≠ it := by
      obtain ⟨o1, q1, c1, _⟩ := hit
      obtain ⟨o2, q2, c2, _⟩ := hl
      exact apart_cls q2 q1 (by rw [c1, c2]; decide)
    obtain ⟨f0, f1, f2, f3, f4, f5⟩ := hf it (by simp)
    have len := rv.length
    have hTy : s.TypeIs (.ref e) "enumerate" := ⟨_, he, rfl⟩
    unfold pyNext
    refine wpAny_bind (wpAny_attempt (wpAny_callSpecial?_slot (name := Str.ofString "__next__") hTy F.slot_enumerate_next (wpAny_call_entry F.slot_enumerate_next hTy F.entry_enumerate_next ?_ (F.args_enumerate_next_1 _))))
    show wpAny _ _ (field (.ref e) 2 >>= _) _ _ _
    refine wpAny_bind (wpAny_field he rfl (x := .ref it) rfl ?_)
    refine wpAny_bind (wpAny_nextOf_list_end (I.ok.hd hc) hit hl (by simp; omega) ?_)
    rintro h' x he' ⟨o, ho, hcl⟩
    refine wpAny_bind (wpAny_isInstance (T := "StopIteration") (b := true) ⟨o, ho, hcl⟩ isSubtype_stop ?_)
    exact wpAny_pure ⟨rfl, I.turned (t' := s.toks) (fun b o hb q => he' b o hb q) f0 f1 f3 f4 f5⟩
  self := by
    rintro A i s Q E ⟨⟨_, he⟩, _⟩ h
    exact wpAny_pyIter_enum he h
theorem callWith_tyKw {M : Model} {A : Around} {E : Value → Shared → Prop} {s : Shared} {env : Env} {pos : Pos} {T : String} {e : Expr} {rest : List Expr} {kws : List Keyword} {Q : Value → Shared → Prop}
    (h : wpAny M A (spliced (backTo pos (starEach (e :: rest) env))) (fun vs s1 => wpAny M A (evalAll ((backToKw pos (keywordEach kws env)).map (·.2)))
      (fun kvs s2 => wpAny M A (call (.type T) vs (((backToKw pos (keywordEach kws env)).filterMap (·.1)).zip kvs)) Q E s2) E s1) E s)
    (he : backTo pos (starEach (e :: rest) env) = (false, eval e env) :: backTo pos (starEach rest env) := by rfl)
    (hp : (backTo pos (starEach (e :: rest) env)).any (·.1) = false := by rfl)
    (hall : (backToKw pos (keywordEach kws env)).all (·.1.isSome) = true := by rfl)
    (hkw : (backToKw pos (keywordEach kws env)).any (·.1.isNone) = false := by rfl) :
    wpAny M A (callWith pos (.type T) [] (backTo pos (starEach (e :: rest) env)) (backToKw pos (keywordEach kws env))) Q E s := by
  have g : wpAny M A (evalArgs (.type T) true (backTo pos (starEach (e :: rest) env)) (backToKw pos (keywordEach kws env))) (fun a s1 => wpAny M A (call (.type T) ([] ++ a.pos) a.kw) Q E s1) E s := by
    rw [he] at h ⊢
    exact evalArgs_kwB hall h
  unfold callWith
  refine wpAny_bind (wpAny_holding (wpAny_mono g (fun a s1 h1 => wpAny_bind (wpAny_standAt ?_)) fun _ _ z => z))
  simp only [hp, hkw, Bool.or_false]
  refine wpAny_bind (wpAny_pure ?_)
  exact wpAny_bind (wpAny_mono h1 (fun r s2 hr => wpAny_bind (wpAny_holding (wpAny_point (wpAny_pure hr)))) fun _ _ z => z)
def iEnumC (K : PySem.W.Frag) (ta tk : TA) : TI := fun σ H R => ta σ H fun vs H1 => tk σ H1 fun ks H2 => ∃ (a : Addr) (c : Int) (xs : List V), vs = [.ref a] ∧ ks = [.int c] ∧ -(2 ^ 63) ≤ c ∧ c < 2 ^ 63 ∧ SqL K H2 a xs ∧ R (IteC K c a) H2
theorem pi_enumC {X : Cx} {e se : Expr} {ta tk : TA} {p pos kp tp : Pos} {elts : List Expr} {kk : Nat} (hg : Gl X "enumerate") (hm : X.mg "enumerate" = none) (ha : PA X [e] ta) (hk : PK X [⟨some "start", se, kp⟩] tk)
    (hs : starEach [e] X.env = [(false, eval e X.env)] := by rfl) :
    PI X (.Tuple elts kk tp) (.Call (.Name "enumerate" p) [e] [⟨some "start", se, kp⟩] pos) (iEnumC X.K ta tk) := by
  constructor
  intro pins s σ H R I h
  refine wpAny_Call_Name_kw (ld_blt I hg hm boot_enumerate (callWith_tyKw (kws := [⟨some "start", se, kp⟩]) (thn (ha.run pos pins s σ H _ I h) ?_) (by rw [hs]; rfl) (by rw [hs]; rfl)))
  rintro us s1 ⟨vs, H1, I1, r1, q1⟩
  refine thn (hk.run pos pins s1 σ H1 _ I1 q1) ?_
  rintro ws s2 ⟨ks, H2, I2, r2, a, c, xs, ea, ec, c0, c1, hq, q⟩
  subst ea
  subst ec
  cases r1 with
  | cons r rr =>
    cases rr
    cases r
    cases r2 with
    | cons r' rr' =>
      cases rr'
      obtain ⟨t, et⟩ := r'
      subst et
      obtain ⟨its, rv, p', hz⟩ := I2.list hq
      show wpAny _ _ (call (.type "enumerate") [.ref a] [(Str.ofString "start", .int c t)]) _ _ _
      refine enum_begins_start (begins_list a its.toArray) p'.isList c0 c1 ?_
      intro h' he hit hsz hkp
      have hiter : h'.IsListIter s2.heap.objs.size a 0 := ⟨_, hit, rfl, rfl⟩
      refine wpAny_pyIter_enum he ?_
      have I3 : Inv X pins σ H2 { s2 with heap := h' } := I2.kept (t' := s2.toks) hkp
      refine ⟨s2.heap.objs.size + 1, [s2.heap.objs.size + 1, s2.heap.objs.size], _, _, H2, rfl, I3, turn_enumC c a (s2.heap.objs.size + 1) s2.heap.objs.size, ⟨⟨.none, ?_⟩, hiter, Nat.succ_ne_self _⟩, ?_, q⟩
      · rw [show c + ((0 : Nat) : Int) = c by omega]
        exact he
      · intro b hb
        have e' : b = s2.heap.objs.size + 1 ∨ b = s2.heap.objs.size := by simpa using hb
        have hle : s2.heap.objs.size ≤ b := by
          rcases e' with z | z
          · rw [z]; exact Nat.le_add_right _ _
          · rw [z]; exact Nat.le_refl _
        exact I2.fpOk hle (I2.hok.fresh hle)
theorem walk_enumC {K : PySem.W.Frag} {c : Int} {a : Addr} {xs : List V} : Walk (IteC K c a) xs.length (fun H => SqL K H a xs) (YPair (fun i => some (.int (c + (i : Nat)))) (fun i => xs[i]?)) := by
  refine ⟨fun i _ hi q => ⟨xs, xs[i], q, by simp [hi]⟩, fun _ q => ⟨xs, q, Nat.le_refl _⟩, ?_⟩
  rintro i H v H' _ q ⟨T, x, h1, h2, h3, h4⟩
  exact ⟨T, .int (c + (i : Nat)), x, h1, h2, h3, rfl, h4 xs q⟩
end LW
namespace LW
open PySem PySem.Spec PyProof.Rows L2 GxR
/-- sixteen hexadecimal digits -/
def isAddr (t : Str) : Bool := decide (t.length = 16) && t.cps.toList.all fun c => decide (c ∈ hexDigits)
theorem digits_eq : (Str.ofString "0123456789abcdef").cps.toList = hexDigits := by decide +kernel
/-- a def of the text whose code object stands at c -/
structure FunC (K : PySem.W.Frag) (x qual : Str) (st : Stmt) (f : Addr) (fd : FuncData) (c : Addr) : Prop where
  ex : ∃ (oc : Value) (od : Option Addr) (kV doc pm : Value) (an : Option Addr) (ct : Value) (osl : Array (Option Value)),
    fd = PySem.W.fnOf x qual (defArgs st) (defBody st) (defScope st) .none kV doc pm an (.ref c) ct ∧ K.lookup f = some ⟨oc, od, .func fd, osl⟩ ∧ PySem.W.codeIn K (.ref c) qual = true
  kp : PySem.W.keepIn K (.ref f) = true
theorem FunC.ok {P : Program} {w : World} {K : PySem.W.Frag} {mg : Str → Option Value} {base : Heap} {x qual : Str} {st : Stmt} {f c : Addr} {fd : FuncData} {N ps : List Str} {k : Nat} {sp : Sp} (F : FunC K x qual st f fd c)
    (S : FnScope N ps (defScope st)) (len : ∀ vs H Q E, sp vs H Q E → vs.length = ps.length)
    (body : ∀ (A : Around) (outer : List Env) (s : Shared) (H : Hp) (vs : List V) (Q : VK) (E : XK), Room k (A.deeper (envOfC qual (defScope st) s.heap.objs.size f (.ref c))) → sp vs H Q E →
      ∃ t, PSs (cxOf CX0 P w K mg base N qual (defScope st) f (.ref c) A outer s H E).nox (defBody st) t ∧ t { nx := fun _ H' => Q .non H', rt := Q } (L2.start N vs) H) :
    FnOk P w K mg base CX0 (k + 1) f fd ps sp := by
  obtain ⟨oc, od, kV, doc, pm, an, ct, osl, e, lk, hcd⟩ := F.ex
  subst e
  refine fn_of lk hcd S len fun A outer s H vs Q E hr hsp => ?_
  obtain ⟨t, h, q⟩ := body A outer s H vs Q E hr hsp
  exact ⟨t, h.nox, q⟩
theorem no_free {ns : List (Str × NameKind)} {R : Str × NameKind → Prop} (h : ∀ y ∈ ns, y.2 ≠ .free) : ∀ y ∈ ns, y.2 = .free → R y := fun y hy e => absurd e (h y hy)
/-- a def of the module by its name -/
structure DefAt (K : PySem.W.Frag) (mg : Str → Option Value) (x : Str) (st : Stmt) (ps : List Str) (f : Addr) (fd : FuncData) : Prop where
  fn : Fun K x x st f fd
  at_ : mg x = some (.ref f)
  bd : Binds K fd ps []
theorem tyes {σ : L2.St} {H : Hp} {A B : Hp → Prop} (h : A H) : tYes σ H fun b H3 => if b = true then A H3 else B H3 := by
  show (if true = true then A H else B H)
  rw [if_pos rfl]
  exact h
theorem same_upd {H : Hp} {p : Addr} {o : HO} (h : H p = none) : Same H (upd H p o) := fun b x e => by
  rw [upd_ne (ne_of_none e h)]
  exact e
theorem nat_of {v m : Int} (h0 : 0 ≤ v) (h1 : v < m) : ∃ j : Nat, v = (j : Int) ∧ (j : Int) < m := ⟨v.toNat, by omega, by omega⟩
/-! ### the law's own state: a pair of addresses -/
def LS (H : Hp) (a c : Addr) (n : Int) (cs : List Int) : Prop :=
  H a = some (.lst [.int n, .ref c]) ∧ H c = some (.lst (cs.map V.int)) ∧ a ≠ c ∧ 0 < cs.length ∧ cs.length ≤ 63 ∧ (∀ z ∈ cs, 0 ≤ z) ∧ 0 ≤ n
def SL (H : Hp) (a c : Addr) : Prop := ∃ n cs, LS H a c n cs
theorem SL.eq {H H' : Hp} {a c : Addr} (s : SL H a c) (ea : H' a = H a) (ec : H' c = H c) : SL H' a c := by
  obtain ⟨n, cs, h1, h2, r⟩ := s
  exact ⟨n, cs, by rw [ea]; exact h1, by rw [ec]; exact h2, r⟩
theorem SL.same {H H' : Hp} {a c : Addr} (s : SL H a c) (e : Same H H') : SL H' a c := by
  obtain ⟨n, cs, h1, h2, r⟩ := s
  exact ⟨n, cs, e _ _ h1, e _ _ h2, r⟩
theorem SL.ne {H : Hp} {a c x : Addr} (s : SL H a c) (n : H x = none) : x ≠ a ∧ x ≠ c := by
  obtain ⟨_, cs, h1, h2, r⟩ := s
  exact ⟨(ne_of_none h1 n).symm, (ne_of_none h2 n).symm⟩
theorem SL.tab {H : Hp} {a c B : Addr} (s : SL H a c) (t : TabG H B) : B ≠ a ∧ B ≠ c := by
  obtain ⟨_, cs, h1, h2, r⟩ := s
  obtain ⟨ps, e, _⟩ := t
  exact ⟨ne_of e h1 (by intro q; cases q), ne_of e h2 (by intro q; cases q)⟩
theorem tab_same {H H' : Hp} {B : Addr} (t : TabG H B) (e : Same H H') : TabG H' B := by
  obtain ⟨ps, h, r⟩ := t
  exact ⟨ps, e _ _ h, r⟩
theorem tab_eq {H H' : Hp} {B : Addr} (t : TabG H B) (e : H' B = H B) : TabG H' B := by
  obtain ⟨ps, h, r⟩ := t
  exact ⟨ps, by rw [e]; exact h, r⟩
def spState (K : PySem.W.Frag) : Sp := fun vs H Q _ => ∃ (l : Addr) (ns : List Int), vs = [.ref l] ∧ SqL K H l (ns.map V.int) ∧ ns.length ≤ 63 ∧
  ∀ (a c : Addr) (H' : Hp), H a = none → H c = none → Same H H' → SL H' a c → Q (.ref a) H'
/-- a draw: 0 .. m - 1 -/
def spTake : Sp := fun vs H Q _ => ∃ (a c : Addr) (m : Int), vs = [.ref a, .int m] ∧ SL H a c ∧ 1 ≤ m ∧ m < 1000000 ∧
  ∀ (v : Int) (H' : Hp), 0 ≤ v → v < m → (∀ b, b ≠ a → b ≠ c → H' b = H b) → SL H' a c → Q (.int v) H'
theorem at2_0 {x y : V} : atI [x, y] 0 = some x := rfl
theorem at2_1 {x y : V} : atI [x, y] 1 = some y := rfl
/-! ### as it was, but for tables of code that may have grown -/
structure Gr (H H' : Hp) : Prop where
  keep : ∀ b o, H b = some o → (∀ ps, o ≠ .tbl ps) → H' b = some o
  tab : ∀ b, TabG H b → TabG H' b
  free : ∀ b, H' b = none → H b = none
theorem Gr.refl (H : Hp) : Gr H H := ⟨fun _ _ e _ => e, fun _ t => t, fun _ n => n⟩
theorem Gr.trans {H H1 H2 : Hp} (g : Gr H H1) (h : Gr H1 H2) : Gr H H2 := ⟨fun b o e n => h.keep b o (g.keep b o e n) n, fun b t => h.tab b (g.tab b t), fun b n => g.free b (h.free b n)⟩
theorem Gr.of_same {H H' : Hp} (s : Same H H') : Gr H H' := ⟨fun b o e _ => s b o e, fun b t => tab_same t s, fun b n => by
  cases e : H b with
  | none => rfl
  | some o => rw [s b o e] at n; cases n⟩
theorem Gr.of_tab {H H' : Hp} {B : Addr} (tb : TabG H B) (t : Tabbed B H H') : Gr H H' := ⟨fun b o e n => by
  obtain ⟨ps, h, _⟩ := tb
  rw [t.2 b (fun z => by rw [z, h] at e; cases e; exact n ps rfl)]
  exact e, fun b u => by
    by_cases hb : b = B
    · rw [hb]; exact t.1
    · exact tab_eq u (t.2 b hb), fun b n => by
    by_cases hb : b = B
    · obtain ⟨ps, h, _⟩ := t.1
      rw [hb, h] at n; cases n
    · rw [← t.2 b hb]; exact n⟩
theorem Gr.upd {H H' : Hp} {p : Addr} {o : HO} (g : Gr H H') (n : H' p = none) : Gr H (upd H' p o) := g.trans (.of_same (same_upd n))
theorem Gr.lst {H H' : Hp} {b : Addr} {xs : List V} (g : Gr H H') (e : H b = some (.lst xs)) : H' b = some (.lst xs) := g.keep b _ e (fun ps z => nomatch z)
theorem Gr.tup {H H' : Hp} {b : Addr} {xs : List V} (g : Gr H H') (e : H b = some (.tup xs)) : H' b = some (.tup xs) := g.keep b _ e (fun ps z => nomatch z)
theorem Gr.SL {H H' : Hp} {a c : Addr} (g : Gr H H') (s : SL H a c) : SL H' a c := by
  obtain ⟨n, cs, h1, h2, r⟩ := s
  exact ⟨n, cs, g.lst h1, g.lst h2, r⟩
/-- a promise without a way out is one of the calm kind -/
theorem calm_of {P : Program} {w : World} {K : PySem.W.Frag} {mg : Str → Option Value} {base : Heap} {k : Nat} {f : Addr} {fd : FuncData} {ps : List Str} {sp sp' : Sp} (F : FnOk P w K mg base (L2.CX P w) k f fd ps sp)
    (h : ∀ vs H Q E, sp' vs H Q E → sp vs H Q (fun _ _ _ => False)) : FnOk P w K mg base CX0 k f fd ps sp' := by
  refine ⟨fun vs H Q E q => F.len vs H Q _ (h vs H Q E q), fun A outer s H args us vs Q E hr e0 hb r q => codeAny_mono (F.run A outer s H args us vs Q _ hr e0 hb r (h vs H Q E q)) fun res s' hs => ?_⟩
  cases res with
  | ok fl => cases fl <;> exact hs
  | error e =>
    obtain ⟨_, _, _, _, _, _, _, _, _, _, _, _, z⟩ := hs
    exact z.elim
end LW
namespace LW
open PySem PySem.Spec PyProof.Rows L2
/-- the def of the module by the name x keeps sp -/
def Cal (P : Program) (w : World) (K : PySem.W.Frag) (mg : Str → Option Value) (base : Heap) (CX : CXT) (k : Nat) (x : Str) (ps : List Str) (sp : Sp) : Prop :=
  ∃ (f : Addr) (fd : FuncData), FnOk P w K mg base CX k f fd ps sp ∧ mg x = some (.ref f) ∧ PySem.W.keepIn K (.ref f) = true ∧ L2.Binds K fd ps []
/-- the method m of the class at C keeps sp -/
def CalM (P : Program) (w : World) (K : PySem.W.Frag) (mg : Str → Option Value) (base : Heap) (CX : CXT) (k : Nat) (C : Addr) (m : Str) (ps : List Str) (sp : Sp) : Prop :=
  ∃ (f : Addr) (fd : FuncData), FnOk P w K mg base CX k f fd ps sp ∧ Cls K C ∧ Meth K C m f ∧ L2.Binds K fd ps []
/-- the class x at C is made, its __init__ keeps sp -/
def CalK (P : Program) (w : World) (K : PySem.W.Frag) (mg : Str → Option Value) (base : Heap) (CX : CXT) (k : Nat) (x : Str) (C : Addr) (ps : List Str) (sp : Sp) : Prop :=
  ∃ (f : Addr) (fd : FuncData), FnOk P w K mg base CX k f fd ps sp ∧ Mk K C f ∧ mg x = some (.ref C) ∧ L2.Binds K fd ps []
theorem Cal.of {P : Program} {w : World} {K : PySem.W.Frag} {mg : Str → Option Value} {base : Heap} {CX : CXT} {k : Nat} {x : Str} {st : Stmt} {ps : List Str} {f : Addr} {fd : FuncData} {sp : Sp} (D : DefAt K mg x st ps f fd) (F : FnOk P w K mg base CX k f fd ps sp) : Cal P w K mg base CX k x ps sp :=
  ⟨f, fd, F, D.at_, D.fn.kp, D.bd⟩
theorem Cal.calm {P : Program} {w : World} {K : PySem.W.Frag} {mg : Str → Option Value} {base : Heap} {k : Nat} {x : Str} {ps : List Str} {sp sp' : Sp} (C : Cal P w K mg base (L2.CX P w) k x ps sp) (h : ∀ vs H Q E, sp' vs H Q E → sp vs H Q (fun _ _ _ => False)) : Cal P w K mg base CX0 k x ps sp' := by
  obtain ⟨f, fd, F, a, kp, b⟩ := C
  exact ⟨f, fd, calm_of F h, a, kp, b⟩
section
variable {X : Cx} {k j : Nat} {x m : Str} {C : Addr} {ps : List Str} {sp : Sp} {e o : Expr} {es : List Expr} {t : TA} {ta : TE} {p apos pos : Pos} {W : WX}
theorem pe_cal (c : Cal X.prog X.w X.K X.mg X.base CX0 k x ps sp) (hr : Room j X.A) (ha : PA X (e :: es) t) (hg : Gl X x := by rfl) (hk : k ≤ j := by decide) (hdb : (x == ("__debug__" : Str)) = false := by decide)
    (he : starEach (e :: es) X.env = (false, eval e X.env) :: starEach es X.env := by rfl) (hpl : (backTo pos (starEach es X.env)).any (·.1) = false := by rfl) : PE X (.Call (.Name x p) (e :: es) [] pos) (tCall sp [] E0 t) := by
  obtain ⟨f, fd, F, a, kp, b⟩ := c
  exact pe_call F (hr.mono hk) hg a kp b .nil pass0 ha hdb he hpl
theorem pe_cal0 (c : Cal X.prog X.w X.K X.mg X.base CX0 k x ps sp) (hr : Room j X.A) (hg : Gl X x := by rfl) (hk : k ≤ j := by decide) (hdb : (x == ("__debug__" : Str)) = false := by decide) : PE X (.Call (.Name x p) [] [] pos) (tCall sp [] E0 tNil) := by
  obtain ⟨f, fd, F, a, kp, b⟩ := c
  exact pe_call0 F (hr.mono hk) hg a kp b .nil pass0 hdb
/-- of one that may raise -/
theorem pe_calS (c : Cal X.prog X.w X.K X.mg X.base (L2.CX X.prog X.w) k x ps sp) (hr : Room j X.A) (tk : Takes X W) (ha : PA X (e :: es) t) (hg : Gl X x := by rfl) (hk : k ≤ j := by decide) (hdb : (x == ("__debug__" : Str)) = false := by decide)
    (he : starEach (e :: es) X.env = (false, eval e X.env) :: starEach es X.env := by rfl) (hpl : (backTo pos (starEach es X.env)).any (·.1) = false := by rfl) : PE X (.Call (.Name x p) (e :: es) [] pos) (tCallS sp (WE W) t) := by
  obtain ⟨f, fd, F, a, kp, b⟩ := c
  exact pe_callS F (hr.mono hk) hg a kp b (fun σ => passAt tk σ) ha hdb he hpl
theorem pe_calM {pl : Sem Bool} (he : PE X o ta) (c : CalM X.prog X.w X.K X.mg X.base CX0 k C m ps sp) (hr : Room j X.A) (ha : PA X (e :: es) t) (hk : k ≤ j := by decide)
    (hst : starEach (e :: es) X.env = (false, eval e X.env) :: starEach es X.env := by rfl) (hpl : (backTo pos (starEach es X.env)).any (·.1) = false := by rfl)
    (ht : eval (.Call (.Attribute o m apos) (e :: es) [] pos) X.env = (do
      let ov ← eval o X.env
      standAt apos.atName
      let (f, first) ← holding [ov] (getMethod ov m pl)
      callWith pos f first (backTo pos (starEach (e :: es) X.env)) (backToKw pos (keywordEach [] X.env))) := by rfl) :
    PE X (.Call (.Attribute o m apos) (e :: es) [] pos) (tMeth C m sp [] E0 ta t) := by
  obtain ⟨f, fd, F, cl, me, b⟩ := c
  exact pe_meth he cl me F (hr.mono hk) b .nil pass0 ha hst hpl ht
theorem pe_calM0 {pl : Sem Bool} (he : PE X o ta) (c : CalM X.prog X.w X.K X.mg X.base CX0 k C m ps sp) (hr : Room j X.A) (hk : k ≤ j := by decide)
    (ht : eval (.Call (.Attribute o m apos) [] [] pos) X.env = (do
      let ov ← eval o X.env
      standAt apos.atName
      let (f, first) ← holding [ov] (getMethod ov m pl)
      callWith pos f first (backTo pos (starEach [] X.env)) (backToKw pos (keywordEach [] X.env))) := by rfl) :
    PE X (.Call (.Attribute o m apos) [] [] pos) (tMeth C m sp [] E0 ta tNil) := by
  obtain ⟨f, fd, F, cl, me, b⟩ := c
  exact pe_meth0 he cl me F (hr.mono hk) b .nil pass0 ht
theorem pe_calK (c : CalK X.prog X.w X.K X.mg X.base CX0 k x C ps sp) (hr : Room j X.A) (ha : PA X (e :: es) t) (hg : Gl X x := by rfl) (hk : k + 1 ≤ j := by decide) (hdb : (x == ("__debug__" : Str)) = false := by decide)
    (he : starEach (e :: es) X.env = (false, eval e X.env) :: starEach es X.env := by rfl) (hpl : (backTo pos (starEach es X.env)).any (·.1) = false := by rfl) : PE X (.Call (.Name x p) (e :: es) [] pos) (tMake C sp [] E0 t) := by
  obtain ⟨f, fd, F, M, a, b⟩ := c
  exact pe_make M F (hr.mono hk) hg a b .nil pass0 ha hdb he hpl
theorem pe_calK0 (c : CalK X.prog X.w X.K X.mg X.base CX0 k x C ps sp) (hr : Room j X.A) (hg : Gl X x := by rfl) (hk : k + 1 ≤ j := by decide) (hdb : (x == ("__debug__" : Str)) = false := by decide) : PE X (.Call (.Name x p) [] [] pos) (tMake C sp [] E0 tNil) := by
  obtain ⟨f, fd, F, M, a, b⟩ := c
  exact pe_make0 M F (hr.mono hk) hg a b .nil pass0 hdb
/-- a constant of the module -/
theorem pe_gstr {z : Str} (h : ∃ u, X.mg x = some (.str z u)) (hg : Gl X x := by rfl) (hd : (x == ("__debug__" : Str)) = false := by decide) : PE X (.Name x pos) (tC (.str z)) := by
  obtain ⟨u, e⟩ := h
  exact pe_glob (v := .str z) hg e ⟨u, rfl⟩ hd
theorem pe_gint {z : Int} (h : ∃ u, X.mg x = some (.int z u)) (hg : Gl X x := by rfl) (hd : (x == ("__debug__" : Str)) = false := by decide) : PE X (.Name x pos) (tC (.int z)) := by
  obtain ⟨u, e⟩ := h
  exact pe_glob (v := .int z) hg e ⟨u, rfl⟩ hd
/-- a built-in class as a value -/
theorem pe_gty {T : String} (h : X.mg x = none) (hv : bootBuiltins x = some (.type T) := by decide +kernel) (hg : Gl X x := by rfl) (hn : x ≠ "__name__" := by decide) (hd : (x == ("__debug__" : Str)) = false := by decide) : PE X (.Name x pos) (tC (.ty T)) :=
  pe_bltn (v := .ty T) hg h hv rfl hn hd
end
end LW
namespace LW
open PySem PySem.Spec PyProof.Rows L2 GxR
/-- the end of a law's row: all that the head says is at hand -/
theorem walk_gnd {l : PySem.W.OpenLaw} {n k : Nat} {q : Program} {loose : List Str} {XP : (Str → Option Value) → Heap → Prop} {YP : World → Heap → Prop} {d : DefRec} {K : Params → PySem.W.Frag} {CX : World → CXT} {x : Str}
    (hn : l.most = some n) (hn2 : n ≤ sizeLine) (hdf : d.params.defaults = []) (hr : Room k callerA) (hY : ∀ (w : World) (h : Heap), YP w h → (K w.params).In h)
    (F : ∀ (w : World) (s0 : Shared) (mg mb : Str → Option Value) (fa : Addr) (h : Heap), PySem.W.Ground q loose [] XP w s0 mg mb h → YP w h → (K w.params).In h → mg d.name = some (.ref fa) → LamX.LawAtS l w (K w.params) (CX w) k n x mg fa h)
    (hCX : ∀ (w : World) (H : Hp) (s : Shared) (e : Value) (s' : Shared), CX w [] H s (fun _ _ _ => False) e s' → False) :
    PySem.W.WalkO q loose XP YP l.row.toRowW d [] (fun f vs => PySem.call f vs) := by
  refine Att.attach_callB hn hdf ?_
  intro w s0 s1 mg mb fa o pm cd doc a vs ns G Y ho hd hcd hmg hobj hints hlen hbits hg
  have KX := hY w _ Y
  obtain ⟨fd, cs, sp, hT, nT, C, hb, hsp, hF⟩ := F w s0 mg mb fa _ G Y KX hmg
  refine LamX.law_callTs KX G.T.g G.T.b G.T.builtins G.T.nolimit hg hT nT C G.T.bmain hobj hints (Nat.le_trans hlen hn2) hr hF hb ?_ ?_
  · intro H hH hS
    exact hsp H a ns hlen hbits hH hS
  · intro H e s'
    exact hCX w H s1 e s'
/-- a function of the module as the head leaves it -/
theorem def_at {K : PySem.W.Frag} {h : Heap} {mg : Str → Option Value} {x : Str} {st : Stmt} {ps : List Str} {f : Addr} {oc : Value} {od an : Option Addr} {sl : Array (Option Value)} {kV dc pm cd ct : Value}
    (X : K.In h) (G : h.Ns mainGlobals mg) (a : PySem.W.nsIn K mainGlobals x = some (some (.ref f)))
    (l : K.lookup f = some ⟨oc, od, .func (PySem.W.fnOf x x (defArgs st) (defBody st) (defScope st) .none kV dc pm an cd ct), sl⟩)
    (c : PySem.W.codeIn K cd x = true) (k : PySem.W.keepIn K (.ref f) = true)
    (b : ∀ (kV doc pm : Value) (an : Option Addr) (cdv ct : Value) (us : List Value), us.length = ps.length → bindArgs (PySem.W.fnOf x x (defArgs st) (defBody st) (defScope st) .none kV doc pm an cdv ct) ⟨us, []⟩ = pure (ps.zip us)) :
    DefAt K mg x st ps f (PySem.W.fnOf x x (defArgs st) (defBody st) (defScope st) .none kV dc pm an cd ct) :=
  ⟨fun_mk (st := st) l c k, PySem.W.mg_of X G a, (fun_mk (st := st) l c k).binds b⟩
end LW
namespace LW
open PySem PySem.Spec PyProof.Rows L2
/-- a comprehension over pairs, whose parts make nothing -/
theorem lc_pair {J : It} {n : Nat} {G : Hp → Prop} {Y : Nat → Hp → V → Hp → Prop} {K : PySem.W.Frag} (w : Walk J n G Y) {j1 j2 : Nat} {te : TE} {vs : List Nat} {σ : L2.St} {H1 : Hp} {D : Addr} {Qd : Hp → Prop} (f : Nat → V)
    (hn : n < 16000000) (hG : ∀ H, But D H1 H → G H) (hw : ∀ x y, wipe (((wipe σ vs).set j1 (some x)).set j2 (some y)) vs = wipe σ vs)
    (hs : ∀ i x H H', i < n → But D H1 H → Y i H x H' → ∃ t u v, x = .ref t ∧ H' = H ∧ SqT K H t [u, v] ∧ ∀ Q : VK, Q (f i) H → te (((wipe σ vs).set j1 (some u)).set j2 (some v)) H Q)
    (hd : Qd (upd H1 D (.lst ((List.range n).map f)))) :
    ∃ W : Nat → Nat → Hp → Prop, (∃ m, W 0 m (upd H1 D (.lst []))) ∧ ∀ i m H, W i m H →
      (J.stop i H ∧ Qd H) ∨ (J.go i H ∧ ∃ Nx : Hp → Prop, (∀ H', Nx H' → ∃ m', m' < m ∧ W (i + 1) m' H') ∧ ∀ x H', J.yld i H x H' → gTup K 2 (gCons (gName j1) (gCons (gName j2) gNil)) x (wipe σ vs) H' fun σ2 H2 => wipe σ2 vs = wipe σ vs ∧ tYes σ2 H2 fun b H3 =>
        if b = true then te σ2 H3 fun y H4 => ∃ acc, H4 D = some (.lst acc) ∧ acc.length < sizeLine ∧ Nx (upd H4 D (.lst (acc ++ [y]))) else Nx H3) := by
  refine lc_it w (fun i H => H = upd H1 D (.lst ((List.range i).map f))) rfl (fun i H _ e => hG H (by rw [e]; exact But.upd)) ?_ (fun H e => by rw [e]; exact hd)
  rintro i x H H' hi e hy
  have b1 : But D H1 H := by rw [e]; exact But.upd
  obtain ⟨t, u, v, rfl, e2, hT, he⟩ := hs i x H H' hi b1 hy
  subst e2
  have hD : H' D = some (.lst ((List.range i).map f)) := by rw [e, upd_same]
  refine ⟨t, [u, v], rfl, hT, rfl, u, [v], rfl, v, [], rfl, rfl, hw u v, tyes (he _ ⟨_, hD, ?_, ?_⟩)⟩
  · rw [List.length_map, List.length_range]
    exact Nat.lt_trans hi (Nat.lt_trans hn (by decide))
  · rw [List.range_succ, List.map_append, e, upd_upd]
    rfl
end LW
namespace LW
open PySem PySem.Spec PyProof.Rows L2
/-- isinstance(e, c), e the exception that the suite holds, with its dict -/
def rIsD (K : PySem.W.Frag) (D a : Addr) (cls : Value) (d : Option Addr) : List V → Hp → VK → Prop := fun xs H Q => cls = .ref D ∧ ∃ (dd : Addr) (fs : List (Str × V)), d = some dd ∧ H dd = some (.xd fs) ∧
  ∃ (c : V) (cv : Value) (b : Bool), xs = [.ref a, c] ∧ (∀ u, RelV c u → u = cv) ∧ PySem.W.kitOne K (.ref D) cv = some b ∧ Q (.bl b) H
theorem call_isD {X : Cx} {a D : Addr} {oe : Obj} {cls : Value} {d : Option Addr} {pn : List (Addr × Obj)} (C : ExcC X.K D) (hz : Zc cls d oe) (hf : ∃ vs, oe.data = .fields vs) : CallR (X.suite a ((a, oe) :: pn)) (.builtin "isinstance") (rIsD X.K D a cls d) := by
  intro pins s σ H xs us Q I r h
  obtain ⟨rfl, dd, fs, rfl, hdd, c, cv, b, rfl, hcv, e, q⟩ := h
  obtain ⟨cd, hcd, _⟩ := PySem.W.any_some C.hd
  have isc : (PySem.W.clsIn X.K D).isSome = true := by rw [hcd]; rfl
  cases r with
  | cons r1 r2 =>
    cases r2 with
    | cons r3 r4 =>
      cases r4
      cases r1
      have ec := hcv _ r3
      subst ec
      obtain ⟨here, _⟩ := I.pin (a, oe) (List.mem_append_left _ List.mem_cons_self)
      obtain ⟨vs, hv⟩ := hf
      have at_d : ObjOk X.prog X.w H s.heap dd (.xd fs) := I.hok dd _ hdd
      obtain ⟨mA, hns, _⟩ := at_d
      obtain ⟨od, ho, _⟩ := lookIn_ns hns
      have inst : PySem.W.InstAt s.heap a oe D (some od) := by
        refine ⟨here, hz.1, ?_, ?_⟩
        · unfold PySem.W.notCls
          rw [hv]
        · rw [hz.2]
          exact ho
      exact PySem.W.kia_one (PySem.W.kitx_exc isc C.hg C.hk C.hs C.ha C.hn C.ht C.hm) I.kIn inst e (fun z => nomatch z) fun tk => ⟨.bl b, H, I.kept (t' := tk) fun _ _ z => z, rfl, q⟩
end LW
namespace LW
open PySem PySem.Spec PyProof.Rows L2 GxR
open TL (joinL tl tl_join join_eq spl spl_hit spl_miss spl_nil pre map_tl_inj split_spl kind_ok tl_append ext_tl)
/-! ### lines -/
def nl : Str := Str.ofString "\n"
def sp : Str := Str.ofString " "
theorem tl_nl : tl nl = [10] := by decide +kernel
theorem tl_sp : tl sp = [32] := by decide +kernel
theorem kind_nl : nl.cps.all (· < 256) = true := by decide +kernel
theorem kind_sp : sp.cps.all (· < 256) = true := by decide +kernel
theorem pre1 (c x : Nat) (r : List Nat) : pre [c] (x :: r) = decide (x = c) := by
  show (([x] : List Nat) == [c]) = decide (x = c)
  by_cases h : x = c
  · subst h; simp
  · simp [h]
theorem spl_ne (S : List Nat) : ∀ (l : List Nat) (k : Nat) (acc : List Nat), spl S k acc l ≠ []
  | [], k, acc => by rw [spl_nil]; simp
  | c :: r, 0, acc => by
    show (if pre S (c :: r) = true then acc :: spl S (S.length - 1) [] r else spl S 0 (acc ++ [c]) r) ≠ []
    split
    · simp
    · exact spl_ne S r 0 _
  | c :: r, k + 1, acc => spl_ne S r k acc
theorem spl_len (c : Nat) : ∀ (l acc : List Nat), (spl [c] 0 acc l).length ≤ l.length + 1
  | [], acc => by rw [spl_nil]; simp
  | x :: r, acc => by
    by_cases h : pre [c] (x :: r) = true
    · rw [spl_hit h]
      have := spl_len c r []
      simp only [List.length_cons, List.length_nil] at this ⊢
      show (spl [c] 0 [] r).length + 1 ≤ _
      omega
    · rw [spl_miss (eq_false_of_ne_true h)]
      have := spl_len c r (acc ++ [x])
      simp only [List.length_cons]
      omega
theorem spl_part (c : Nat) : ∀ (l acc : List Nat), ∀ p ∈ spl [c] 0 acc l, p.length ≤ acc.length + l.length
  | [], acc, p, h => by
    rw [spl_nil] at h
    rw [List.mem_singleton.mp h]
    simp
  | x :: r, acc, p, h => by
    by_cases e : pre [c] (x :: r) = true
    · rw [spl_hit e] at h
      rcases List.mem_cons.mp h with h | h
      · rw [h]; omega
      · have := spl_part c r [] p h
        simp only [List.length_cons, List.length_nil] at this ⊢
        omega
    · rw [spl_miss (eq_false_of_ne_true e)] at h
      have := spl_part c r (acc ++ [x]) p h
      simp only [List.length_append, List.length_cons, List.length_nil] at this ⊢
      omega
/-- without the sign: one part -/
theorem spl_no (c : Nat) : ∀ (l acc : List Nat), c ∉ l → spl [c] 0 acc l = [acc ++ l]
  | [], acc, _ => by rw [spl_nil]; simp
  | x :: r, acc, h => by
    have hx : pre [c] (x :: r) = false := by rw [pre1]; exact decide_eq_false fun e => h (by rw [e]; exact List.mem_cons_self)
    rw [spl_miss hx, spl_no c r (acc ++ [x]) fun m => h (List.mem_cons_of_mem _ m)]
    simp
/-- at the first sign -/
theorem spl_at1 (c : Nat) : ∀ (a acc b : List Nat), c ∉ a → spl [c] 0 acc (a ++ c :: b) = (acc ++ a) :: spl [c] 0 [] b
  | [], acc, b, _ => by
    have hx : pre [c] (c :: b) = true := by rw [pre1]; exact decide_eq_true rfl
    rw [List.nil_append, spl_hit hx, List.append_nil]
    rfl
  | x :: r, acc, b, h => by
    have hx : pre [c] (x :: (r ++ c :: b)) = false := by rw [pre1]; exact decide_eq_false fun e => h (by rw [e]; exact List.mem_cons_self)
    rw [List.cons_append, spl_miss hx, spl_at1 c r (acc ++ [x]) b fun m => h (List.mem_cons_of_mem _ m)]
    simp
def lns (t : Str) : List Str := Txt.split t nl
def wds (l : Str) : List Str := Txt.split l sp
theorem lns_tl (t : Str) : (lns t).map tl = spl [10] 0 [] (tl t) := by
  unfold lns
  rw [split_spl _ nl (by rw [tl_nl]; simp) (kind_ok kind_nl), tl_nl]
theorem wds_tl (t : Str) : (wds t).map tl = spl [32] 0 [] (tl t) := by
  unfold wds
  rw [split_spl _ sp (by rw [tl_sp]; simp) (kind_ok kind_sp), tl_sp]
theorem lns_ne (t : Str) : lns t ≠ [] := by
  intro h
  have := lns_tl t
  rw [h] at this
  exact spl_ne _ _ _ _ this.symm
theorem wds_ne (t : Str) : wds t ≠ [] := by
  intro h
  have := wds_tl t
  rw [h] at this
  exact spl_ne _ _ _ _ this.symm
theorem lns_len (t : Str) : (lns t).length ≤ t.length + 1 := by
  have h := congrArg List.length (lns_tl t)
  rw [List.length_map] at h
  have := spl_len 10 (tl t) []
  rw [h, TL.len_tl]
  exact this
theorem lns_mem {t l : Str} (h : l ∈ lns t) : l.length ≤ t.length := by
  have m : tl l ∈ spl [10] 0 [] (tl t) := by rw [← lns_tl]; exact List.mem_map_of_mem h
  have := spl_part 10 (tl t) [] _ m
  rw [TL.len_tl, TL.len_tl]
  simpa using this
theorem wds_mem {t l : Str} (h : l ∈ wds t) : l.length ≤ t.length := by
  have m : tl l ∈ spl [32] 0 [] (tl t) := by rw [← wds_tl]; exact List.mem_map_of_mem h
  have := spl_part 32 (tl t) [] _ m
  rw [TL.len_tl, TL.len_tl]
  simpa using this
/-- a line as a name and an address -/
def nam (l : Str) : Str := (Txt.partition l sp).1
def adr (l : Str) : Str := (Txt.partition l sp).2.2
theorem split_at (x : List Nat) (h : 32 ∈ x) : ∃ a b, x = a ++ 32 :: b ∧ 32 ∉ a := by
  induction x with
  | nil => simp at h
  | cons c r ih =>
    by_cases e : c = 32
    · exact ⟨[], r, by rw [e]; rfl, by simp⟩
    · have hr : 32 ∈ r := by
        rcases List.mem_cons.mp h with h | h
        · exact absurd h.symm e
        · exact h
      obtain ⟨a, b, h1, h2⟩ := ih hr
      exact ⟨c :: a, b, by rw [h1]; rfl, fun m => by
        rcases List.mem_cons.mp m with m | m
        · exact e m.symm
        · exact h2 m⟩
theorem addr_no {t : Str} (h : isAddr t = true) : 32 ∉ tl t ∧ 10 ∉ tl t ∧ t.length = 16 := by
  unfold isAddr at h
  rw [Bool.and_eq_true] at h
  have key : ∀ c ∈ tl t, c ∈ hexDigits := fun c hc => of_decide_eq_true (List.all_eq_true.mp h.2 c hc)
  exact ⟨fun m => absurd (key _ m) (by decide), fun m => absurd (key _ m) (by decide), of_decide_eq_true h.1⟩
theorem addr_empty : isAddr Str.empty = false := by decide +kernel
/-- two words are the name and the address; otherwise the address is none -/
theorem words_of (l : Str) : (wds l = [nam l, adr l]) ∨ ((wds l).length ≠ 2 ∧ isAddr (adr l) = false) := by
  by_cases h : 32 ∈ tl l
  · obtain ⟨a, b, e, ha⟩ := split_at _ h
    have el : l = (⟨a.toArray⟩ : Str) ++ sp ++ (⟨b.toArray⟩ : Str) := by
      apply ext_tl
      rw [tl_append, tl_append, tl_sp]
      show _ = (a ++ [32]) ++ b
      rw [e]
      simp
    have ep : Txt.partition l sp = (⟨a.toArray⟩, sp, ⟨b.toArray⟩) := by
      rw [el]
      exact TL.partition_app tl_sp (by show 32 ∉ a; exact ha)
    have en : nam l = ⟨a.toArray⟩ := by unfold nam; rw [ep]
    have ea : adr l = ⟨b.toArray⟩ := by unfold adr; rw [ep]
    have ew := wds_tl l
    rw [e, spl_at1 32 a [] b ha] at ew
    by_cases hb : 32 ∈ b
    · right
      obtain ⟨a2, b2, e2, ha2⟩ := split_at _ hb
      constructor
      · intro hl
        have hl2 := congrArg List.length ew
        rw [List.length_map, hl, e2, spl_at1 32 a2 [] b2 ha2] at hl2
        simp only [List.length_cons] at hl2
        have := spl_ne [32] b2 0 []
        cases hs : spl [32] 0 [] b2 with
        | nil => exact this hs
        | cons _ _ => rw [hs] at hl2; simp at hl2
      · rw [ea]
        cases hh : isAddr (⟨b.toArray⟩ : Str) with
        | false => rfl
        | true => exact absurd (show 32 ∈ tl (⟨b.toArray⟩ : Str) from hb) (addr_no hh).1
    · left
      rw [spl_no 32 b [] hb] at ew
      refine map_tl_inj ?_
      rw [ew, en, ea]
      simp [tl]
  · right
    have ep : Txt.partition l sp = (l, Str.empty, Str.empty) := TL.partition_none tl_sp h
    have ew := wds_tl l
    rw [spl_no 32 _ [] h] at ew
    refine ⟨fun hl => ?_, ?_⟩
    · have := congrArg List.length ew
      rw [List.length_map, hl] at this
      simp at this
    · unfold adr
      rw [ep]
      exact addr_empty
/-! ### faults -/
def letters : List Nat := [97, 98, 99, 100, 101, 102, 103, 104, 105, 106, 107, 108, 109, 110, 111, 112, 113, 114, 115, 116, 117, 118, 119, 120, 121, 122]
theorem letters_eq : (Str.ofString "abcdefghijklmnopqrstuvwxyz").cps.toList = letters := by decide +kernel
def isPlat (t : Str) : Bool := (decide (1 ≤ t.length) && decide (t.length ≤ 10)) && t.cps.toList.all fun c => decide (c ∈ letters)
def word (b : Bool) : Str := if b then "bundle" else "image"
def mid (ls : List Str) : List Str := (ls.drop 1).dropLast
theorem mid_len (ls : List Str) : (mid ls).length = ls.length - 2 := by
  unfold mid
  rw [List.length_dropLast, List.length_drop]
  omega
/-- line i (from 0) of those between is not as it must be -/
def bad (b : Bool) (ms : List Str) (i : Nat) : Bool :=
  if b then decide (nam (ms.getD i "") ∈ (ms.take i).map nam) || !isPlat (nam (ms.getD i "")) || !isAddr (adr (ms.getD i "")) else !isAddr (ms.getD i "")
def behN (w : Str) (ls : List Str) : Option Nat :=
  if ls.head? ≠ some w then some 0 else if ls.getLast? ≠ some ("" : Str) then some (ls.length - 1) else if 52 < ls.length then some 51 else none
def faultN (b : Bool) (ls : List Str) : Option Nat :=
  match behN (word b) ls with
  | some k => some k
  | none => if b = true ∧ ls.length = 2 then some 1 else ((List.range (ls.length - 2)).find? (bad b (mid ls))).map (· + 1)
theorem find_hit {p : Nat → Bool} {n i : Nat} (hi : i < n) (h1 : ∀ j, j < i → p j = false) (h2 : p i = true) : (List.range n).find? p = some i := by
  rw [List.find?_range_eq_some]
  exact ⟨h2, List.mem_range.mpr hi, fun j hj => by rw [h1 j hj]; rfl⟩
theorem find_miss {p : Nat → Bool} {n : Nat} (h1 : ∀ j, j < n → p j = false) : (List.range n).find? p = none := by
  rw [List.find?_eq_none]
  intro j hj
  rw [h1 j (List.mem_range.mp hj)]
  exact Bool.false_ne_true
end LW
namespace LW
open PySem PySem.Spec PyProof.Rows L2 GxR
open TL (joinL tl tl_join join_eq tl_append ext_tl)
theorem tl_empty : tl (Str.ofString "") = [] := by decide +kernel
theorem joinL_nil : ∀ l : List (List Nat), joinL [] l = l.flatten
  | [] => rfl
  | [p] => by simp [joinL]
  | p :: q :: r => by
    show p ++ ([] ++ joinL [] (q :: r)) = _
    rw [joinL_nil (q :: r)]
    simp
theorem joinL_end (c : Nat) : ∀ l : List (List Nat), joinL [c] (l ++ [[]]) = (l.map (· ++ [c])).flatten
  | [] => by simp [joinL]
  | [p] => by
    show p ++ ([c] ++ joinL [c] [[]]) = _
    simp [joinL]
  | p :: q :: r => by
    show p ++ ([c] ++ joinL [c] ((q :: r) ++ [[]])) = _
    rw [joinL_end c (q :: r)]
    simp
/-- one line of a text -/
def lin (l : Str) : Str := Str.empty ++ l ++ nl
theorem tl_lin (l : Str) : tl (lin l) = tl l ++ [10] := by
  unfold lin
  rw [tl_append, tl_append, tl_nl]
  rfl
theorem lin_len (l : Str) : (lin l).length = l.length + 1 := by
  rw [TL.len_tl, TL.len_tl, tl_lin]
  simp
def textOf (ls : List Str) : Str := Txt.join (Str.ofString "") (ls.map lin)
theorem textOf_tl (ls : List Str) : tl (textOf ls) = ((ls.map tl).map (· ++ [10])).flatten := by
  unfold textOf
  rw [join_eq, tl_join, tl_empty, joinL_nil, List.map_map, List.map_map]
  congr 1
  apply List.map_congr_left
  intro l _
  exact tl_lin l
theorem textOf_nl (ls : List Str) : textOf ls = Txt.join nl (ls ++ [("" : Str)]) := by
  apply ext_tl
  rw [textOf_tl, join_eq, tl_join, tl_nl, List.map_append, ← joinL_end]
  rfl
theorem lns_textOf {ls : List Str} (h : ∀ l ∈ ls, 10 ∉ tl l) : lns (textOf ls) = ls ++ [("" : Str)] := by
  unfold lns
  rw [textOf_nl]
  refine TL.split_join (s := 10) (S := []) tl_nl kind_nl (by simp) fun p hp => ?_
  rcases List.mem_append.mp hp with hp | hp
  · exact h p hp
  · rw [List.mem_singleton.mp hp]
    decide +kernel
theorem textOf_len : ∀ ls : List Str, (textOf ls).length = (ls.map fun l => l.length + 1).sum := by
  intro ls
  rw [TL.len_tl, textOf_tl, List.length_flatten, List.map_map, List.map_map]
  congr 1
  apply List.map_congr_left
  intro l _
  simp [TL.len_tl]
theorem sum_le {α : Type} (f : α → Nat) (m : Nat) : ∀ l : List α, (∀ x ∈ l, f x ≤ m) → (l.map f).sum ≤ l.length * m
  | [], _ => by simp
  | x :: r, h => by
    have := sum_le f m r fun y hy => h y (List.mem_cons_of_mem _ hy)
    have h1 := h x List.mem_cons_self
    simp only [List.map_cons, List.sum_cons, List.length_cons, Nat.succ_mul]
    omega
theorem mid_text (w : Str) (ls : List Str) : mid (w :: ls ++ [("" : Str)]) = ls := by
  unfold mid
  simp
theorem beh_text (w : Str) (ls : List Str) : behN w (w :: ls ++ [("" : Str)]) = if 50 < ls.length then some 51 else none := by
  unfold behN
  have e1 : (w :: ls ++ [("" : Str)]).head? = some w := rfl
  have e2 : (w :: ls ++ [("" : Str)]).getLast? = some ("" : Str) := by rw [List.getLast?_append]; rfl
  rw [if_neg (by rw [e1]; simp), if_neg (by rw [e2]; simp)]
  have e3 : (w :: ls ++ [("" : Str)]).length = ls.length + 2 := by simp
  rw [e3]
  by_cases h : 50 < ls.length
  · rw [if_pos h, if_pos (by omega)]
  · rw [if_neg h, if_neg (by omega)]
/-- the text of an image -/
theorem fault_image {ls : List Str} (h : ∀ l ∈ ls, isAddr l = true) (hl : ls.length ≤ 51) : faultN false (word false :: ls ++ [("" : Str)]) = if ls.length = 51 then some 51 else none := by
  unfold faultN
  rw [beh_text, mid_text]
  by_cases e : 50 < ls.length
  · rw [if_pos e]
    show some 51 = _
    rw [if_pos (by omega)]
  · rw [if_neg e, if_neg (show ¬ ls.length = 51 by omega)]
    have e3 : (word false :: ls ++ [("" : Str)]).length - 2 = ls.length := by simp
    rw [e3]
    simp only [Bool.false_eq_true, false_and, if_false]
    rw [find_miss (p := bad false ls) fun j hj => ?_]
    · rfl
    · have hg : ls.getD j "" = ls[j] := by rw [List.getD_eq_getElem?_getD, List.getElem?_eq_getElem hj]; rfl
      show (!isAddr (ls.getD j "")) = false
      rw [hg, h _ (List.getElem_mem hj)]
      rfl
theorem plat_no {t : Str} (h : isPlat t = true) : 32 ∉ tl t ∧ 10 ∉ tl t ∧ 1 ≤ t.length ∧ t.length ≤ 10 := by
  unfold isPlat at h
  rw [Bool.and_eq_true, Bool.and_eq_true] at h
  have key : ∀ c ∈ tl t, c ∈ letters := fun c hc => of_decide_eq_true (List.all_eq_true.mp h.2 c hc)
  exact ⟨fun m => absurd (key _ m) (by decide), fun m => absurd (key _ m) (by decide), of_decide_eq_true h.1.1, of_decide_eq_true h.1.2⟩
/-- a line of a bundle -/
def ent (p : Str × Str) : Str := Str.empty ++ p.1 ++ sp ++ p.2
theorem ent_tl (p : Str × Str) : tl (ent p) = tl p.1 ++ 32 :: tl p.2 := by
  unfold ent
  rw [tl_append, tl_append, tl_append, tl_sp]
  show ([] ++ tl p.1 ++ [32]) ++ tl p.2 = _
  simp
theorem ent_part {p : Str × Str} (h : 32 ∉ tl p.1) : nam (ent p) = p.1 ∧ adr (ent p) = p.2 := by
  have e : ent p = p.1 ++ sp ++ p.2 := by
    apply ext_tl
    rw [ent_tl, tl_append, tl_append, tl_sp]
    simp
  have ep : Txt.partition (ent p) sp = (p.1, sp, p.2) := by
    rw [e]
    exact TL.partition_app tl_sp h
  unfold nam adr
  rw [ep]
  exact ⟨rfl, rfl⟩
theorem fault_bundle {es : List (Str × Str)} (h : ∀ p ∈ es, isPlat p.1 = true ∧ isAddr p.2 = true) (hd : (es.map (·.1)).Nodup) (h1 : 1 ≤ es.length) (hl : es.length ≤ 50) : faultN true (word true :: es.map ent ++ [("" : Str)]) = none := by
  unfold faultN
  rw [beh_text, mid_text, if_neg (show ¬ 50 < (es.map ent).length by rw [List.length_map]; omega)]
  have e3 : (word true :: es.map ent ++ [("" : Str)]).length = es.length + 2 := by simp
  rw [e3]
  show (if true = true ∧ es.length + 2 = 2 then some 1 else _) = _
  rw [if_neg (by omega), find_miss (p := bad true (es.map ent)) fun j hj => ?_]
  · rfl
  · have hj' : j < es.length := by omega
    have hg : (es.map ent).getD j "" = ent es[j] := by rw [List.getD_eq_getElem?_getD, List.getElem?_map, List.getElem?_eq_getElem hj']; rfl
    have hm := h _ (List.getElem_mem hj')
    have pt := ent_part (p := es[j]) (plat_no hm.1).1
    unfold bad
    rw [if_pos rfl, hg, pt.1, pt.2, hm.1, hm.2]
    have nm : ∀ q ∈ es, nam (ent q) = q.1 := fun q hq => (ent_part (plat_no (h q hq).1).1).1
    have e4 : ((es.map ent).take j).map nam = (es.map (·.1)).take j := by
      rw [List.map_take, List.map_map]
      congr 1
      exact List.map_congr_left nm
    rw [e4]
    have e5 : es[j].1 ∉ (es.map (·.1)).take j := by
      intro m
      obtain ⟨i, hi, e⟩ := List.getElem_of_mem m
      rw [List.length_take, List.length_map] at hi
      rw [List.getElem_take] at e
      have : (es.map (·.1))[i]'(by rw [List.length_map]; omega) = (es.map (·.1))[j]'(by rw [List.length_map]; omega) := by rw [e, List.getElem_map]
      have := (List.getElem_inj hd).mp this
      omega
    rw [decide_eq_false e5]
    rfl
end LW
/-! Sets of texts: made, added to, sorted. -/
namespace LW
open PySem PySem.Spec PyProof.Rows L2
/-- the text that a row of a set's table holds -/
def rowTxt (e : Int × Value) : Str := match e.2 with | .str x _ => x | _ => Str.empty
/-- a row that holds a text under its own hash -/
def RowT (P : Program) (w : World) (e : Int × Value) : Prop := ∃ x tk, e.2 = Value.str x tk ∧ e.1 = (PySem.strKind P w).hash x
/-- the set of texts at a: S tells the members, n how many; its table can be walked -/
def SetT (P : Program) (w : World) (h : Heap) (a : Addr) (S : Str → Bool) (n : Nat) : Prop :=
  ∃ o rows ep t, h.get? a = some o ∧ o.ExactSet ∧ o.data = .set rows ep t ∧ (∀ e ∈ rows.toList, RowT P w e) ∧ (rows.toList.map rowTxt).Nodup ∧ (∀ k, S k = true ↔ k ∈ rows.toList.map rowTxt) ∧
    rows.size < scanBound ∧ t.fits rows.size = true ∧ rows.size = n ∧ Ris t.place.toList ∧ (w.params.followText "set-order" = true ∨ t.led = true)
section
variable {P : Program} {w : World} {h h' : Heap} {a : Addr} {S : Str → Bool} {n : Nat}
theorem SetT.keep (R : SetT P w h a S n) (k : ∀ o, h.get? a = some o → h'.get? a = some o) : SetT P w h' a S n := let ⟨o, rows, ep, t, ho, r⟩ := R; ⟨o, rows, ep, t, k o ho, r⟩
theorem rowT_elems {l : List (Int × Value)} (g : ∀ e ∈ l, RowT P w e) : ElemsOf (PySem.strKind P w) l := fun e he => by
  have ⟨x, tk, q1, q2⟩ := g e he
  refine ⟨⟨x, ?_, q2⟩, ?_⟩
  · rw [q1]; exact strKind_is P w x tk
  · rw [q1] <;> rfl
theorem rowT_is {e : Int × Value} (g : RowT P w e) (k : Str) : (PySem.strKind P w).is k e.2 = true ↔ rowTxt e = k := by
  obtain ⟨x, tk, q1, _⟩ := g
  have e1 : rowTxt e = x := by unfold rowTxt; rw [q1]
  rw [e1, q1]
  constructor
  · intro q
    exact ((PySem.strKind P w).inj _ _ _ q (strKind_is P w x tk)).symm
  · rintro rfl
    exact strKind_is P w x tk
theorem rowT_mem {l : List (Int × Value)} (g : ∀ e ∈ l, RowT P w e) (k : Str) : k ∈ l.map rowTxt ↔ ∃ e ∈ l, (PySem.strKind P w).is k e.2 = true :=
  ⟨fun m => let ⟨e, he, q⟩ := List.mem_map.mp m; ⟨e, he, (rowT_is (g e he) k).2 q⟩, fun ⟨e, he, q⟩ => List.mem_map.mpr ⟨e, he, (rowT_is (g e he) k).1 q⟩⟩
theorem SetT.of (R : SetT P w h a S n) : h.SetOf (PySem.strKind P w) a S n := by
  obtain ⟨o, rows, ep, t, h1, h2, h3, g, _, m, b, f, z, _⟩ := R
  exact ⟨o, rows, ep, t, h1, h2, h3, rowT_elems g, fun k => (m k).trans (rowT_mem g k), b, f, z⟩
theorem setT_fresh (P : Program) (w : World) {h : Heap} {b : Addr} (e : h.get? b = some { cls := .type "set", dict := none, data := .set #[] 0 (.fresh 0 0 (!w.params.followText "set-order")) }) : SetT P w h b (fun _ => false) 0 := by
  refine ⟨_, #[], 0, _, e, ⟨rfl, rfl, rfl⟩, rfl, ?_, ?_, ?_, by decide, by rfl, rfl, List.Pairwise.nil, ?_⟩
  · intro e he; simp at he
  · simp
  · intro k; simp
  · show _ ∨ (!w.params.followText "set-order") = true
    cases w.params.followText "set-order" <;> simp
end
section
variable {P : Program} {w : World} {A : Around} {E : Value → Shared → Prop} {s : Shared} {a : Addr} {S : Str → Bool} {n : Nat}
theorem laidT {h : Heap} {a : Addr} {o : Obj} {r1 r2 : Array (Int × Value)} {ep : Nat} {t1 t2 : SetTable} (ho : h.get? a = some o) (hd : o.data = .set r1 ep t1) :
    (h.update a (Obj.putSet r2 t2)).get? a = some { o with data := .set r2 (ep + 1) t2 } := store_at ho hd
theorem giveWay {b : Bool} {s1 : Shared} {Q : Unit → Shared → Prop} (q : Q () s1) : wpAny (model P w) A (match b with | true => rule "set.scan.the-table-gave-way" | false => pure ()) Q E s1 := by
  cases b
  · exact wpAny_pure q
  · exact wpAny_rule q
/-- what follows the new row: the table is stored, and laid anew where it is too full -/
theorem setT_tail {g : Bool → Sem Unit} (hg : ∀ (b : Bool) (s1 : Shared) (Q' : Unit → Shared → Prop), Q' () s1 → wpAny (model P w) A (g b) Q' E s1) {o : Obj} {rows : Array (Int × Value)} {ep : Nat} {t : SetTable}
    (ho : s.heap.get? a = some o) (hx : o.ExactSet) (hd : o.data = .set rows ep t) {r1 : Array (Int × Value)} {t2 : SetTable} {S' : Str → Bool}
    (new : ∀ {h'' : Heap} {o' : Obj} {r2 : Array (Int × Value)} {e2 : Nat} {t3 : SetTable}, h''.get? a = some o' → o'.ExactSet → o'.data = .set r2 e2 t3 → r2.toList.Perm r1.toList → t3.fits r2.size = true → Ris t3.place.toList → t3.led = t2.led → SetT P w h'' a S' r1.size)
    (hb : r1.size < scanBound) (hf : t2.fits r1.size = true) (hr : Ris t2.place.toList) {wasDummy : Bool} {R : Option Bool → Shared → Prop}
    (hR : ∀ h'', Heap.SameBut a s.heap h'' → SetT P w h'' a S' r1.size → R (some true) { s with heap := h'' }) :
    wpAny (model P w) A (do
        storeSet a r1 t2
        if (!wasDummy && t2.tooFull) = true then do
            g (relayAll t2 r1 (SetTable.grown r1.size)).2.2
            storeSet a (relayAll t2 r1 (SetTable.grown r1.size)).1 (relayAll t2 r1 (SetTable.grown r1.size)).2.1
            pure (some true)
          else pure (some true)) R E s := by
  have ho1 := laidT (r2 := r1) (t2 := t2) ho hd
  have sb := Heap.SameBut.update s.heap a (Obj.putSet r1 t2)
  refine wpAny_bind (wpAny_storeSet_of ho hd ?_ (fits_of_scanBound hb))
  by_cases full : (!wasDummy && t2.tooFull) = true
  · rw [if_pos full]
    have p := relayAll_perm t2 r1 (SetTable.grown r1.size)
    have q1 := relayAll_fits t2 r1 (SetTable.grown r1.size)
    have q2 := relayAll_ris t2 r1 (SetTable.grown r1.size)
    have q3 := relayAll_led t2 r1 (SetTable.grown r1.size)
    revert p q1 q2 q3
    generalize relayAll t2 r1 (SetTable.grown r1.size) = Z
    obtain ⟨r2, t3, gv⟩ := Z
    intro p q1 q2 q3
    have z2 : r2.size = r1.size := by have := p.length_eq; simpa using this
    refine wpAny_bind (hg _ _ _ (wpAny_bind (wpAny_storeSet_of ho1 rfl ?_ (fits_of_scanBound (by show r2.size < scanBound; rw [z2]; exact hb)))))
    exact wpAny_pure (hR _ (sb.trans (Heap.SameBut.update _ a _)) (new (laidT ho1 rfl) hx rfl p q1 q2 q3))
  · rw [if_neg full]
    exact wpAny_pure (hR _ sb (new ho1 hx rfl (List.Perm.refl _) hf hr rfl))
/-- a text that is not there comes in, or one that is there stays -/
theorem setT_put {k : Str} {tk : Tok} {Q : Bool → Shared → Prop} (R : SetT P w s.heap a S n) (room : n + 1 < scanBound)
    (hQ : ∀ h'', Heap.SameBut a s.heap h'' → SetT P w h'' a (fun j => S j || decide (j = k)) (if S k = true then n else n + 1) → Q (!S k) { s with heap := h'' }) :
    wpAny (model P w) A (setAddHashed a (.str k tk) ((PySem.strKind P w).hash k)) Q E s := by
  obtain ⟨o, rows, ep, t, ho, hx, hd, g, nd, m, b, f, z, ris, led⟩ := R
  have kk : (PySem.strKind P w).is k (.str k tk) = true := strKind_is P w k tk
  have sc : (Value.str k tk).scannable = true := rfl
  have el := rowT_elems (P := P) (w := w) g
  unfold setAddHashed setAddHashedIn
  refine wpAny_holding (wpAny_bind (wpAny_setState_of ho hd f ?_))
  dsimp only
  rw [byScan_of sc b el]
  simp only [↓reduceIte]
  unfold setAddByScan
  refine wpAny_bind (wpAny_bind (wpAny_rule (wpAny_bind (wpAny_setScan_of kk ho hd f el ?_))))
  cases fi : List.findIdx? (fun e => (PySem.strKind P w).is k e.2) rows.toList with
  | some j =>
    dsimp only
    obtain ⟨hj, pj, _⟩ := List.findIdx?_eq_some_iff_getElem.mp fi
    have there : S k = true := (m k).2 ((rowT_mem g k).2 ⟨_, List.getElem_mem hj, pj⟩)
    have fin := hQ s.heap (Heap.SameBut.refl a s.heap) ⟨o, rows, ep, t, ho, hx, hd, g, nd, fun i => ?_, b, f, by rw [if_pos there]; exact z, ris, led⟩
    · rw [there] at fin
      exact wpAny_pure (wpAny_pure fin)
    · rw [Bool.or_eq_true, decide_eq_true_eq, ← m i]
      constructor
      · rintro (q | q)
        · exact q
        · rw [q]; exact there
      · exact .inl
  | none =>
    dsimp only
    have out : k ∉ rows.toList.map rowTxt := fun q => by
      obtain ⟨e, he, q1⟩ := (rowT_mem (P := P) (w := w) g k).1 q
      exact absurd q1 (by rw [List.findIdx?_eq_none_iff.mp fi e he]; exact Bool.false_ne_true)
    have gone : S k = false := Bool.eq_false_iff.mpr fun q => out ((m k).1 q)
    have p0 := layNew_perm t rows ((PySem.strKind P w).hash k) (.str k tk)
    have f0 := layNew_fits t rows ((PySem.strKind P w).hash k) (.str k tk)
    have r0 := layNew_ris t rows ((PySem.strKind P w).hash k) (.str k tk) ris
    have l0 := layNew_led t rows ((PySem.strKind P w).hash k) (.str k tk)
    revert p0 f0 r0 l0
    generalize layNew t rows ((PySem.strKind P w).hash k) (.str k tk) = Z
    obtain ⟨r1, t1, dum, gv⟩ := Z
    intro p0 f0 r0 l0
    dsimp only at p0 f0 r0 l0 ⊢
    have p1 : r1.toList.Perm (((PySem.strKind P w).hash k, Value.str k tk) :: rows.toList) := by
      refine p0.trans ?_
      rw [Array.toList_push]
      exact List.perm_append_singleton _ _
    have p2 : (r1.toList.map rowTxt).Perm (k :: rows.toList.map rowTxt) := p1.map rowTxt
    have z1 : r1.size = n + 1 := by
      have := p1.length_eq
      simp only [Array.length_toList, List.length_cons] at this
      omega
    have new : ∀ {tt : SetTable}, tt.led = t1.led → ∀ {h'' : Heap} {o' : Obj} {r2 : Array (Int × Value)} {e2 : Nat} {t3 : SetTable}, h''.get? a = some o' → o'.ExactSet → o'.data = .set r2 e2 t3 → r2.toList.Perm r1.toList → t3.fits r2.size = true → Ris t3.place.toList → t3.led = tt.led →
        SetT P w h'' a (fun j => S j || decide (j = k)) r1.size := fun {tt} hl {h'' o' r2 e2 t3} u1 u2 u3 u4 u5 u6 u7 => by
      have v2 := u4.map rowTxt
      have sz : r2.size = r1.size := by have := u4.length_eq; simpa using this
      refine ⟨o', r2, e2, t3, u1, u2, u3, fun e he => ?_, ?_, fun i => ?_, by rw [sz, z1]; exact room, u5, sz, u6, led.imp id fun q => by rw [u7, hl, l0]; exact q⟩
      · rcases List.mem_cons.mp ((u4.trans p1).mem_iff.mp he) with q | q
        · exact ⟨k, tk, by rw [q], by rw [q]⟩
        · exact g e q
      · exact (v2.trans p2).nodup_iff.mpr (List.nodup_cons.mpr ⟨out, nd⟩)
      · rw [(v2.trans p2).mem_iff, List.mem_cons, ← m i, Bool.or_eq_true, decide_eq_true_eq]
        exact Or.comm
    have fin : ∀ h'', Heap.SameBut a s.heap h'' → SetT P w h'' a (fun j => S j || decide (j = k)) r1.size → Q true { s with heap := h'' } := fun h'' sb r => by
      have q := hQ h'' sb
      rw [gone, if_neg Bool.false_ne_true, ← z1] at q
      exact q r
    refine wpAny_bind (giveWay ?_)
    split
    · refine wpAny_bind ?_
      rw [hashByValue_scannable 8 sc]
      refine wpAny_pure (setT_tail (fun b1 s1 Q' q => giveWay q) ho hx hd (new ?_) (by rw [z1]; exact room) ?_ ?_ fun h'' sb r => ?_)
      · first | rfl | (split <;> rfl)
      · first | exact f0 | (split <;> first | exact f0 | exact SetTable.fits_plain_off f0)
      · first | exact r0 | (split <;> exact r0)
      · exact wpAny_pure (fin h'' sb r)
    · refine wpAny_bind (wpAny_pure ?_)
      simp only [↓reduceIte]
      exact setT_tail (fun b1 s1 Q' q => giveWay q) ho hx hd (new rfl) (by rw [z1]; exact room) f0 r0 fun h'' sb r => wpAny_pure (fin h'' sb r)
/-- found.add(x) -/
theorem setT_add {k : Str} {tk : Tok} {Q : Value → Shared → Prop} (R : SetT P w s.heap a S n) (room : n + 1 < scanBound)
    (hQ : ∀ h'', Heap.SameBut a s.heap h'' → SetT P w h'' a (fun j => S j || decide (j = k)) (if S k = true then n else n + 1) → Q .none { s with heap := h'', toks := s.toks + 1 }) :
    wpAny (model P w) A (call (.builtin "set.add") [.ref a, .str k tk]) Q E s := by
  refine wpAny_call_entry F.slot_set_add R.of.typeIs F.entry_set_add ?_ (F.args_set_add_2 _ _)
  unfold Builtin.«set.add» Builtin.Frozenset.oneOther
  simp only [List.isEmpty_nil, bind_assoc]
  unfold Builtin.Frozenset.addrOf setAdd
  refine wpAny_bind (wpAny_pure ?_)
  refine wpAny_bind (wpAny_pure ?_)
  refine wpAny_bind (wpAny_holding (wpAny_bind ((PySem.strKind P w).pyHash (strKind_is P w k tk) ?_)))
  refine setT_put (s := { s with toks := s.toks + 1 }) R room fun h'' sb r => ?_
  exact wpAny_pure ⟨_, rfl, hQ h'' sb r⟩
end
end LW
namespace LW
open PySem PySem.Spec PyProof.Rows L2
theorem SetT.alike {P : Program} {w : World} {h : Heap} {a : Addr} {S S' : Str → Bool} {n : Nat} (R : SetT P w h a S n) (e : ∀ k, S' k = S k) : SetT P w h a S' n := by
  rw [show S' = S from funext e]; exact R
section
variable {P : Program} {w : World} {A : Around} {R : Result → Shared → Prop} {I : Addr} {fp wr : List Addr} {G : Array GenState → Array GenState → Prop} {n : Nat} {Pv : Nat → Value → Prop} {St : Nat → Shared → Prop}
/-- the members of xs, one after another, into the set at b -/
theorem fill_set (W : WalksS P w A.in1 I fp wr G n Pv St) (b : Addr) (nb : b ∉ fp) (xs : List Str) (lx : xs.length = n) (room : n < scanBound) (val : ∀ i v, Pv i v → ∃ t, v = .str (xs.getD i Str.empty) t) :
    ∀ (m i : Nat) (s : Shared), n - i = m → i ≤ n → St i s → (∃ c, c ≤ i ∧ SetT P w s.heap b (fun k => decide (k ∈ xs.take i)) c) →
      (∀ s', Moved (b :: wr) G s s' → (∃ c, c ≤ n ∧ SetT P w s'.heap b (fun k => decide (k ∈ xs)) c) → R (.ok (.ret .none)) s') →
      codeAny (model P w) A (.builtin "set.update.loop" ⟨[.ref b, .ref I], []⟩) R s := by
  have nw : b ∉ wr := fun h => nb (W.sub _ h)
  have up : ∀ y ∈ wr, y ∈ b :: wr := fun y hy => List.mem_cons_of_mem _ hy
  intro m
  induction m with
  | zero =>
    intro i s e hi st hs fin
    obtain rfl : i = n := by omega
    refine codeAny_builtin PyProof.Rows.F.entry_set_update_loop ?_
    rw [Around.under_plainId PyProof.Rows.F.plain_set_update_loop _]
    refine wpAny_bind (m := pyNext (.ref I)) (W.done s _ _ st fun s1 mv => ?_)
    refine wpAny_pure (fin s1 (mv.mono up) ?_)
    obtain ⟨c, hc, r⟩ := hs
    refine ⟨c, hc, (r.keep fun o ho => mv.heap b _ nw ho).alike fun k => ?_⟩
    rw [← lx, List.take_length]
  | succ m ih =>
    intro i s e hi st hs fin
    have lt : i < n := by omega
    refine codeAny_builtin PyProof.Rows.F.entry_set_update_loop ?_
    rw [Around.under_plainId PyProof.Rows.F.plain_set_update_loop _]
    refine wpAny_bind (m := pyNext (.ref I)) (W.item i s _ _ lt st fun v s1 pv st1 mv => ?_)
    obtain ⟨t, rfl⟩ := val i v pv
    obtain ⟨c, hc, r⟩ := hs
    have r1 := r.keep (h' := s1.heap) fun o ho => mv.heap b _ nw ho
    refine wpAny_bind (m := holding [Value.str (xs.getD i Str.empty) t] (setAdd b (.str (xs.getD i Str.empty) t))) (wpAny_holding ?_)
    unfold setAdd
    refine wpAny_holding (wpAny_bind ((PySem.strKind P w).pyHash (strKind_is P w _ t) ?_))
    refine setT_put (s := { s1 with toks := s1.toks + 1 }) r1 (by omega) fun h2 sb r2 => ?_
    have xi : xs[i]? = some (xs.getD i Str.empty) := by
      rw [List.getD_eq_getElem?_getD, List.getElem?_eq_getElem (by omega)]; rfl
    have tk : xs.take (i + 1) = xs.take i ++ [xs.getD i Str.empty] := by
      rw [List.take_add_one, xi]; rfl
    refine wpAny_pure ⟨plainId_quiet PyProof.Rows.F.plain_set_update_loop _, ih (i + 1) _ (by omega) lt (W.frame _ s1 _ _ st1 (Nat.le_succ _) fun y hy o ho => ?_) ⟨_, ?_, r2.alike fun k => ?_⟩ fun s2 mv2 r3 => ?_⟩
    · rw [sb.2 y fun q => nb (q ▸ hy)]; exact ho
    · split <;> omega
    · rw [tk, ← Bool.decide_or]
      exact decide_eq_decide.mpr (by rw [List.mem_append, List.mem_singleton])
    · refine fin s2 (Moved.trans W.gtrans ((mv.mono up).then_heap (Nat.le_succ _) fun y o hy ho => ?_) mv2) r3
      rw [sb.2 y fun q => hy (by rw [q]; exact List.mem_cons_self)]; exact ho
end
section
variable {P : Program} {w : World} {A : Around} {E : Value → Shared → Prop} {s : Shared}
/-- set(xs), a list of texts -/
theorem set_of_list {l : Addr} {its : Array Value} {xs : List Str} {Q : Value → Shared → Prop} (hh : A.handled = none) (hl : s.heap.IsList l its) (hi : PyProof.Rows.StrsAre its.toList xs) (room : xs.length < scanBound)
    (q : ∀ (h' : Heap) (tk : Nat), (∃ c, c ≤ xs.length ∧ SetT P w h' s.heap.objs.size (fun k => decide (k ∈ xs)) c) → (∀ b o, b < s.heap.objs.size → s.heap.get? b = some o → h'.get? b = some o) → Q (.ref s.heap.objs.size) { s with heap := h', toks := tk }) :
    wpAny (model P w) A (call (.type "set") [.ref l]) Q E s := by
  obtain ⟨_, _, m0⟩ := PySem.F.called_set.mro
  have m1 := PySem.F.called_set.made
  have m2 := PySem.F.called_set.sub
  have m3 := PySem.F.called_set.notType
  have m4 := PySem.F.called_set.canCreate
  have m5 := PySem.F.typeCall_set_1 (.ref l)
  have hlt : l < s.heap.objs.size := by obtain ⟨o, ho, _⟩ := hl; exact Heap.lt_size ho
  have hz : its.size = xs.length := by rw [← Array.length_toList, ← StrsAre.len_eq hi]
  refine wpAny_call (codeAny_of_tree ?_)
  show wpAny _ _ (callAny (.type "set") _) _ _ _
  refine wpAny_pure ⟨Code.quiet_builtin _ (by decide +kernel), codeAny_builtin PySem.F.entry_type_call ?_⟩
  rw [Around.under_plain (weight_type_call_type "set" [.ref l] []) rfl]
  repeat (any_goals (first | assumption | wp_step))
  let s1 : Shared := { s with heap := s.heap.push { cls := .type "set", dict := none, data := .set #[] 0 (.fresh 0 0 (!w.params.followText "set-order")) } }
  refine codeAny_mono (code_set_led1 (.ref l) (E := E) (Q₁ := fun v s' => v = .ref s.heap.objs.size ∧ s' = s1) ⟨rfl, rfl⟩) fun r s' hr => ?_
  match r, hr with
  | .error _, hr => exact hr
  | .ok (.ret obj), hr =>
    obtain ⟨rfl, rfl⟩ := hr
    have b0 : s1.heap.get? s.heap.objs.size = some { cls := .type "set", dict := none, data := .set #[] 0 (.fresh 0 0 (!w.params.followText "set-order")) } := Heap.get?_push_size _ rfl
    have b1 : s1.TypeIs (.ref s.heap.objs.size) "set" := ⟨_, b0, rfl⟩
    have b2 := PySem.F.called_set.init.lookup
    have b3 := PySem.F.called_set.init.bind (.ref s.heap.objs.size)
    repeat (any_goals (first | assumption | wp_step))
    refine codeAny_mono (codeAny_call_builtin (R := wants (fun v s' => v = .none ∧ Q (.ref s.heap.objs.size) s') E) PySem.F.called_set.init.plain PySem.F.entry_set_init (check_set_init_1 b1 ?_)) fun r2 s2 hr2 => ?_
    · obtain ⟨⟨c0, d0, data0, sl0⟩, o1, o2, nl, o3⟩ := id hl
      simp only at o2 o3
      subst o2; subst o3
      have o4 : s1.heap.get? l = some { cls := .type "list", dict := d0, data := .seq its nl, slots := sl0 } := Heap.get?_push_of_some _ o1
      have k1 := PySem.F.sub_list_set
      have k2 := PySem.F.sub_list_frozenset
      have k3 : (Value.type "list" == Value.type "dict") = false := by decide
      have l1 : s1.heap.IsList l its := ⟨_, o4, rfl, nl, rfl⟩
      unfold Builtin.«set.__init__» noKeywords Builtin.Frozenset.updateFrom
      generalize hPI : pyIter = PI
      wp_walk
      subst hPI
      refine wpAny_pyIter_list l1 (wpAny_bind (wpAny_runValue ?_))
      have z1 : s1.heap.objs.size = s.heap.objs.size + 1 := Heap.size_push ..
      have nI : l ≠ s1.heap.objs.size := Nat.ne_of_lt (by rw [z1]; exact Nat.lt_succ_of_lt hlt)
      have nf : s.heap.objs.size ∉ [s1.heap.objs.size, l] := by
        intro m
        rcases List.mem_cons.mp m with m | m
        · have m' : s.heap.objs.size = s1.heap.objs.size := m
          omega
        · have m' : s.heap.objs.size = l := List.mem_singleton.mp m
          exact absurd hlt (by rw [← m']; exact Nat.lt_irrefl _)
      have h3 : A.in1.in1.in1.handled = none := by simp [hh]
      have vl : ∀ (i : Nat) (v : Value), its[i]? = some v → ∃ t, v = .str (xs.getD i Str.empty) t := fun i v e => SS.strs_at hi i v (by rw [Array.getElem?_toList]; exact e)
      refine fill_set ((Walks.list h3 _ l nI its).toS) s.heap.objs.size nf xs hz.symm (by rw [hz]; exact room) vl (its.size - 0) 0 _ rfl (Nat.zero_le _) ⟨⟨_, Heap.get?_push_size _ rfl, rfl, rfl⟩, l1.push _⟩ ⟨0, Nat.le_refl _, ?_⟩ ?_
      · exact (setT_fresh P w (Heap.get?_push_of_some _ b0)).alike fun k => by simp
      · rintro ⟨h', g', d', tk', os'⟩ mv r
        obtain rfl : g' = s.gens := mv.gens
        obtain rfl : d' = s.drawn := mv.drawn
        obtain rfl : os' = s.os := mv.os
        show wpAny _ _ _ _ _ _
        refine wpAny_pure ?_
        show wpAny _ _ (ret Value.none) _ _ _
        refine wpAny_pure ⟨rfl, q h' tk' (by rw [hz] at r; exact r) fun b o hb e => mv.heap b o (fun m => ?_) (Heap.get?_push_of_some _ (Heap.get?_push_of_some _ e))⟩
        rcases List.mem_cons.mp m with m | m
        · have m' : b = s.heap.objs.size := m
          omega
        · have m' : b = s1.heap.objs.size := List.mem_singleton.mp m
          omega
    · match r2, hr2 with
      | .error _, hr2 => exact hr2
      | .ok (.ret v), hr2 =>
        obtain ⟨rfl, q2⟩ := hr2
        repeat (any_goals (first | assumption | wp_step))
      | .ok .next, hr2 => exact hr2.elim
      | .ok .brk, hr2 => exact hr2.elim
      | .ok .cont, hr2 => exact hr2.elim
  | .ok .next, hr => exact hr.elim
  | .ok .brk, hr => exact hr.elim
  | .ok .cont, hr => exact hr.elim
end
end LW
namespace LW
open PySem PySem.Spec PyProof.Rows L2
section
variable {P : Program} {w : World} {A : Around} {E : Value → Shared → Prop} {s : Shared}
/-- the texts that the values hold -/
theorem strs_are : ∀ (l : List Value), (∀ v ∈ l, ∃ x tk, v = Value.str x tk) → StrsAre l (l.map fun v => rowTxt (0, v))
  | [], _ => .nil
  | v :: l, h => by
    obtain ⟨x, tk, rfl⟩ := h v List.mem_cons_self
    exact .cons x tk (strs_are l fun u m => h u (List.mem_cons_of_mem _ m))
/-- sorted(found), a set of texts -/
theorem sorted_setT {a : Addr} {S : Str → Bool} {n : Nat} {Q : Value → Shared → Prop} (R : SetT P w s.heap a S n) (hh : A.handled = none)
    (q : ∀ s' p (out : Array Value) (c : Nat) (xs : List Str), (∀ b o, s.heap.get? b = some o → s'.heap.get? b = some o) → s'.gens = s.gens → s'.os = s.os → s.heap.objs.size ≤ p →
      s'.heap.get? p = some (seqObj "list" out c) → StrsAre out.toList xs → sortedS xs = true → xs.Nodup → (∀ k, k ∈ xs ↔ S k = true) → xs.length = n → Q (.ref p) s') :
    wpAny (model P w) A (call (.builtin "sorted") [.ref a]) Q E s := by
  obtain ⟨o, rows, ep, t, ho, hx, hd, g, nd, m, b, f, z, ris, led⟩ := R
  have fits := fits_of_scanBound b
  refine Calls.call_function_entry kind_sorted plain_sorted entry_sorted (args_sorted1 _) ?_
  unfold Builtin.«sorted»
  refine wpAny_bind (m := checkCount "sorted" 1 1 _) (wpAny_pure (wpAny_bind (collect_set (A := A.in1) hh ⟨o, ho, hx.1, hd⟩ f b ris led fun s1 vs keep big e1 e2 pm => ?_)))
  have lv : vs.length = n := by have := pm.length_eq; simp only [List.length_map, Array.length_toList] at this; omega
  have all : ∀ v ∈ vs, ∃ x tk, v = Value.str x tk := fun v hv => by
    obtain ⟨e, he, rfl⟩ := List.mem_map.mp (pm.mem_iff.mp hv)
    obtain ⟨x, tk, u, _⟩ := g e he
    exact ⟨x, tk, u⟩
  have sa := strs_are vs all
  have pk : (vs.map fun v => rowTxt (0, v)).Perm (rows.toList.map rowTxt) := by
    have r := pm.map fun v => rowTxt (0, v)
    rw [List.map_map] at r
    exact r
  refine wpAny_bind (wpAny_newList ?_ (by rw [lv]; omega))
  have ob : (s1.heap.push (seqObj "list" vs.toArray 0)).get? s1.heap.objs.size = some (seqObj "list" vs.toArray 0) := Heap.get?_push_size _ rfl
  refine wpAny_bind (wpAny_holding (wpAny_call_entry slot_list_sort ⟨_, ob, rfl⟩ entry_list_sort
    (list_sort_treeKAny strKind_oneLt ob sa.keysOf (fun v1 v2 rest e => keyKind_strs (by rw [← e]; exact sa)) (by rw [lv]; omega) fun st p1 p2 => ⟨_, rfl, ?_⟩) (args_list_sort _)))
  obtain ⟨ys, y1, y2, y3⟩ := sorted_out_str sa p1 p2
  obtain ⟨c, hc⟩ := sortedHeap_at (vs := vs) (out := (arrOf st).map (·.2)) ob
  have py := y2.trans pk
  refine wpAny_pure ⟨_, rfl, q _ s1.heap.objs.size _ c ys (fun b' u e => ?_) e1 e2 big hc y1 y3 (py.nodup_iff.mpr nd) (fun k => by rw [py.mem_iff, ← m k]) (by have := py.length_eq; simp only [List.length_map, Array.length_toList] at this; omega)⟩
  have k1 := keep b' u e
  have lt := Heap.lt_size k1
  rw [show ({ s1 with heap := sortedHeap (s1.heap.push (seqObj "list" vs.toArray 0)) s1.heap.objs.size vs ((arrOf st).map (·.2)) } : Shared).heap = sortedHeap (s1.heap.push (seqObj "list" vs.toArray 0)) s1.heap.objs.size vs ((arrOf st).map (·.2)) from rfl,
    sortedHeap_old (Nat.ne_of_lt lt) (by rw [size_push']; exact Nat.lt_succ_of_lt lt)]
  exact Heap.get?_push_of_some _ k1
end
/-- the set of texts at a, as a tracked thing -/
def SetTO (P : Program) (w : World) (a : Addr) (S : Str → Bool) (n : Nat) : HO := .ext fun h => SetT P w h a S n
theorem setTO_new {w : World} {P : Program} {H : Hp} {h : Heap} {a : Addr} {S : Str → Bool} {n : Nat} (R : SetT P w h a S n) : ObjOk P w H h a (SetTO P w a S n) :=
  ⟨R, let ⟨o, _, _, _, ho, _⟩ := R; ⟨o, ho⟩, fun _ _ r k => r.keep k⟩
section
variable {X : Cx}
theorem setTO_get {pins : List (Addr × Obj)} {σ : L2.St} {H : Hp} {s : Shared} {a : Addr} {S : Str → Bool} {n : Nat} (I : Inv X pins σ H s) (ha : H a = some (SetTO X.prog X.w a S n)) : SetT X.prog X.w s.heap a S n := (I.hok a _ ha).1
/-- set.add of a text -/
theorem addT_ok {pins : List (Addr × Obj)} {σ : L2.St} {H : Hp} {s : Shared} {E : Value → Shared → Prop} {D : Addr} {S : Str → Bool} {n : Nat} {y : Str} {tk : Tok} {Q : Value → Shared → Prop} (I : Inv X pins σ H s) (hD : H D = some (SetTO X.prog X.w D S n)) (room : n + 1 < scanBound)
    (q : ∀ s', Inv X pins σ (L2.upd H D (SetTO X.prog X.w D (fun j => S j || decide (j = y)) (if S y = true then n else n + 1))) s' → Q .none s') : wpAny (model X.prog X.w) X.A (call (.builtin "set.add") [.ref D, .str y tk]) Q E s :=
  setT_add (setTO_get I hD) room fun h' sb r => q _ (I.write (e := D) (t' := s.toks + 1) (by rw [hD]; trivial) (.inl rfl) (fun b u hb hu => (sb.2 b hb).trans hu) (let ⟨o, _, _, _, ho, _⟩ := r; ⟨o, ho⟩) (setTO_new r))
/-- set(xs), a list of texts -/
def rSetOfS (K : PySem.W.Frag) (P : Program) (w : World) : List V → Hp → VK → Prop := fun xs H Q => ∃ (l : Addr) (zs : List Str), xs = [V.ref l] ∧ SqL K H l (zs.map V.str) ∧ zs.length < scanBound ∧
  ∀ p c, c ≤ zs.length → H p = none → Q (.ref p) (L2.upd H p (SetTO P w p (fun k => decide (k ∈ zs)) c))
theorem cr_setOfS (hc : X.calm = true) : CallR X (.type "set") (rSetOfS X.K X.prog X.w) := by
  intro pins s σ H xs us Q I r h
  obtain ⟨l, zs, rfl, hs, room, q⟩ := h
  obtain ⟨its, rv, hl, _⟩ := I.list hs
  rw [Vals.ref1 r]
  refine set_of_list (I.ok.hd hc) hl.isList (by simpa using rv.strs) room fun h' tk ⟨c, hc', R⟩ keep => ?_
  exact ⟨.ref _, _, I.laid (t' := tk) (fun b o e => keep b o (Heap.lt_size e) e) (Nat.le_refl _) (setTO_new R), rfl, q _ c hc' (I.hok.fresh (Nat.le_refl _))⟩
/-- sorted(found), a set of texts -/
def rSortedT (P : Program) (w : World) : List V → Hp → VK → Prop := fun vs H Q => ∃ (a : Addr) (S : Str → Bool) (n : Nat), vs = [V.ref a] ∧ H a = some (SetTO P w a S n) ∧
  ∀ (xs : List Str) (p : Addr), sortedS xs = true → xs.Nodup → (∀ k, k ∈ xs ↔ S k = true) → xs.length = n → H p = none → Q (.ref p) (L2.upd H p (.lst (xs.map V.str)))
theorem cr_sortedT (hc : X.calm = true) : CallR X (.builtin "sorted") (rSortedT X.prog X.w) := by
  intro pins s σ H vs us Q I r h
  obtain ⟨a, S, n, rfl, ha, q⟩ := h
  have R := setTO_get I ha
  have small : n ≤ sizeLine := by
    obtain ⟨_, rows, _, _, _, _, _, _, _, _, b, _, z, _⟩ := R
    rw [← z]; exact fits_of_scanBound b
  rw [Vals.ref1 r]
  refine sorted_setT R (I.ok.hd hc) fun s' p out c xs k g o hp hg hi h1 h2 h3 h4 => ?_
  have nx : H p = none := I.hok.fresh hp
  obtain ⟨hp', gens', drawn', toks', os'⟩ := s'
  obtain rfl : os' = s.os := o
  refine ⟨.ref p, _, ?_, rfl, q xs p h1 h2 h3 h4 nx⟩
  exact I.call (ch := []) (Un.laid k hp nx) (I.hok.laid k hp ⟨by rw [List.length_map, h4]; exact small, out.toList, c, vals_of_strs hi, hg⟩) (by rw [show gens' = s.gens from g]; exact I.bare) (fun _ z => nomatch z)
/-- sorted(xs), a list of texts of any length -/
def rSortedL (K : PySem.W.Frag) : List V → Hp → VK → Prop := fun vs H Q => ∃ (a : Addr) (xs : List Str), vs = [V.ref a] ∧ SqL K H a (xs.map V.str) ∧
  ∀ (ys : List Str) (p : Addr), ys.Perm xs → sortedS ys = true → H p = none → Q (.ref p) (L2.upd H p (.lst (ys.map V.str)))
theorem cr_sortedL : CallR X (.builtin "sorted") (rSortedL X.K) := by
  intro pins s σ H vs us Q I r h
  obtain ⟨a, xs, rfl, hs, q⟩ := h
  obtain ⟨its, rv, hl, hz⟩ := I.list hs
  rw [Vals.ref1 r]
  refine sorted_strsAny hl.isList rv.strs (by rw [← rv.length]; exact hz) fun out ys h1 h2 h3 => ?_
  obtain ⟨ep, he⟩ := PyProof.Rows.sortedAll_at s.heap its out
  rw [List.length_map] at hz
  exact ⟨.ref _, _, I.laid (t' := s.toks) (fun _ _ => PyProof.Rows.sortedAll_old) (Nat.le_succ _) (show ObjOk X.prog X.w _ _ _ (.lst (ys.map V.str)) from ⟨by rw [List.length_map, h2.length_eq]; exact hz, out.toList, ep, vals_of_strs h1, he⟩), rfl, q ys _ h2 h3 (I.hok.fresh (Nat.le_succ _))⟩
end
/-! ### two sorted lists with the same members -/
theorem sorted_pw : ∀ (p : Str) (l : List Str), risingS p l = true → (∀ y ∈ l, ¬ y.cps.toList < p.cps.toList) ∧ l.Pairwise fun x y => ¬ y.cps.toList < x.cps.toList := by
  intro p l
  induction l generalizing p with
  | nil => exact fun _ => ⟨(fun _ h => nomatch h), List.Pairwise.nil⟩
  | cons x r ih =>
    intro h
    unfold risingS at h
    rw [Bool.and_eq_true, Bool.not_eq_true', ltCps_eq] at h
    obtain ⟨h1, h2⟩ := h
    have h1 := of_decide_eq_false h1
    obtain ⟨i1, i2⟩ := ih x h2
    refine ⟨fun y hy => ?_, List.pairwise_cons.mpr ⟨i1, i2⟩⟩
    rcases List.mem_cons.mp hy with rfl | hy
    · exact h1
    · exact fun z => h1 (List.lt_of_le_of_lt (List.not_lt.mp (i1 y hy)) z)
theorem sorted_pairwise {l : List Str} (h : sortedS l = true) : l.Pairwise fun x y => ¬ y.cps.toList < x.cps.toList := by
  cases l with
  | nil => exact List.Pairwise.nil
  | cons x r => exact List.pairwise_cons.mpr (sorted_pw x r h)
theorem str_cps {x y : Str} (h : x.cps.toList = y.cps.toList) : x = y := by
  cases x; cases y
  exact congrArg Str.mk (Array.toList_inj.mp h)
/-- sorted lists that are rearrangements of one another are equal -/
theorem sorted_perm {l m : List Str} (h1 : sortedS l = true) (h2 : sortedS m = true) (p : l.Perm m) : l = m :=
  p.eq_of_pairwise (fun a b _ _ q1 q2 => str_cps (List.le_antisymm (List.not_lt.mp q1) (List.not_lt.mp q2))) (sorted_pairwise h1) (sorted_pairwise h2)
theorem sorted_mem {l m : List Str} (h1 : sortedS l = true) (h2 : sortedS m = true) (n1 : l.Nodup) (n2 : m.Nodup) (e : ∀ k, k ∈ l ↔ k ∈ m) : l = m :=
  sorted_perm h1 h2 ((List.perm_ext_iff_of_nodup n1 n2).mpr e)
theorem sorted_ints {l m : List Int} (h1 : l.Pairwise (· ≤ ·)) (h2 : m.Pairwise (· ≤ ·)) (p : l.Perm m) : l = m :=
  p.eq_of_pairwise (fun a b _ _ q1 q2 => Int.le_antisymm q1 q2) h1 h2
end LW
/-! {elt for tg in iter if .. for tg1 in iter1 if ..}: a set of texts over two clauses. -/
namespace LW
open PySem PySem.Spec PyProof.Rows L2 PpSet
abbrev sc2 (elt t0 i0 t1 i1 : Expr) (f0 f1 : List Expr) (scope : Scope) (pos : Pos) : Expr := .SetComp elt [⟨t0, i0, f0, 0⟩, ⟨t1, i1, f1, 0⟩] scope pos
theorem sc2_turn0 (elt t0 i0 t1 i1 : Expr) (f0 f1 : List Expr) (scope : Scope) (pos : Pos) (it acc : Value) (env : Env) : compTurn (sc2 elt t0 i0 t1 i1 f0 f1 scope pos) 0 it acc env = (do
      standAt i0.pos
      match ← pyNext it with
      | none => pure (.done .next)
      | some u =>
        letOwnedTupleGo t0 it u
        assign t0 env u
        let mut go := true
        for test in f0 do
          if go then go ← isTrue test env (eval test env)
        if go then
          let src ← eval i1 env
          standAt i1.pos
          let src ← foldedSetIterable i1 env src
          let _ ← runOwn (.compStart (sc2 elt t0 i0 t1 i1 f0 f1 scope pos) 1 (← holding [src] (pyIter src)) acc env) env
        again (.compLoop (sc2 elt t0 i0 t1 i1 f0 f1 scope pos) 0 it acc env)) := by rfl
theorem sc2_turn1 (elt t0 i0 t1 i1 : Expr) (f0 f1 : List Expr) (scope : Scope) (pos : Pos) (it acc : Value) (env : Env) : compTurn (sc2 elt t0 i0 t1 i1 f0 f1 scope pos) 1 it acc env = (do
      standAt i1.pos
      match ← pyNext it with
      | none => pure (.done .next)
      | some u =>
        letOwnedTupleGo t1 it u
        assign t1 env u
        let mut go := true
        for test in f1 do
          if go then go ← isTrue test env (eval test env)
        if go then
          (do let new ← eval elt env; standAt elt.pos; let _ ← call (.builtin "set.add") [acc, new])
        again (.compLoop (sc2 elt t0 i0 t1 i1 f0 f1 scope pos) 1 it acc env)) := by rfl
section
variable {P : Program} {w : World} {A : Around} {R : Result → Shared → Prop} {s : Shared} {elt t0 i0 t1 i1 : Expr} {f0 f1 : List Expr} {scope : Scope} {pos : Pos} {it acc : Value} {env : Env}
/-- what is wanted where something is raised in the block -/
abbrev Up (P : Program) (w : World) (A : Around) (env : Env) (R : Result → Shared → Prop) : Value → Shared → Prop := notedBy (model P w) A env fun e s' => R (.error e) s'
/-- the tests of a clause -/
abbrev tests (fs : List Expr) (env : Env) : Sem Bool := forIn fs true fun c r => if r = true then do let ok ← isTrue c env (eval c env); pure (ForInStep.yield ok) else pure (ForInStep.yield r)
theorem sc2_loop0 (plain : ∀ x, foldedSetIterable i1 env x = pure x) (Go : Nat → Shared → Prop) (turn : ∀ n s, Go n s → wpAny (model P w) A (pyNext it) (fun r s1 => match r with
      | none => R (.ok .next) s1
      | some u => wpAny (model P w) A (letOwnedTupleGo t0 it u) (fun _ s2 => wpAny (model P w) A (assign t0 env u) (fun _ s3 => wpAny (model P w) A (tests f0 env) (fun go s4 =>
            if go = true then wpAny (model P w) A (eval i1 env) (fun src s5 => wpAny (model P w) A (pyIter src) (fun inner s6 =>
              codeAny (model P w) A (.compStart (sc2 elt t0 i0 t1 i1 f0 f1 scope pos) 1 inner acc env) (fun r s7 => match r with
                | .ok _ => ∃ m, m < n ∧ Go m s7
                | .error _ => False) s6) (Up P w A env R) s5) (Up P w A env R) s4
            else ∃ m, m < n ∧ Go m s4) (Up P w A env R) s3) (Up P w A env R) s2) (Up P w A env R) s1) (Up P w A env R) s) (n : Nat) (h : Go n s) :
    codeAny (model P w) A (.compLoop (sc2 elt t0 i0 t1 i1 f0 f1 scope pos) 0 it acc env) R s := by
  refine codeAny_loop rfl Go (fun n s g => ?_) n h
  show wpAny _ A ((compTurn (sc2 elt t0 i0 t1 i1 f0 f1 scope pos) 0 it acc env).onRaise (fun x => do noteFrame x env; theTreesLotGoes x)) _ _ s
  have up : ∀ (e : Value) (s' : Shared), Up P w A env R e s' → Up P w A env R e s' := fun _ _ z => z
  refine wpAny_noted ?_
  rw [sc2_turn0]
  refine wpAny_bind (wpAny_standAt (wpAny_bind (wpAny_mono (turn n s g) (fun r s1 h1 => ?_) up)))
  match r, h1 with
  | none, h1 => exact wpAny_pure h1
  | some u, h1 =>
    refine wpAny_bind (wpAny_mono h1 (fun _ s2 h2 => wpAny_bind (wpAny_mono h2 (fun _ s3 h3 => wpAny_bind (wpAny_mono h3 (fun go s4 h4 => ?_) up)) up)) up)
    match go, h4 with
    | false, h4 => exact wpAny_pure ⟨rfl, h4⟩
    | true, h4 =>
      refine wpAny_bind (wpAny_mono h4 (fun src s5 h5 => wpAny_bind (wpAny_standAt (wpAny_bind (wpAny_of_eq (plain src) (wpAny_bind (wpAny_holding (wpAny_mono h5 (fun inner s6 h6 => ?_) up))))))) up)
      refine wpAny_bind (wpAny_runOwn ?_)
      rw [Around.mark_none]
      refine codeAny_mono h6 fun r s7 h7 => ?_
      match r, h7 with
      | .ok _, h7 => first | exact wpAny_pure ⟨rfl, h7⟩ | exact wpAny_bind (wpAny_pure (wpAny_pure ⟨rfl, h7⟩))
      | .error _, h7 => exact h7.elim
theorem sc2_loop1 (Go : Nat → Shared → Prop) (turn : ∀ n s, Go n s → wpAny (model P w) A (pyNext it) (fun r s1 => match r with
      | none => R (.ok .next) s1
      | some u => wpAny (model P w) A (letOwnedTupleGo t1 it u) (fun _ s2 => wpAny (model P w) A (assign t1 env u) (fun _ s3 => wpAny (model P w) A (tests f1 env) (fun go s4 =>
            if go = true then wpAny (model P w) A (eval elt env) (fun new s5 => wpAny (model P w) A (call (.builtin "set.add") [acc, new]) (fun _ s6 => ∃ m, m < n ∧ Go m s6) (Up P w A env R) s5) (Up P w A env R) s4
            else ∃ m, m < n ∧ Go m s4) (Up P w A env R) s3) (Up P w A env R) s2) (Up P w A env R) s1) (Up P w A env R) s) (n : Nat) (h : Go n s) :
    codeAny (model P w) A (.compLoop (sc2 elt t0 i0 t1 i1 f0 f1 scope pos) 1 it acc env) R s := by
  refine codeAny_loop rfl Go (fun n s g => ?_) n h
  show wpAny _ A ((compTurn (sc2 elt t0 i0 t1 i1 f0 f1 scope pos) 1 it acc env).onRaise (fun x => do noteFrame x env; theTreesLotGoes x)) _ _ s
  have up : ∀ (e : Value) (s' : Shared), Up P w A env R e s' → Up P w A env R e s' := fun _ _ z => z
  refine wpAny_noted ?_
  rw [sc2_turn1]
  refine wpAny_bind (wpAny_standAt (wpAny_bind (wpAny_mono (turn n s g) (fun r s1 h1 => ?_) up)))
  match r, h1 with
  | none, h1 => exact wpAny_pure h1
  | some u, h1 =>
    refine wpAny_bind (wpAny_mono h1 (fun _ s2 h2 => wpAny_bind (wpAny_mono h2 (fun _ s3 h3 => wpAny_bind (wpAny_mono h3 (fun go s4 h4 => ?_) up)) up)) up)
    match go, h4 with
    | false, h4 => exact wpAny_pure ⟨rfl, h4⟩
    | true, h4 =>
      refine wpAny_bind (wpAny_bind (wpAny_mono h4 (fun new s5 h5 => wpAny_bind (wpAny_standAt (wpAny_bind (wpAny_mono h5 (fun _ s6 h6 => ?_) up)))) up))
      exact wpAny_pure (wpAny_pure ⟨rfl, h6⟩)
/-- a clause's start -/
theorem sc2_start (k : Nat) (hk : k = 0 ∨ k = 1) (h0 : codeAny (model P w) A (.compLoop (sc2 elt t0 i0 t1 i1 f0 f1 scope pos) k it acc env) R s)
    (h : wpAny (model P w) A (pyIter it) (fun it' s' => codeAny (model P w) A (.compLoop (sc2 elt t0 i0 t1 i1 f0 f1 scope pos) k it' acc env) R s') (Up P w A env R) s) :
    codeAny (model P w) A (.compStart (sc2 elt t0 i0 t1 i1 f0 f1 scope pos) k it acc env) R s := by
  refine codeAny_of_tree ?_
  show wpAny _ _ ((compStart (sc2 elt t0 i0 t1 i1 f0 f1 scope pos) k it acc env).onRaise (fun x => do noteFrame x env; standAt theWindowsPlace)) _ _ s
  refine wpAny_notedAt ?_
  unfold compStart
  rcases hk with rfl | rfl
  all_goals
    show wpAny _ _ (ask >>= _) _ _ s
    refine wpAny_bind (wpAny_askSetting (wpAny_ite ?_))
    split
    · first | exact wpAny_bind (wpAny_pure (wpAny_pure (And.intro rfl h0))) | exact wpAny_pure (And.intro rfl h0)
    · refine wpAny_bind (wpAny_rule ?_)
      show wpAny _ _ (standAt _ >>= _) _ _ s
      exact wpAny_bind (wpAny_standAt (wpAny_bind (wpAny_mono h (fun it' s' z => wpAny_pure (And.intro rfl z)) fun _ _ x => x)))
end
end LW
namespace LW
open PySem PySem.Spec PyProof.Rows L2 PpSet
/-- behind the first clause's target and tests the second source is walked; where its walk ends, Nx; D: the new set -/
def tScT2 (P : Program) (w : World) (wi : TI) (g : TG) (tt : TT) (wi1 : TI) (g1 : TG) (tt1 : TT) (te : TE) (vs vs1 : List Nat) : TE := fun σ H Q => wi σ H fun J H1 => ∀ D, H1 D = none →
  ∃ W : Nat → Nat → Hp → Prop, (∃ m, W 0 m (L2.upd H1 D (SetTO P w D (fun _ => false) 0))) ∧ ∀ i m H, W i m H →
    (J.stop i H ∧ Q (.ref D) H) ∨ (J.go i H ∧ ∃ Nx : Hp → Prop, (∀ H', Nx H' → ∃ m', m' < m ∧ W (i + 1) m' H') ∧ ∀ x H', J.yld i H x H' → g x (wipe σ vs) H' fun σ2 H2 => wipe σ2 vs = wipe σ vs ∧ tt σ2 H2 fun b H3 =>
      if b = true then wi1 σ2 H3 fun J1 H4 => ∃ W1 : Nat → Nat → Hp → Prop, (∃ m, W1 0 m H4) ∧ ∀ j k H, W1 j k H →
        (J1.stop j H ∧ Nx H) ∨ (J1.go j H ∧ ∃ Ny : Hp → Prop, (∀ H', Ny H' → ∃ k', k' < k ∧ W1 (j + 1) k' H') ∧ ∀ x H', J1.yld j H x H' → g1 x (wipe σ2 vs1) H' fun σ3 H5 => wipe σ3 vs1 = wipe σ2 vs1 ∧ tt1 σ3 H5 fun b H6 =>
          if b = true then te σ3 H6 fun y H7 => ∃ (z : Str) (S : Str → Bool) (n : Nat), y = .str z ∧ H7 D = some (SetTO P w D S n) ∧ n + 1 < scanBound ∧ Ny (L2.upd H7 D (SetTO P w D (fun k => S k || decide (k = z)) (if S z = true then n else n + 1))) else Ny H6)
      else Nx H3)
section
variable {X : Cx} {elt tg iter tg1 iter1 : Expr} {ifs ifs1 : List Expr} {scope : Scope} {own : List (Str × Nat)} {vs1 : List Nat} {pos : Pos} {wi wi1 : TI} {g g1 : TG} {tt tt1 : TT} {te : TE}
/-- the block's own context -/
abbrev Bk (X : Cx) (scope : Scope) (s : Shared) (H : Hp) (C : Addr) (cl : List (Str × Addr)) (fp : List Addr) : Cx := X.blk s H scope (compEnvC scope cl C X.env) fp
theorem pe_scT2 (hc : X.calm = true) (hN : X.N.Nodup) (hi : PI X tg iter wi) (ok : BlkOk X.N X.env.scope scope own) (hv : ∀ i ∈ vs1, i ∈ own.map (·.2))
    (hg : ∀ s H C cl fp, PG (Bk X scope s H C cl fp) tg g) (ht : ∀ s H C cl fp, PTs (Bk X scope s H C cl fp) ifs tt) (hi1 : ∀ s H C cl fp, PI (Bk X scope s H C cl fp) tg1 iter1 wi1)
    (hg1 : ∀ s H C cl fp, PG (Bk X scope s H C cl fp) tg1 g1) (ht1 : ∀ s H C cl fp, PTs (Bk X scope s H C cl fp) ifs1 tt1) (he : ∀ s H C cl fp, PE (Bk X scope s H C cl fp) elt te)
    (hs : ∀ x, foldedSetIterable iter X.env x = pure x := by intro _; rfl) (hs1 : ∀ env x, foldedSetIterable iter1 env x = pure x := by intro _ _; rfl) :
    PE X (sc2 elt tg iter tg1 iter1 ifs ifs1 scope pos) (tScT2 X.prog X.w wi g tt wi1 g1 tt1 te (own.map (·.2)) vs1) := by
  refine ⟨fun pins s σ H Q I h => ?_⟩
  rw [eval_SetComp]
  have cells : ∀ y ∈ scope.names, y.2 = .free → ∃ c, X.env.cells.lookup y.1 = some c := fun y hy e => (ok.free y hy e).elim (fun k => I.ok.has _ (.inl k)) fun k => I.ok.has _ (.inr k)
  refine wpAny_comprehension_free (use := none) rfl hs (closure_ok cells) ok.kind (fun y hy e => by rw [ok.uniq y hy, e]) (thn (hi.run pins s σ H _ I h) fun _ s1 h1 => thn h1 fun _ s2 h2 => ?_)
  obtain ⟨it, fp, at0, J, H2, rfl, I2, T, a2, f2, q⟩ := h2
  refine newSet_ok (newEnv_comp ?_)
  generalize eD : s2.heap.objs.size = D
  obtain ⟨W, ⟨m0, w0⟩, turn⟩ := q D (I2.hok.fresh (Nat.le_of_eq eD))
  generalize e3 : ({ s2 with heap := s2.heap.push { cls := .type "set", dict := none, data := .set #[] 0 (.fresh 0 0 (!X.w.params.followText "set-order")) } } : Shared) = s3
  generalize eH : L2.upd H2 D (SetTO X.prog X.w D (fun _ => false) 0) = H3 at w0
  have h3 : s3.heap = s2.heap.push { cls := .type "set", dict := none, data := .set #[] 0 (.fresh 0 0 (!X.w.params.followText "set-order")) } := by rw [← e3]
  have I3 : Inv X pins σ H3 s3 := by
    rw [← e3, ← eH, ← eD]
    exact I2.laid (t' := s2.toks) (fun _ _ e => Heap.get?_push_of_some _ e) (Nat.le_refl _) (setTO_new (setT_fresh X.prog X.w (Heap.get?_push_size _ rfl)))
  have f3 : ∀ b ∈ fp, FpOk X pins H3 b ∧ b < s3.heap.objs.size := fun b hb => by
    obtain ⟨o, eo, _⟩ := T.obj _ _ a2 b hb
    have lt := Heap.lt_size eo
    refine ⟨⟨?_, (f2 b hb).2⟩, by rw [h3, Heap.size_push]; exact Nat.lt_succ_of_lt lt⟩
    rw [← eH, upd_ne (by rw [← eD]; exact Nat.ne_of_lt lt)]
    exact (f2 b hb).1
  have a3 : at0 0 s3.heap := T.keep _ _ _ a2 fun _ _ _ e => by rw [h3]; exact Heap.get?_push_of_some _ e
  have I4 := block_start I3 ok hN f3
  generalize eC : cellsFrom (s3.heap.objs.size + 1) scope.names (cloFrom X.env.cells scope.names []) = cl at I4 ⊢
  have G : PG (X.blk s3 H3 scope (compEnvC scope cl s3.heap.objs.size X.env) fp) tg g := hg s3 H3 s3.heap.objs.size cl fp
  have Ts : PTs (X.blk s3 H3 scope (compEnvC scope cl s3.heap.objs.size X.env) fp) ifs tt := ht s3 H3 s3.heap.objs.size cl fp
  have It1 : PI (X.blk s3 H3 scope (compEnvC scope cl s3.heap.objs.size X.env) fp) tg1 iter1 wi1 := hi1 s3 H3 s3.heap.objs.size cl fp
  have G1 : PG (X.blk s3 H3 scope (compEnvC scope cl s3.heap.objs.size X.env) fp) tg1 g1 := hg1 s3 H3 s3.heap.objs.size cl fp
  have Ts1 : PTs (X.blk s3 H3 scope (compEnvC scope cl s3.heap.objs.size X.env) fp) ifs1 tt1 := ht1 s3 H3 s3.heap.objs.size cl fp
  have El : PE (X.blk s3 H3 scope (compEnvC scope cl s3.heap.objs.size X.env) fp) elt te := he s3 H3 s3.heap.objs.size cl fp
  have nf : ∀ b ∈ fp, H3 b = none := fun b hb => (f3 b hb).1.1
  show codeAny _ _ (.compStart (sc2 elt tg iter tg1 iter1 ifs ifs1 scope pos) 0 (.ref it) (.ref D) (compEnvC scope cl s3.heap.objs.size X.env)) (compPost (model X.prog X.w) X.A X.xe none (fun v s' => EP X pins σ Q v s') (.ref D) s3.heap.objs.size) { s3 with heap := pushCells (s3.heap.push { cls := .type "dict", data := .dict #[] }) scope.names }
  generalize e4 : ({ s3 with heap := pushCells (s3.heap.push { cls := .type "dict", data := .dict #[] }) scope.names } : Shared) = s4 at I4 ⊢
  have a4 : at0 0 s4.heap := T.keep _ _ _ a3 fun _ _ _ e => by rw [← e4]; exact pushCells_keeps _ _ _ _ (Heap.get?_push_of_some _ e)
  generalize eE : compEnvC scope cl s3.heap.objs.size X.env = ce at I4 G Ts It1 G1 Ts1 El ⊢
  have loc : ce.locals = s3.heap.objs.size := by subst eE; rfl
  -- what stands of an iterator's own things, within the block
  have own0 : ∀ {ps : List (Addr × Obj)} {σ' : L2.St} {H' : Hp} {s' : Shared}, Inv (X.blk s3 H3 scope ce fp) [] σ' H' s' → (∀ b ∈ fp, H' b = none) → ∀ b ∈ fp, FpOk (X.blk s3 H3 scope ce fp) [] H' b := fun {ps σ' H' s'} I' n b hb =>
    ⟨n b hb, (I'.ok.exf b hb).1, I'.ok.exfs b hb, .inl hb, (fun x c e => (I'.ok.exf b hb).2 x c e), fun p hp => absurd (show p ∈ ([] : List (Addr × Obj)) ++ [] from hp) (by simp)⟩
  let At : Nat → Shared → Prop := fun n s' => ∃ i H', Inv (X.blk s3 H3 scope ce fp) [] (wipe σ (own.map (·.2))) H' s' ∧ at0 i s'.heap ∧ (∀ b ∈ fp, H' b = none) ∧ W i n H'
  have main : codeAny (model X.prog X.w) X.A (.compLoop (sc2 elt tg iter tg1 iter1 ifs ifs1 scope pos) 0 (.ref it) (.ref D) ce) (compPost (model X.prog X.w) X.A X.xe none (fun v s' => EP X pins σ Q v s') (.ref D) s3.heap.objs.size) s4 := by
    refine sc2_loop0 (hs1 ce) At ?_ m0 ⟨0, H3, I4, a4, nf, w0⟩
    rintro n s5 ⟨i, H5, I5, a5, n5, w5⟩
    rcases turn i n H5 w5 with ⟨stop, fin⟩ | ⟨go, Nx, down, step⟩
    · refine thnF (T.done (X.blk s3 H3 scope ce fp) rfl rfl rfl hc i [] s5 _ H5 (fun _ _ => False) I5 (own0 (ps := []) I5 n5) a5 stop) fun r s6 ⟨er, I6⟩ => ?_
      subst er
      obtain ⟨m, hm, _⟩ := I6.loc
      have nC : H5 s3.heap.objs.size = none := by rw [← loc]; exact I6.free
      have I7 : Inv X pins σ H5 s6 := I3.call' (ch := fp) I6.os I6.base I6.hok I6.bare fun b hb => have z := (f3 b hb).1.2; ⟨z.2.2.1, z.1, z.2.2.2.1, z.2.2.2.2⟩
      obtain ⟨_, k1, _, k3, k4, k5⟩ := I3.fpOk (Nat.le_refl _) nC
      refine ⟨m, by rw [← loc]; exact hm, fun h'' sb => ?_⟩
      exact ⟨.ref D, H5, I7.turned (t' := s6.toks) (fun b o hb e => (sb.2 b hb).trans e) nC k1 k3 k4 k5, rfl, fin⟩
    · refine thnF (T.item (X.blk s3 H3 scope ce fp) rfl rfl rfl hc i [] s5 _ H5 (fun _ _ => False) I5 (own0 (ps := []) I5 n5) a5 go) fun r s6 ⟨u, er, h6⟩ => ?_
      subst er
      refine thnF h6 fun _ s7 ⟨x, H7, I7, r7, y7, a7, n7⟩ => ?_
      have P7 := I7.pinned (own0 (ps := []) I7 n7) (T.obj _ _ a7)
      refine thnF (G.run _ s7 _ H7 x u _ P7 r7 (step x H7 y7)) fun _ s8 ⟨σ8, H8, I8, e8, q8⟩ => ?_
      refine thnF (Ts.run _ s8 σ8 H8 _ I8 q8) fun b s9 ⟨H9, I9, q9⟩ => ?_
      have back : ∀ {σ9 : L2.St} {s' : Shared} {H' : Hp}, Inv (X.blk s3 H3 scope ce fp) ([] ++ pinsAt fp s7.heap) σ9 H' s' → (wipe σ (own.map (·.2))).length = σ9.length → (∀ (j : Nat) v, (wipe σ (own.map (·.2)))[j]? = some (some v) → σ9[j]? = some (some v)) → Nx H' →
          ∃ m, m < n ∧ At m s' := fun {σ9 s' H'} I' l k nx => by
        obtain ⟨m', lt, w'⟩ := down H' nx
        have st : ∀ b ∈ fp, ∀ o, s7.heap.get? b = some o → s'.heap.get? b = some o ∧ H' b = none := fun b hb o e =>
          have z := I'.pin (b, o) (List.mem_append_right _ (List.mem_append_right _ (mem_pinsAt hb e)))
          ⟨z.1, z.2.1⟩
        refine ⟨m', lt, i + 1, H', (I'.unpinned (pins := [])).weak l k, T.keep _ _ _ a7 fun b hb o e => (st b hb o e).1, fun b hb => ?_, w'⟩
        obtain ⟨o, e, _⟩ := T.obj _ _ a7 b hb
        exact (st b hb o e).2
      have len8 : (wipe σ (own.map (·.2))).length = σ8.length := by rw [← e8, wipe_length]
      have known8 : ∀ (j : Nat) v, (wipe σ (own.map (·.2)))[j]? = some (some v) → σ8[j]? = some (some v) := fun j v e => (wipe_some (by rw [e8]; exact e)).1
      cases b with
      | false =>
        rw [if_neg Bool.false_ne_true] at q9
        exact back I9 len8 known8 q9
      | true =>
        rw [if_pos rfl] at q9
        refine thnF (It1.run _ s9 σ8 H9 _ I9 q9) fun _ s10 h10 => thnF h10 fun _ s11 h11 => ?_
        obtain ⟨it1, fp1, at1, J1, H11, rfl, I11, T1, a11, f11, W1, ⟨m1, w1⟩, turn1⟩ := h11
        have own1 : ∀ {H' : Hp}, (∀ b ∈ fp1, H' b = none) → ∀ b ∈ fp1, FpOk (X.blk s3 H3 scope ce fp) ([] ++ pinsAt fp s7.heap) H' b := fun n b hb => ⟨n b hb, (f11 b hb).2⟩
        have inner : codeAny (model X.prog X.w) X.A (.compLoop (sc2 elt tg iter tg1 iter1 ifs ifs1 scope pos) 1 (.ref it1) (.ref D) ce) (fun r s' => match r with
              | .ok _ => ∃ m, m < n ∧ At m s'
              | .error _ => False) s11 := by
          refine sc2_loop1 (fun k s' => ∃ j H', Inv (X.blk s3 H3 scope ce fp) ([] ++ pinsAt fp s7.heap) (wipe σ8 vs1) H' s' ∧ at1 j s'.heap ∧ (∀ b ∈ fp1, H' b = none) ∧ W1 j k H') ?_ m1 ⟨0, H11, I11.weak (wipe_length _ _) (fun j v e => (wipe_some e).1), a11, (fun b hb => (f11 b hb).1), w1⟩
          rintro k s12 ⟨j, H12, I12, a12, n12, w12⟩
          rcases turn1 j k H12 w12 with ⟨stop1, nx1⟩ | ⟨go1, Ny, down1, step1⟩
          · refine thnF (T1.done (X.blk s3 H3 scope ce fp) rfl rfl rfl hc j _ s12 (wipe σ8 vs1) H12 (fun _ _ => False) I12 (own1 n12) a12 stop1) fun r s13 ⟨er, I13⟩ => ?_
            subst er
            refine back I13 (len8.trans (wipe_length σ8 vs1).symm) (fun j v e => ?_) nx1
            obtain ⟨z1, z2⟩ := wipe_some (by rw [e8]; exact e)
            rw [wipe_out fun z => z2 (hv j z)]
            exact z1
          · refine thnF (T1.item (X.blk s3 H3 scope ce fp) rfl rfl rfl hc j _ s12 (wipe σ8 vs1) H12 (fun _ _ => False) I12 (own1 n12) a12 go1) fun r s13 ⟨u1, er, h13⟩ => ?_
            subst er
            refine thnF h13 fun _ s14 ⟨x1, H14, I14, r14, y14, a14, n14⟩ => ?_
            refine thnF (G1.run _ s14 (wipe σ8 vs1) H14 x1 u1 _ (I14.pinned (own1 n14) (T1.obj _ _ a14)) r14 (step1 x1 H14 y14)) fun _ s15 ⟨σ15, H15, I15, e15, q15⟩ => ?_
            refine thnF (Ts1.run _ s15 σ15 H15 _ I15 q15) fun b1 s16 ⟨H16, I16, q16⟩ => ?_
            have back1 : ∀ {s' : Shared} {H' : Hp}, Inv (X.blk s3 H3 scope ce fp) (([] ++ pinsAt fp s7.heap) ++ pinsAt fp1 s14.heap) σ15 H' s' → Ny H' →
                ∃ m, m < k ∧ ∃ j H', Inv (X.blk s3 H3 scope ce fp) ([] ++ pinsAt fp s7.heap) (wipe σ8 vs1) H' s' ∧ at1 j s'.heap ∧ (∀ b ∈ fp1, H' b = none) ∧ W1 j m H' := fun {s' H'} I' nx => by
              obtain ⟨m', lt, w'⟩ := down1 H' nx
              have st : ∀ b ∈ fp1, ∀ o, s14.heap.get? b = some o → s'.heap.get? b = some o ∧ H' b = none := fun b hb o e =>
                have z := I'.pin (b, o) (List.mem_append_right _ (List.mem_append_right _ (mem_pinsAt hb e)))
                ⟨z.1, z.2.1⟩
              refine ⟨m', lt, j + 1, H', I'.unpinned.weak (by rw [← e15, wipe_length]) (fun j v e => (wipe_some (by rw [e15]; exact e)).1), T1.keep _ _ _ a14 fun b hb o e => (st b hb o e).1, fun b hb => ?_, w'⟩
              obtain ⟨o, e, _⟩ := T1.obj _ _ a14 b hb
              exact (st b hb o e).2
            cases b1 with
            | false =>
              rw [if_neg Bool.false_ne_true] at q16
              exact back1 I16 q16
            | true =>
              rw [if_pos rfl] at q16
              refine thnF (El.run _ s16 σ15 H16 _ I16 q16) fun v s17 ⟨yv, H17, I17, r17, z, S, c, ey, eD17, room, nx⟩ => ?_
              subst ey
              obtain ⟨tk, rfl⟩ := r17
              exact addT_ok (X := X.blk s3 H3 scope ce fp) I17 eD17 room fun s18 I18 => back1 I18 nx
        exact sc2_start 1 (.inr rfl) inner (T1.self X.A 0 _ _ _ a11 inner)
  exact sc2_start 0 (.inl rfl) main (T.self X.A 0 _ _ _ a4 main)
end
end LW
/-! Several dicts locked while an expression runs. -/
namespace LW
open PySem PySem.Spec PyProof.Rows L2 GxR
def tLk (t : TE) : List Addr → TE
  | [] => t
  | d :: ds => tLockE1 d (tLk t ds)
where tLockE1 (d : Addr) (t : TE) : TE := fun σ H Q => ∃ u, H d = some u ∧ Mut (some u) ∧ ∀ od, t σ (L2.upd H d (.frz od u)) fun v H' => H' d = some (.frz od u) ∧ Q v (L2.upd H' d u)
/-- the reading chooses the dicts -/
def tLocks (t : TE) : TE := fun σ H Q => ∃ ds, tLk t ds σ H Q
theorem pe_locks {X : Cx} {e : Expr} {t : TE} (h : PE X e t) : PE X e (tLocks t) := by
  refine ⟨fun pins s σ H Q I ⟨ds, q⟩ => ?_⟩
  have all : ∀ ds : List Addr, PE X e (tLk t ds) := fun ds => by
    induction ds with
    | nil => exact h
    | cons d ds ih => exact ⟨fun pins s σ H Q I ⟨u, e1, e2, q⟩ => (pe_lock ih).run pins s σ H Q I ⟨d, u, e1, e2, q⟩⟩
  exact (all ds).run pins s σ H Q I q
/-- the heap with the dicts ds as they were in H -/
def back (ds : List Addr) (H H' : Hp) : Hp := fun b => if b ∈ ds then H b else H' b
theorem lk_all {t : TE} {σ : L2.St} : ∀ (ds : List Addr) (H : Hp) (Q : VK), ds.Nodup → (∀ d ∈ ds, ∃ kvs, H d = some (.dK kvs)) →
    (∀ H2 : Hp, (∀ b, b ∉ ds → H2 b = H b) → (∀ d ∈ ds, ∀ kvs, H d = some (.dK kvs) → ∃ o, H2 d = some (.frz o (.dK kvs))) → t σ H2 (fun v H' => (∀ d ∈ ds, H' d = H2 d) ∧ Q v (back ds H H'))) → tLk t ds σ H Q := by
  intro ds
  induction ds with
  | nil =>
    intro H Q _ _ k
    have e : (fun (v : V) (H' : Hp) => (∀ d ∈ ([] : List Addr), H' d = H d) ∧ Q v (back [] H H')) = Q := by
      funext v H'
      apply propext
      have : back [] H H' = H' := by funext b; unfold back; simp
      rw [this]
      exact ⟨fun z => z.2, fun z => ⟨by simp, z⟩⟩
    have := k H (fun _ _ => rfl) (fun d hd => by simp at hd)
    rw [e] at this
    exact this
  | cons d ds ih =>
    intro H Q nd hk k
    obtain ⟨n1, n2⟩ := List.nodup_cons.mp nd
    obtain ⟨kvs, hd⟩ := hk d List.mem_cons_self
    refine ⟨.dK kvs, hd, True.intro, fun od => ?_⟩
    have ne : ∀ {b}, b ∈ ds → b ≠ d := fun hb e => n1 (e ▸ hb)
    refine ih _ _ n2 (fun b hb => ?_) (fun H2 a1 a2 => ?_)
    · obtain ⟨kv, e⟩ := hk b (List.mem_cons_of_mem _ hb)
      exact ⟨kv, by rw [upd_ne (ne hb)]; exact e⟩
    · have hd2 : H2 d = some (.frz od (.dK kvs)) := by rw [a1 d n1, upd_same]
      have q := k H2 (fun b hb => by
        rw [a1 b fun z => hb (List.mem_cons_of_mem _ z), upd_ne fun z => hb (by rw [z]; exact List.mem_cons_self)]) (fun b hb kv e => by
        rcases List.mem_cons.mp hb with rfl | hb
        · rw [hd] at e
          cases e
          exact ⟨od, hd2⟩
        · exact a2 b hb kv (by rw [upd_ne (ne hb)]; exact e))
      have e : (fun (v : V) (H' : Hp) => (∀ b ∈ d :: ds, H' b = H2 b) ∧ Q v (back (d :: ds) H H')) = fun v H' => (∀ b ∈ ds, H' b = H2 b) ∧ ((back ds (L2.upd H d (.frz od (.dK kvs))) H') d = some (.frz od (.dK kvs)) ∧ Q v (L2.upd (back ds (L2.upd H d (.frz od (.dK kvs))) H') d (.dK kvs))) := by
        funext v H'
        apply propext
        have e1 : (back ds (L2.upd H d (.frz od (.dK kvs))) H') d = H' d := by unfold back; rw [if_neg n1]
        have e2 : L2.upd (back ds (L2.upd H d (.frz od (.dK kvs))) H') d (.dK kvs) = back (d :: ds) H H' := by
          funext b
          by_cases hb : b = d
          · subst hb
            rw [upd_same]
            unfold back
            rw [if_pos List.mem_cons_self, hd]
          · rw [upd_ne hb]
            unfold back
            by_cases hm : b ∈ ds
            · rw [if_pos hm, if_pos (List.mem_cons_of_mem _ hm), upd_ne hb]
            · rw [if_neg hm, if_neg (fun z => (List.mem_cons.mp z).elim hb hm)]
        rw [e1, e2]
        constructor
        · rintro ⟨z1, z2⟩
          exact ⟨fun b hb => z1 b (List.mem_cons_of_mem _ hb), (z1 d List.mem_cons_self).trans hd2, z2⟩
        · rintro ⟨z1, z2, z3⟩
          exact ⟨fun b hb => by
            rcases List.mem_cons.mp hb with rfl | hb
            · exact z2.trans hd2.symm
            · exact z1 b hb, z3⟩
      rw [e] at q
      exact q
end LW
namespace LW
open PySem PySem.Spec PyProof.Rows L2 GxR
/-- a walk by its invariant, whatever is done with an item -/
theorem walk_inv {J : It} {n : Nat} {G : Hp → Prop} {Y : Nat → Hp → V → Hp → Prop} (w : Walk J n G Y) {Body : V → Hp → (Hp → Prop) → Prop} {H0 : Hp} {Qd : Hp → Prop} (Pv : Nat → Hp → Prop) (h0 : Pv 0 H0) (hG : ∀ i H, i ≤ n → Pv i H → G H)
    (hs : ∀ i x H H', i < n → Pv i H → Y i H x H' → Body x H' (Pv (i + 1))) (hd : ∀ H, Pv n H → Qd H) :
    ∃ W : Nat → Nat → Hp → Prop, (∃ m, W 0 m H0) ∧ ∀ i m H, W i m H → (J.stop i H ∧ Qd H) ∨ (J.go i H ∧ ∃ Nx : Hp → Prop, (∀ H', Nx H' → ∃ m', m' < m ∧ W (i + 1) m' H') ∧ ∀ x H', J.yld i H x H' → Body x H' Nx) := by
  refine ⟨fun i m H => m = n - i ∧ i ≤ n ∧ Pv i H, ⟨n, rfl, Nat.zero_le _, h0⟩, ?_⟩
  rintro i m H ⟨rfl, hi, p⟩
  have g := hG i H hi p
  by_cases lt : i < n
  · exact .inr ⟨w.goes i H lt g, Pv (i + 1), fun H' p' => ⟨n - (i + 1), by omega, rfl, lt, p'⟩, fun x H' y => hs i x H H' lt p (w.yields i H x H' lt g y)⟩
  · obtain rfl : i = n := by omega
    exact .inl ⟨w.stops H g, hd H p⟩
end LW
namespace LW
open PySem PySem.Spec PyProof.Rows L2 GxR
/-- all is kept but the law's state -/
structure Mv (a c : Addr) (H H' : Hp) : Prop where
  keep : ∀ b o, b ≠ a → b ≠ c → H b = some o → H' b = some o
  free : ∀ b, H' b = none → H b = none
theorem Mv.refl (a c : Addr) (H : Hp) : Mv a c H H := ⟨fun _ _ _ _ e => e, fun _ n => n⟩
theorem Mv.trans {a c : Addr} {H H1 H2 : Hp} (m : Mv a c H H1) (n : Mv a c H1 H2) : Mv a c H H2 := ⟨fun b o h1 h2 e => n.keep b o h1 h2 (m.keep b o h1 h2 e), fun b z => m.free b (n.free b z)⟩
theorem Mv.same {a c : Addr} {H H' : Hp} (s : Same H H') : Mv a c H H' := ⟨fun b o _ _ e => s b o e, fun b n => s.free n⟩
theorem Mv.take {a c : Addr} {H H' : Hp} (s : SL H a c) (s' : SL H' a c) (e : ∀ b, b ≠ a → b ≠ c → H' b = H b) : Mv a c H H' := ⟨fun b o h1 h2 z => by rw [e b h1 h2]; exact z, fun b z => by
  by_cases h1 : b = a
  · obtain ⟨n, cs, q, _⟩ := s'
    rw [h1, q] at z; cases z
  · by_cases h2 : b = c
    · obtain ⟨n, cs, _, q, _⟩ := s'
      rw [h2, q] at z; cases z
    · rw [← e b h1 h2]; exact z⟩
theorem Mv.new {a c : Addr} {H H' : Hp} {p : Addr} {o : HO} (m : Mv a c H H') (n : H p = none) : Mv a c H (L2.upd H' p o) := ⟨fun b u h1 h2 e => by rw [upd_ne (ne_of_none e n)]; exact m.keep b u h1 h2 e, fun b z => by
  by_cases h : b = p
  · rw [h]; exact n
  · rw [upd_ne h] at z; exact m.free b z⟩
theorem Mv.tab {a c : Addr} {H H' : Hp} {B : Addr} (m : Mv a c H H') (s : SL H a c) (t : TabG H B) : TabG H' B := by
  have n := s.tab t
  obtain ⟨ps, e, r⟩ := t
  exact ⟨ps, m.keep _ _ n.1 n.2 e, r⟩
theorem join_one (xs : List Nat) : TL.tl (Txt.join (Str.ofString "") (xs.map fun c => (⟨#[c]⟩ : Str))) = xs := by
  rw [TL.join_eq, TL.tl_join, tl_empty, joinL_nil, List.map_map]
  induction xs with
  | nil => rfl
  | cons z r ih =>
    rw [List.map_cons, List.flatten_cons, ih]
    rfl
/-- the signs of a drawn text -/
def drawn : List Nat := [97, 98, 99, 88, 89, 32, 48, 49]
theorem drawn_eq : (Str.ofString "abcXY 01").cps.toList = drawn := by decide +kernel
/-- a text at will, of at most m signs -/
def spText : Sp := fun vs H Q _ => ∃ (a c : Addr) (m : Nat), vs = [.ref a, .int (m : Int)] ∧ SL H a c ∧ m < 1000 ∧ ∀ x H', x.length ≤ m → (∀ z ∈ x.cps.toList, z ∈ drawn) → SL H' a c → Mv a c H H' → Q (.str x) H'
/-- all is kept but at the addresses F -/
structure Kp (F : Addr → Prop) (H H' : Hp) : Prop where
  keep : ∀ b o, ¬ F b → H b = some o → H' b = some o
  free : ∀ b, H' b = none → H b = none
theorem Kp.refl (F : Addr → Prop) (H : Hp) : Kp F H H := ⟨fun _ _ _ e => e, fun _ n => n⟩
theorem Kp.trans {F : Addr → Prop} {H H1 H2 : Hp} (m : Kp F H H1) (n : Kp F H1 H2) : Kp F H H2 := ⟨fun b o h e => n.keep b o h (m.keep b o h e), fun b z => m.free b (n.free b z)⟩
theorem Kp.weak {F G : Addr → Prop} {H H' : Hp} (m : Kp F H H') (h : ∀ b, F b → G b) : Kp G H H' := ⟨fun b o n e => m.keep b o (fun z => n (h b z)) e, m.free⟩
theorem Kp.same {F : Addr → Prop} {H H' : Hp} (s : Same H H') : Kp F H H' := ⟨fun b o _ e => s b o e, fun b n => s.free n⟩
theorem Kp.mv {a c : Addr} {F : Addr → Prop} {H H' : Hp} (m : Mv a c H H') (ha : F a) (hc : F c) : Kp F H H' := ⟨fun b o n e => m.keep b o (fun z => n (z ▸ ha)) (fun z => n (z ▸ hc)) e, m.free⟩
theorem Kp.new {F : Addr → Prop} {H H' : Hp} {p : Addr} {o : HO} (m : Kp F H H') (n : H' p = none) : Kp F H (L2.upd H' p o) := m.trans (.same (same_upd n))
theorem Kp.put {F : Addr → Prop} {H H' : Hp} {p : Addr} {o : HO} (m : Kp F H H') (h : F p) (n : H' p ≠ none) : Kp F H (L2.upd H' p o) := m.trans ⟨fun b u nb e => by
  rw [upd_ne (show b ≠ p from fun z => nb (by rw [z]; exact h))]; exact e, fun b z => by
  by_cases e : b = p
  · rw [e, upd_same] at z; cases z
  · rw [upd_ne e] at z; exact z⟩
theorem kp_take {a c : Addr} {H H' : Hp} (s : SL H a c) (s' : SL H' a c) (e : ∀ b, b ≠ a → b ≠ c → H' b = H b) : Kp (fun b => b = a ∨ b = c) H H' := .mv (Mv.take s s' e) (.inl rfl) (.inr rfl)
end LW
namespace LW
open PySem PySem.Spec PyProof.Rows L2 GxR
theorem dp_txt {K : PySem.W.Frag} {H : Hp} : ∀ ls : List Str, DpAll K H (ls.map V.str) (ls.map PyData.str)
  | [] => .nil
  | x :: r => .cons (.str x) (dp_txt r)
theorem dp_num {K : PySem.W.Frag} {H : Hp} : ∀ ls : List Int, DpAll K H (ls.map V.int) (ls.map PyData.int)
  | [] => .nil
  | x :: r => .cons (.int x) (dp_num r)
theorem lay_txt : ∀ ls : List Str, (∀ x ∈ ls, PyData.strOk x = true) → PyData.canLayAll0 (ls.map PyData.str) = true ∧ PyData.depthAll (ls.map PyData.str) = 0
  | [], _ => ⟨rfl, rfl⟩
  | x :: r, h => by
    have ih := lay_txt r fun y hy => h y (List.mem_cons_of_mem _ hy)
    constructor
    · rw [List.map_cons, PyData.canLayAll0, ih.1, PyData.canLay0, h x List.mem_cons_self]; rfl
    · rw [List.map_cons, PyData.depthAll, ih.2, PyData.depth]; rfl
theorem lay_num : ∀ ls : List Int, PyData.canLayAll0 (ls.map PyData.int) = true ∧ PyData.depthAll (ls.map PyData.int) = 0
  | [] => ⟨rfl, rfl⟩
  | x :: r => by
    have ih := lay_num r
    constructor
    · rw [List.map_cons, PyData.canLayAll0, ih.1, PyData.canLay0]; rfl
    · rw [List.map_cons, PyData.depthAll, ih.2, PyData.depth]; rfl
theorem shaped_txt {ls : List Str} (h : ∀ x ∈ ls, PyData.strOk x = true) : SeqAt.shaped (.list (ls.map PyData.str)) = true := by
  have l := lay_txt ls h
  unfold SeqAt.shaped
  rw [PyData.canLay0, l.1, PyData.depth, l.2]
  rfl
theorem shaped_num {ls : List Int} : SeqAt.shaped (.list (ls.map PyData.int)) = true := by
  have l := lay_num ls
  unfold SeqAt.shaped
  rw [PyData.canLay0, l.1, PyData.depth, l.2]
  rfl
theorem same_txt {ls : List Str} (h : ∀ x ∈ ls, PyData.strOk x = true) : PyData.eqv (.list (ls.map PyData.str)) (.list (ls.map PyData.str)) = true := SeqAt.eqv_refl _ (by rw [PyData.canLay0]; exact (lay_txt ls h).1)
theorem same_num {ls : List Int} : PyData.eqv (.list (ls.map PyData.int)) (.list (ls.map PyData.int)) = true := SeqAt.eqv_refl _ (by rw [PyData.canLay0]; exact (lay_num ls).1)
end LW
namespace LW
open PySem PySem.Spec PyProof.Rows L2 GxR
/-! ### list(text) -/
def signs (z : Str) : List V := z.cps.toList.map fun c => V.str ⟨#[c]⟩
theorem signs_of {z : Str} {acc : Array Value} (h : ItemsOf (SignAt z) acc z.cps.size) : Vals (signs z) acc.toList := by
  have key : ∀ (cs : List Nat) (vs : List Value), cs.length = vs.length → (∀ (j : Nat) (v : Value), vs[j]? = some v → ∃ c u, cs[j]? = some c ∧ v = .str ⟨#[c]⟩ u) → Vals (cs.map fun c => V.str ⟨#[c]⟩) vs := by
    intro cs
    induction cs with
    | nil =>
      intro vs hl _
      cases vs with
      | nil => exact .nil
      | cons v r => cases hl
    | cons c cs ih =>
      intro vs hl hv
      cases vs with
      | nil => cases hl
      | cons v r =>
        obtain ⟨c', u, e1, e2⟩ := hv 0 v rfl
        cases e1
        exact .cons ⟨u, e2⟩ (ih r (by simpa using hl) fun j w hj => hv (j + 1) w hj)
  refine key z.cps.toList acc.toList ?_ fun j v hj => ?_
  · rw [Array.length_toList, Array.length_toList]; exact h.1.symm
  · obtain ⟨c, u, e1, e2⟩ := h.2 j v (by rw [← Array.getElem?_toList]; exact hj)
    exact ⟨c, u, by rw [Array.getElem?_toList]; exact e1, e2⟩
theorem call_listS {X : Cx} (hc : X.calm = true) : CallR X (.type "list") (fun xs H Q => ∃ z, xs = [.str z] ∧ z.length ≤ sizeLine ∧ ∀ l, H l = none → Q (.ref l) (L2.upd H l (.lst (signs z)))) := by
  intro pins s σ H xs us Q I r h
  obtain ⟨z, rfl, hz, q⟩ := h
  obtain ⟨u, rfl, rx⟩ := vals1 r
  obtain ⟨t, rfl⟩ := rx
  refine call_list_str (I.ok.hd hc) z t (fun h' tk acc' c' kp hS hit => ?_) (hn := hz)
  have hlen : (signs z).length ≤ sizeLine := by
    unfold signs
    rw [List.length_map, Array.length_toList]
    exact hz
  exact ⟨.ref s.heap.objs.size, _, I.laid (t' := tk) kp (Nat.le_refl _) (show ObjOk X.prog X.w _ h' _ (.lst (signs z)) from ⟨hlen, acc'.toList, c', signs_of hit, hS⟩), rfl, q _ (I.hok.fresh (Nat.le_refl _))⟩
end LW
namespace LW
open PySem PySem.Spec PyProof.Rows L2 GxR
/-! ### texts and numbers as data -/
def kD : Key → PyData
  | .inl i => .int i
  | .inr x => .str x
def kOk : Key → Prop
  | .inl _ => True
  | .inr x => PyData.strOk x = true
theorem dp_keys {K : PySem.W.Frag} {H : Hp} : ∀ ks : List Key, DpAll K H (ks.map kV) (ks.map kD)
  | [] => .nil
  | .inl i :: r => .cons (.int i) (dp_keys r)
  | .inr x :: r => .cons (.str x) (dp_keys r)
theorem lay_keys : ∀ ks : List Key, (∀ k ∈ ks, kOk k) → PyData.canLayAll0 (ks.map kD) = true ∧ PyData.depthAll (ks.map kD) = 0
  | [], _ => ⟨rfl, rfl⟩
  | k :: r, h => by
    have ih := lay_keys r fun y hy => h y (List.mem_cons_of_mem _ hy)
    have hk := h k List.mem_cons_self
    cases k with
    | inl i =>
      constructor
      · rw [List.map_cons, PyData.canLayAll0, ih.1]; rfl
      · rw [List.map_cons, PyData.depthAll, ih.2]; rfl
    | inr x =>
      constructor
      · rw [List.map_cons, PyData.canLayAll0, ih.1]
        show (PyData.canLay0 (.str x) && true) = true
        rw [PyData.canLay0, show PyData.strOk x = true from hk]; rfl
      · rw [List.map_cons, PyData.depthAll, ih.2]; rfl
theorem lay_tup {ds : List PyData} {n : Nat} (h : PyData.canLayAll0 ds = true ∧ PyData.depthAll ds ≤ n) : PyData.canLay0 (.tuple ds) = true ∧ PyData.depth (.tuple ds) ≤ n + 1 := ⟨by rw [PyData.canLay0]; exact h.1, by rw [PyData.depth]; omega⟩
theorem lay_lst {ds : List PyData} {n : Nat} (h : PyData.canLayAll0 ds = true ∧ PyData.depthAll ds ≤ n) : PyData.canLay0 (.list ds) = true ∧ PyData.depth (.list ds) ≤ n + 1 := ⟨by rw [PyData.canLay0]; exact h.1, by rw [PyData.depth]; omega⟩
theorem lay_all {n : Nat} : ∀ ds : List PyData, (∀ d ∈ ds, PyData.canLay0 d = true ∧ PyData.depth d ≤ n) → PyData.canLayAll0 ds = true ∧ PyData.depthAll ds ≤ n
  | [], _ => ⟨rfl, Nat.zero_le _⟩
  | d :: r, h => by
    have ih := lay_all r fun y hy => h y (List.mem_cons_of_mem _ hy)
    have hd := h d List.mem_cons_self
    constructor
    · rw [PyData.canLayAll0, ih.1, hd.1]; rfl
    · rw [PyData.depthAll]; omega
theorem shaped_of {d : PyData} {n : Nat} (h : PyData.canLay0 d = true ∧ PyData.depth d ≤ n) (hn : n ≤ 60) : SeqAt.shaped d = true := by
  unfold SeqAt.shaped
  rw [h.1, decide_eq_true (show d.depth ≤ 64 by omega)]; rfl
end LW
namespace LW
open PySem PySem.Spec PyProof.Rows L2 GxR
/-! ### match of a text with texts, `case _` last -/
/-- what a list of cases reads, by the text that is matched -/
structure PCs (X : Cx) (cs : List MatchCase) (t : Str → TS) : Prop where
  run : ∀ (first : Bool) (pins : List (Addr × Obj)) (s : Shared) (σ : L2.St) (H : Hp) (D : Ends) (z : Str) (u : Value), Inv X pins σ H s → RelV (.str z) u → t z D σ H → wpAny (model X.prog X.w) X.A (matchCases cs X.env u first) (SP X pins D) X.xe s
section
variable {X : Cx} {e : Expr} {te : TE} {pos p1 p2 p3 : Pos} {k : Nat} {y : Str} {body : List Stmt} {rest : List MatchCase} {t : TS} {u : Str → TS}
theorem pcs_else (hb : PSs X body t) : PCs X [⟨.MatchAs none none p1, none, body⟩] (fun _ => t) := by
  refine ⟨fun first pins s σ H D z v I rv h => ?_⟩
  refine wpAny_matchCases_cons (wpAny_matchPattern_Capture ?_)
  exact wpAny_assignInOrder_none (hb.run pins s σ H D I h)
theorem pcs_text (hb : PSs X body t) (hr : PCs X rest u) : PCs X (⟨.MatchValue (.Constant (.str y) k p2) p1, none, body⟩ :: rest) (fun z => if z = y then t else u z) := by
  refine ⟨fun first pins s σ H D z v I rv h => ?_⟩
  refine wpAny_matchCases_cons (wpAny_matchPattern_Value ?_)
  refine thn ((pe_str (X := X) (x := y)).run pins s σ H (fun w H1 => w = .str y ∧ H1 = H) I ⟨rfl, rfl⟩) fun w s1 ⟨x, H1, I1, r1, ex, eH⟩ => ?_
  subst ex; subst eH
  refine thn (op_eq pins s1 σ H1 (.str z) (.str y) v w (fun w H2 => w = .bl (decide (V.str z = V.str y)) ∧ H2 = H1) I1 rv r1 ⟨rfl, rfl, rfl⟩) fun b s2 ⟨x, H2, I2, r2, ex, eH⟩ => ?_
  subst ex; subst eH
  obtain rfl : b = .bool (decide (V.str z = V.str y)) := r2
  by_cases hz : z = y
  · rw [if_pos hz] at h
    rw [decide_eq_true (by rw [hz])]
    refine wpAny_pure ?_
    exact wpAny_assignInOrder_none (hb.run pins s2 σ H2 D I2 h)
  · rw [if_neg hz] at h
    rw [decide_eq_false (fun q => hz (by injection q))]
    refine wpAny_pure ?_
    exact hr.run false pins s2 σ H2 D z v I2 rv h
def tMatch (te : TE) (t : Str → TS) : TS := fun D σ H => te σ H fun x H1 => ∃ z, x = .str z ∧ t z D σ H1
theorem ps_match {cs : List MatchCase} (he : PE X e te) (hc : PCs X cs u) : PS X (.Match e cs pos) (tMatch te u) := by
  refine ⟨fun pins s σ H D I h => ?_⟩
  refine wpAny_Match (thn (he.run pins s σ H _ I h) fun v s1 ⟨x, H1, I1, r1, z, ez, q⟩ => ?_)
  subst ez
  exact hc.run true pins s1 σ H1 D z v I1 r1 q
end
end LW
namespace LW
open PySem PySem.Spec PyProof.Rows L2 GxR
def topS (i : Nat) : Stmt := PySem.Challenge.pw_layerwharf_k21_push_step_by_step.main.body.getD i (.Pass ⟨0, 0, 0, 0⟩)
def kinds : List Str := ["layer", "image", "bundle"]
/-- a written tuple of texts -/
def TupAt (K : PySem.W.Frag) (mg : Str → Option Value) (x : Str) (ks : List Str) : Prop := ∃ kd, mg x = some (.ref kd) ∧ ∃ (o : Obj) (its : Array Value) (n : Nat), K.lookup kd = some o ∧ o.cls = .type "tuple" ∧ o.dict = none ∧ o.data = .seq its n ∧ its.size ≤ sizeLine ∧ Vals (ks.map V.str) its.toList
structure Tx (K : PySem.W.Frag) (mg : Str → Option Value) (cP : Addr) : Prop where
  abs : mg "abs" = none
  int : mg "int" = none
  len : mg "len" = none
  list : mg "list" = none
  min : mg "min" = none
  ord : mg "ord" = none
  range : mg "range" = none
  rep : mg "repr" = none
  KINDS : TupAt K mg "KINDS" kinds
  UNDER : TupAt K mg "_UNDER_A_CLAIM" ["has", "start", "finish", "put", "name"]
  FACTOR : ∃ t, mg "_FACTOR" = some (.int 257 t)
  MODULUS : ∃ t, mg "_MODULUS" = some (.int 2305843009213693951 t)
  IMAGE : ∃ t, mg "_IMAGE" = some (.str "image" t)
  BUNDLE : ∃ t, mg "_BUNDLE" = some (.str "bundle" t)
  PART : ∃ t, mg "PART" = some (.int 4 t)
  gP : mg "Pusher" = some (.ref cP)
  clP : Cls K cP
  nlayers : NoAttr K cP "layers"
  nname : NoAttr K cP "name"
  nplatform : NoAttr K cP "platform"
  nnumber : NoAttr K cP "number"
  ndone : NoAttr K cP "done"
  n_addresses : NoAttr K cP "_addresses"
  n_index : NoAttr K cP "_index"
  n_claim : NoAttr K cP "_claim"
  n_upload : NoAttr K cP "_upload"
  n_request : NoAttr K cP "_request"
end LW
namespace LW
open PySem PySem.Spec PyProof.Rows L2 GxR
abbrev s_text_of : Stmt := topS 10
abbrev N_text_of : List Str := ["word", "lines", "line"]
abbrev P_text_of : List Str := ["word", "lines"]
theorem sc_text_of : FnScope N_text_of P_text_of (defScope s_text_of) := ⟨rfl, rfl, rfl, by decide +kernel, rfl, by decide +kernel, by decide +kernel⟩
def spTextOf (K : PySem.W.Frag) : Sp := fun vs H Q _ => ∃ (w0 : Str) (l : Addr) (ls : List Str), vs = [.str w0, .ref l] ∧ SqL K H l (ls.map V.str) ∧ ls.length ≤ 100 ∧ (∀ x ∈ w0 :: ls, x.length ≤ 1000) ∧ ∀ H', Same H H' → Q (.str (textOf (w0 :: ls))) H'
abbrev s_image_text : Stmt := topS 8
abbrev N_image_text : List Str := ["layers"]
abbrev P_image_text : List Str := ["layers"]
theorem sc_image_text : FnScope N_image_text P_image_text (defScope s_image_text) := ⟨rfl, rfl, rfl, by decide +kernel, rfl, by decide +kernel, by decide +kernel⟩
def spImage (K : PySem.W.Frag) : Sp := fun vs H Q _ => ∃ (l : Addr) (ls : List Str), vs = [.ref l] ∧ SqL K H l (ls.map V.str) ∧ ls.length ≤ 100 ∧ (∀ x ∈ ls, x.length ≤ 1000) ∧ ∀ H', Same H H' → Q (.str (textOf (word false :: ls))) H'
abbrev s_bundle_text : Stmt := topS 9
abbrev N_bundle_text : List Str := ["entries", "platform", "address"]
abbrev P_bundle_text : List Str := ["entries"]
theorem sc_bundle_text : FnScope N_bundle_text P_bundle_text (defScope s_bundle_text) := ⟨rfl, rfl, rfl, by decide +kernel, rfl, by decide +kernel, by decide +kernel⟩
/-- a list of pairs -/
def Prs (K : PySem.W.Frag) (H : Hp) (ts : List V) (es : List (Str × Str)) : Prop := Paired (fun (v : V) (p : Str × Str) => ∃ t, v = .ref t ∧ H t = some (.tup [.str p.1, .str p.2])) ts es
theorem Prs.mono {K : PySem.W.Frag} {H H' : Hp} {ts : List V} {es : List (Str × Str)} (h : Prs K H ts es) (g : Gr H H') : Prs K H' ts es := by
  induction h with
  | nil => exact .nil
  | cons r _ ih =>
    obtain ⟨t, e, ht⟩ := r
    exact .cons ⟨t, e, g.tup ht⟩ ih
def spBundle (K : PySem.W.Frag) : Sp := fun vs H Q _ => ∃ (l : Addr) (ts : List V) (es : List (Str × Str)), vs = [.ref l] ∧ SqL K H l ts ∧ Prs K H ts es ∧ es.length ≤ 100 ∧ (∀ x ∈ es, x.1.length ≤ 100 ∧ x.2.length ≤ 100) ∧ ∀ H', Same H H' → Q (.str (textOf (word true :: es.map ent))) H'
theorem tl_one (x : Str) : Str.empty ++ x = x := by
  apply TL.ext_tl
  rw [TL.tl_append]
  rfl
theorem app_len (x y : Str) : (x ++ y).length = x.length + y.length := by rw [TL.len_tl, TL.len_tl, TL.len_tl, TL.tl_append, List.length_append]
section
variable {P : Program} {w : World} {K : PySem.W.Frag} {mg : Str → Option Value} {base : Heap} {cP : Addr}
theorem ok_text_of {f : Addr} {fd : FuncData} (F : Fun K "_text_of" "_text_of" s_text_of f fd) : FnOk P w K mg base CX0 1 f fd P_text_of (spTextOf K) := by
  refine F.ok sc_text_of (fun vs H Q E h => ?_) (fun cdv A outer s H vs Q E hr h => ?_)
  · obtain ⟨w0, l, ls, rfl, _⟩ := h
    rfl
  · obtain ⟨w0, l, ls, rfl, hS, hl, hw, q⟩ := h
    have nd := sc_text_of.nd
    refine ⟨_, pss_one (ps_ret (pe_join pe_str (pe_lc (own := [("line", 2)]) (g := gName 2) (tt := tYes) rfl nd (pi_list (pe_lst (pa_cons (pv 0) (StX.pa_star (pv 1) pa_nil)))) (blkOk_by (N := N_text_of) (sc := defScope s_text_of) (by decide +kernel)) (fun _ _ _ _ _ => (pg_name (i := 2) nd rfl (Or.inl rfl))) (fun _ _ _ _ _ => pts_nil) (fun _ _ _ _ _ => (pe_joined (PJ.cons (pe_fmt (pv 2)) (PJ.cons pe_str PJ.nil))))))), ?_⟩
    have es : V.str w0 :: (ls.map V.str ++ []) = (w0 :: ls).map V.str := by rw [List.append_nil]; rfl
    refine ⟨⟨_, rfl⟩, .str w0, rfl, .ref l, rfl, l, _, rfl, .inr hS, ?_⟩
    refine ⟨?_, fun p np => ?_⟩
    · show (V.str w0 :: (ls.map V.str ++ [])).length ≤ sizeLine
      rw [es, List.length_map, List.length_cons, sizeLine_eq]; omega
    have sm1 : Same H (upd H p (.lst (V.str w0 :: (ls.map V.str ++ [])))) := same_upd np
    refine ⟨p, rfl, ⟨_, SqL.of upd_same⟩, fun D nD => lc_map (walk_list (K := K) (a := p) (xs := V.str w0 :: (ls.map V.str ++ []))) (vs := [2]) (te := fun σ H Q => tJs [tFmt (tVar 2), tC (.str "\n")] Str.empty σ H fun out H1 => Q (.str out) H1) (fun i => .str (lin ((w0 :: ls).getD i ""))) ?_ ?_ (fun _ => rfl) ?_ ?_⟩
    · rw [es, List.length_map, List.length_cons]; omega
    · intro H2 hb
      exact hb.list nD (SqL.of upd_same)
    · rintro i x H2 H3 hi hb ⟨rfl, hx⟩
      rw [es, List.getElem?_map] at hx
      cases e : (w0 :: ls)[i]? with
      | none => rw [e] at hx; cases hx
      | some z =>
        rw [e] at hx
        cases hx
        have e9 : (w0 :: ls).getD i "" = z := by rw [List.getD_eq_getElem?_getD, e]; rfl
        have hz : z.length ≤ 1000 := hw z (List.mem_of_getElem? e)
        refine ⟨rfl, fun Q2 kk => ⟨_, rfl, .inl ⟨z, rfl, by rw [sizeLine_eq]; omega, _, rfl, ?_, _, rfl, ?_, ?_⟩⟩⟩
        · rw [tl_one, sizeLine_eq]; omega
        · rw [app_len, tl_one, sizeLine_eq]
          have : (Str.ofString "\n").length = 1 := by decide +kernel
          omega
        · rw [e9] at kk
          exact kk
    · have et : ((List.range (V.str w0 :: (ls.map V.str ++ [])).length).map fun i => V.str (lin ((w0 :: ls).getD i ""))) = ((w0 :: ls).map lin).map V.str := by
        rw [es, List.length_map, range_map_get (fun z : Str => V.str (lin z)) ("" : Str) (w0 :: ls), List.map_map]
        rfl
      rw [et]
      refine ⟨_, D, (w0 :: ls).map lin, rfl, rfl, .inl (SqL.of upd_same), ?_, ?_⟩
      · have := sum_le (fun l : Str => l.length) 1001 ((w0 :: ls).map lin) fun x hx => by
          obtain ⟨y, hy, rfl⟩ := List.mem_map.mp hx
          rw [lin_len]
          have := hw y hy
          omega
        have z : (Str.ofString "").length = 0 := by decide +kernel
        rw [z, Nat.mul_zero, Nat.add_zero]
        refine Nat.le_trans this ?_
        rw [List.length_map, List.length_cons]
        omega
      · exact q _ (sm1.trans (same_upd nD))
theorem ok_image_text {f fT : Addr} {fd dT : FuncData} (F : Fun K "image_text" "image_text" s_image_text f fd) (T : Tx K mg cP) (DT : DefAt K mg "_text_of" s_text_of P_text_of fT dT) : FnOk P w K mg base CX0 2 f fd P_image_text (spImage K) := by
  have GT : FnOk P w K mg base CX0 1 fT dT P_text_of (spTextOf K) := ok_text_of DT.fn
  refine F.ok sc_image_text (fun vs H Q E h => ?_) (fun cdv A outer s H vs Q E hr h => ?_)
  · obtain ⟨l, ls, rfl, _⟩ := h
    rfl
  · obtain ⟨l, ls, rfl, hS, hl, hw, q⟩ := h
    obtain ⟨ti, cI⟩ := T.IMAGE
    refine ⟨_, pss_one (ps_ret (pe_call GT hr rfl DT.at_ DT.fn.kp DT.bd .nil pass0 (pa_cons (pe_glob (v := .str "image") (by rfl) cI ⟨_, rfl⟩) (pa_cons (pv 0) pa_nil)))), ?_⟩
    refine ⟨_, rfl, "image", l, ls, rfl, hS, hl, fun x hx => ?_, q⟩
    rcases List.mem_cons.mp hx with h | h
    · rw [h]; decide +kernel
    · exact hw x h
theorem Prs.get {H : Hp} {ts : List V} {es : List (Str × Str)} (h : Prs K H ts es) : ∀ {i : Nat} {v : V}, ts[i]? = some v → ∃ p t, es[i]? = some p ∧ v = .ref t ∧ H t = some (.tup [.str p.1, .str p.2]) := by
  induction h with
  | nil => intro i v h; cases h
  | @cons v0 p0 _ _ r _ ih =>
    intro i v h
    cases i with
    | zero =>
      cases h
      obtain ⟨t, e, ht⟩ := r
      exact ⟨p0, t, rfl, e, ht⟩
    | succ i => exact ih h
theorem Prs.len {H : Hp} {ts : List V} {es : List (Str × Str)} (h : Prs K H ts es) : ts.length = es.length := by
  induction h with
  | nil => rfl
  | cons _ _ ih => simp [ih]
theorem ok_bundle_text {f fT : Addr} {fd dT : FuncData} (F : Fun K "bundle_text" "bundle_text" s_bundle_text f fd) (T : Tx K mg cP) (DT : DefAt K mg "_text_of" s_text_of P_text_of fT dT) : FnOk P w K mg base CX0 2 f fd P_bundle_text (spBundle K) := by
  have GT : FnOk P w K mg base CX0 1 fT dT P_text_of (spTextOf K) := ok_text_of DT.fn
  refine F.ok sc_bundle_text (fun vs H Q E h => ?_) (fun cdv A outer s H vs Q E hr h => ?_)
  · obtain ⟨l, ts, es, rfl, _⟩ := h
    rfl
  · obtain ⟨l, ts, es, rfl, hS, hP, hl, hw, q⟩ := h
    have nd := sc_bundle_text.nd
    obtain ⟨ti, cI⟩ := T.BUNDLE
    refine ⟨_, pss_one (ps_ret (pe_call GT hr rfl DT.at_ DT.fn.kp DT.bd .nil pass0 (pa_cons (pe_glob (v := .str "bundle") (by rfl) cI ⟨_, rfl⟩) (pa_cons (pe_lc (own := [("platform", 1), ("address", 2)]) (g := gTup K 2 (gCons (gName 1) (gCons (gName 2) gNil))) (tt := tYes) rfl nd (pi_list (pv 0)) (blkOk_by (N := N_bundle_text) (sc := defScope s_bundle_text) (by decide +kernel)) (fun _ _ _ _ _ => (pg_tup rfl (pgs_cons (pg_name (i := 1) nd rfl (Or.inl rfl)) (pgs_cons (pg_name (i := 2) nd rfl (Or.inl rfl)) pgs_nil)))) (fun _ _ _ _ _ => pts_nil) (fun _ _ _ _ _ => (pe_joined (PJ.cons (pe_fmt (pv 1)) (PJ.cons pe_str (PJ.cons (pe_fmt (pv 2)) PJ.nil)))))) pa_nil)))), ?_⟩
    have ln := hP.len
    refine ⟨.ref l, rfl, l, rfl, ⟨_, hS⟩, fun D nD => lc_pair (walk_list (K := K) (a := l) (xs := ts)) (vs := [1, 2]) (te := fun σ H Q => tJs [tFmt (tVar 1), tC (.str " "), tFmt (tVar 2)] Str.empty σ H fun out H1 => Q (.str out) H1) (fun i => .str (ent (es.getD i ("", "")))) ?_ ?_ (fun _ _ => rfl) ?_ ?_⟩
    · omega
    · intro H2 hb
      exact hb.list nD hS
    · rintro i x H2 H3 hi hb ⟨rfl, hx⟩
      obtain ⟨p, t, ep, rfl, ht⟩ := hP.get hx
      have e9 : es.getD i ("", "") = p := by rw [List.getD_eq_getElem?_getD, ep]; rfl
      have hp := hw p (List.mem_of_getElem? ep)
      have z : (Str.ofString " ").length = 1 := by decide +kernel
      refine ⟨t, .str p.1, .str p.2, rfl, rfl, SqT.of ((hb.same nD) _ _ ht), fun Q2 kk => ⟨_, rfl, .inl ⟨p.1, rfl, by rw [sizeLine_eq]; omega, _, rfl, ?_, _, rfl, ?_, _, rfl, .inl ⟨p.2, rfl, by rw [sizeLine_eq]; omega, _, rfl, ?_, ?_⟩⟩⟩⟩
      · rw [tl_one, sizeLine_eq]; omega
      · rw [app_len, tl_one, sizeLine_eq]; omega
      · rw [app_len, app_len, tl_one, sizeLine_eq]; omega
      · rw [e9] at kk
        exact kk
    · have et : ((List.range ts.length).map fun i => V.str (ent (es.getD i ("", "")))) = (es.map ent).map V.str := by
        rw [ln, range_map_get (fun z : Str × Str => V.str (ent z)) (("" : Str), ("" : Str)) es, List.map_map]
        rfl
      rw [et]
      refine ⟨"bundle", D, es.map ent, rfl, SqL.of upd_same, by rw [List.length_map]; exact hl, fun x hx => ?_, fun H' sm => q H' ((same_upd nD).trans sm)⟩
      rcases List.mem_cons.mp hx with h | h
      · rw [h]; decide +kernel
      · obtain ⟨y, hy, rfl⟩ := List.mem_map.mp h
        have hp := hw y hy
        have z : sp.length = 1 := by decide +kernel
        unfold ent
        rw [app_len, app_len, tl_one]
        omega
end
def stepN (n c : Nat) : Nat := (n * 257 + c + 1) % 2305843009213693951
def addrNum (j : Nat) (l : List Nat) : Nat := l.foldl stepN (j + 1)
theorem addrNum_lt {j : Nat} (h : j < 3) : ∀ l, addrNum j l < 16 ^ 16 := by
  intro l
  unfold addrNum
  have : ∀ (l : List Nat) (n : Nat), n < 2305843009213693951 → l.foldl stepN n < 2305843009213693951 := by
    intro l
    induction l with
    | nil => intro n h; exact h
    | cons c r ih => intro n h; exact ih _ (Nat.mod_lt _ (by decide))
  exact Nat.lt_trans (this l (j + 1) (by omega)) (by decide)
theorem stepN_int (n c : Nat) : ((n : Int) * 257 + (c : Int) + 1) % 2305843009213693951 = ((stepN n c : Nat) : Int) := by
  unfold stepN
  omega
theorem fold_take {α β : Type} (g : β → α → β) (b : β) (l : List α) (i : Nat) (c : α) (h : l[i]? = some c) : (l.take (i + 1)).foldl g b = g ((l.take i).foldl g b) c := by
  rw [List.take_add_one, h, List.foldl_append]
  rfl
theorem isAddr_hexS (n : Nat) : isAddr (hexS n) = true := by
  unfold isAddr
  rw [Bool.and_eq_true]
  refine ⟨decide_eq_true (hexS_len n), List.all_eq_true.mpr fun c h => decide_eq_true (hx_mem 16 n c ?_)⟩
  simpa [hexS] using h
abbrev s_address_of : Stmt := topS 4
abbrev N_address_of : List Str := ["kind", "text", "number", "character"]
abbrev P_address_of : List Str := ["kind", "text"]
theorem sc_address_of : FnScope N_address_of P_address_of (defScope s_address_of) := ⟨rfl, rfl, rfl, by decide +kernel, rfl, by decide +kernel, by decide +kernel⟩
def spAddr : Sp := fun vs H Q _ => ∃ (k t : Str) (j : Nat), vs = [.str k, .str t] ∧ kinds[j]? = some k ∧ j < 3 ∧ Q (.str (hexS (addrNum j t.cps.toList))) H
theorem kinds_first {j : Nat} {k : Str} (h : kinds[j]? = some k) : ∀ m, m < j → kinds[m]? ≠ some k := by
  have key : ∀ j : Fin 3, ∀ m : Fin 3, m.val < j.val → kinds[m.val]? ≠ kinds[j.val]? := by decide +kernel
  have hj : j < 3 := by
    have := (List.getElem?_eq_some_iff.mp h).1
    simpa [kinds] using this
  intro m hm
  have := key ⟨j, hj⟩ ⟨m, by omega⟩ hm
  rw [← h]
  exact this
section
variable {P : Program} {w : World} {K : PySem.W.Frag} {mg : Str → Option Value} {base : Heap} {cP : Addr}
theorem ok_address_of {f : Addr} {fd : FuncData} (F : Fun K "address_of" "address_of" s_address_of f fd) (T : Tx K mg cP) : FnOk P w K mg base CX0 1 f fd P_address_of spAddr := by
  refine F.ok sc_address_of (fun vs H Q E h => ?_) (fun cdv A outer s H vs Q E hr h => ?_)
  · obtain ⟨k, t, j, rfl, _⟩ := h
    rfl
  · obtain ⟨k, t, j, rfl, hj, j3, q⟩ := h
    have nd := sc_address_of.nd
    obtain ⟨kd, cKD, kdo⟩ := T.KINDS
    obtain ⟨tf, cF⟩ := T.FACTOR
    obtain ⟨tm, cM⟩ := T.MODULUS
    refine ⟨_, pss_cons (ps_set (i := 2) nd rfl (.inl rfl) (pe_op op_add (pe_bm PySem.F.plainAttrs_tuple PySem.F.slot_tuple_index PySem.F.type_tuple_index mt_tup_index (pe_glob (v := .ref kd) (by rfl) cKD rfl) (pa_cons (pv 0) pa_nil)) pe_int))
  (pss_cons (ps_for PassesOwn.never rfl (pi_str (pv 1)) (pg_name (i := 3) nd rfl (.inl rfl))
    (pss_one (ps_set (i := 2) nd rfl (.inl rfl) (pe_op op_mod (pe_op op_add (pe_op op_add (pe_op op_mul (pv 2) (pe_glob (v := .int 257) (by rfl) cF ⟨_, rfl⟩)) (pe_callB call_ord (by rfl) T.ord (by decide +kernel) (pa_cons (pv 3) pa_nil))) pe_int) (pe_glob (v := .int 2305843009213693951) (by rfl) cM ⟨_, rfl⟩)))))
  (pss_one (ps_ret (pe_joined1 (pe_hex (pv 2)))))), ?_⟩
    refine ⟨?_, .str k, rfl, kd, kinds, k, j, rfl, rfl, (by obtain ⟨o, its, n, h1, h2, _, h4, h5, h6⟩ := kdo; exact .inr ⟨o, its, n, h1, h2, h4, h5, h6⟩), hj, kinds_first hj, _, _, rfl, rfl, ?_⟩
    · obtain ⟨o, its, n, h1, h2, h3, _⟩ := kdo
      exact .inr (.inl ⟨rfl, o, h1, h2, h3⟩)
    refine ⟨.str t, rfl, t, rfl, ?_⟩
    refine for_it walk_str (fun i σ H' => H' = H ∧ ∃ v, σ = [some (.str k), some (.str t), some (.int (addrNum j (t.cps.toList.take i) : Nat)), v]) ⟨rfl, none, ?_⟩ (fun _ _ _ _ _ => True.intro) ?_ ?_
    · rfl
    · rintro i x σ H1 H2 hi ⟨rfl, v, rfl⟩ ⟨rfl, c, hc, rfl⟩
      refine ⟨_, rfl, _, _, rfl, rfl, .inr ⟨by decide, by decide⟩, _, rfl, ⟨#[c]⟩, rfl, rfl, _, _, rfl, rfl, _, _, rfl, rfl, _, _, rfl, rfl, ?_, rfl, some (.str ⟨#[c]⟩), ?_⟩
      · show (0 : Int) < 2305843009213693951
        decide
      · have hc' : t.cps.toList[i]? = some c := by rw [Array.getElem?_toList]; exact hc
        unfold addrNum
        rw [fold_take stepN _ _ _ _ hc', ← stepN_int]
        rfl
    · rintro σ H1 ⟨rfl, v, rfl⟩
      have e : t.cps.toList.take t.cps.size = t.cps.toList := List.take_of_length_le (by simp)
      rw [e]
      exact ⟨_, rfl, _, rfl, addrNum_lt j3 _, q⟩
end
end LW
namespace LW
open PySem PySem.Spec PyProof.Rows L2 GxR
abbrev s_law_state : Stmt := topS 16
abbrev N_law_state : List Str := ["script", "cells", "cell"]
abbrev P_law_state : List Str := ["script"]
theorem sc_law_state : FnScope N_law_state P_law_state (defScope s_law_state) := ⟨rfl, rfl, rfl, by decide +kernel, rfl, by decide +kernel, by decide +kernel⟩
abbrev s_law_take : Stmt := topS 17
abbrev N_law_take : List Str := ["state", "most", "cells", "at", "cell", "mixed"]
abbrev P_law_take : List Str := ["state", "most"]
theorem sc_law_take : FnScope N_law_take P_law_take (defScope s_law_take) := ⟨rfl, rfl, rfl, by decide +kernel, rfl, by decide +kernel, by decide +kernel⟩
section
variable {P : Program} {w : World} {K : PySem.W.Frag} {mg : Str → Option Value} {base : Heap} {cP : Addr}
theorem ok_state {f : Addr} {fd : FuncData} (F : Fun K "_law_state" "_law_state" s_law_state f fd) (T : Tx K mg cP) : FnOk P w K mg base CX0 1 f fd P_law_state (spState K) := by
  refine F.ok sc_law_state (fun vs H Q E h => ?_) (fun cdv A outer s H vs Q E hr h => ?_)
  · obtain ⟨l, ns, rfl, _⟩ := h
    rfl
  · obtain ⟨l, ns, rfl, hS, hl, q⟩ := h
    have nd := sc_law_state.nd
    refine ⟨_, pss_cons (ps_setLc (i := 1) (own := [("cell", 2)]) (g := gName 2) (tt := tYes) rfl nd rfl rfl (sw_true rfl rfl rfl (by decide +kernel)) (pi_list (pe_slice sl_list (pv 0) po_none (po_some pe_int))) (blkOk_by (N := N_law_state) (sc := defScope s_law_state) (by decide +kernel)) (fun _ _ _ _ _ => (pg_name (i := 2) nd rfl (Or.inl rfl))) (fun _ _ _ _ _ => pts_nil) (fun _ _ _ _ _ => (pe_callB call_abs (by rfl) T.abs (by decide +kernel) (pa_cons (pv 2) pa_nil))))
  (pss_cons (ps_if (pt_cmpR op_eq (pe_callB call_len_seq (by rfl) T.len (by decide +kernel) (pa_cons (pv 1) pa_nil)) pe_int (nomark _))
    (pss_one (ps_set (i := 1) nd rfl (.inl rfl) (pe_lst (pa_cons pe_int pa_nil))))
    (pss_nil))
  (pss_one (ps_ret (pe_lst (pa_cons pe_int (pa_cons (pv 1) pa_nil)))))), ?_⟩
    obtain ⟨zs, ez, lz, _⟩ := cutV_map V.int ns none (some 63)
    refine ⟨.ref l, rfl, 63, rfl, l, _, rfl, hS, fun p np => ?_⟩
    rw [ez]
    have s1 : Same H (upd H p (.lst (zs.map V.int))) := same_upd np
    refine ⟨p, rfl, ⟨_, SqL.of upd_same⟩, fun D nD => lc_map (walk_list (K := K) (a := p) (xs := zs.map V.int)) (σ := [some (.ref l), none, none]) (vs := [2])
      (fun i => .int (if zs.getD i 0 < 0 then -zs.getD i 0 else zs.getD i 0)) ?_ ?_ (fun _ => rfl) ?_ ?_⟩
    · rw [List.length_map]
      exact Nat.lt_of_le_of_lt (Nat.le_trans lz hl) (by decide)
    · intro H2 hb
      exact hb.list nD (SqL.of upd_same)
    · rintro i x H2 H3 hi hb ⟨rfl, hx⟩
      rw [List.getElem?_map] at hx
      cases e : zs[i]? with
      | none => rw [e] at hx; cases hx
      | some z =>
        rw [e] at hx
        cases hx
        refine ⟨rfl, fun Q2 k => ⟨_, rfl, z, rfl, ?_⟩⟩
        have : zs.getD i 0 = z := by rw [List.getD_eq_getElem?_getD, e]; rfl
        rw [this] at k
        exact k
    · rw [List.length_map]
      have em : ((List.range zs.length).map fun i => V.int (if zs.getD i 0 < 0 then -zs.getD i 0 else zs.getD i 0)) = (zs.map fun z => if z < 0 then -z else z).map V.int := by
        rw [range_map_get (fun z : Int => V.int (if z < 0 then -z else z)) 0 zs, List.map_map]
        rfl
      rw [em]
      have s2 : Same H (upd (upd H p (.lst (zs.map V.int))) D (.lst ((zs.map fun z => if z < 0 then -z else z).map V.int))) := s1.trans (same_upd nD)
      have fin : ∀ (c : Addr) (cs : List Int) (H2 : Hp), Same H H2 → H c = none → H2 c = some (.lst (cs.map V.int)) → 0 < cs.length → cs.length ≤ 63 → (∀ z ∈ cs, 0 ≤ z) →
          ∀ x, H2 x = none → Q (.ref x) (upd H2 x (.lst [.int 0, .ref c])) := by
        intro c cs H2 sm nc hc h0 h63 hnn x nx
        have ncx : c ≠ x := ne_of_none hc nx
        refine q x c _ (sm.free nx) nc (sm.trans (same_upd nx)) ⟨0, cs, upd_same, ?_, ncx.symm, h0, h63, hnn, by omega⟩
        rw [upd_ne ncx]
        exact hc
      refine ⟨_, rfl, D, _, rfl, .inl (SqL.of upd_same), rfl, _, rfl, ite2 (fun e => ?_) (fun e => ?_)⟩
      · refine ⟨by show 1 ≤ sizeLine; decide, fun c nc => ?_⟩
        refine ⟨_, rfl, by show 2 ≤ sizeLine; decide, ?_⟩
        exact fin c [0] _ (s2.trans (same_upd nc)) (s2.free nc) upd_same (by decide) (by decide) (by decide)
      · refine ⟨_, rfl, by show 2 ≤ sizeLine; decide, ?_⟩
        refine fin D (zs.map fun z => if z < 0 then -z else z) _ s2 (s1.free nD) upd_same ?_ ?_ ?_
        · have e' := of_decide_eq_false (eq_false_of_ne_true e)
          rw [List.length_map]
          rw [List.length_map, List.length_map] at e'
          rcases Nat.eq_zero_or_pos zs.length with h | h
          · exact absurd (by rw [h]; rfl) e'
          · exact h
        · rw [List.length_map]
          omega
        · intro z hz
          obtain ⟨y, _, rfl⟩ := List.mem_map.mp hz
          split <;> omega
theorem ok_take {f : Addr} {fd : FuncData} (F : Fun K "_law_take" "_law_take" s_law_take f fd) (z_len : mg "len" = none) (z_int : mg "int" = none) : FnOk P w K mg base CX0 1 f fd P_law_take spTake := by
  refine F.ok sc_law_take (fun vs H Q E h => ?_) (fun cdv A outer s H vs Q E hr h => ?_)
  · obtain ⟨a, c, m, rfl, _⟩ := h
    rfl
  · obtain ⟨a, c, m, rfl, ⟨n, cs, ha, hc, hac, h0, h63, hnn, hn⟩, hm1, hm2, q⟩ := h
    have nd := sc_law_take.nd
    refine ⟨_, pss_cons (ps_set (i := 2) nd rfl (.inl rfl) (pe_ix ix_list (pv 0) pe_int (fun _ _ => rfl)))
  (pss_cons (ps_set (i := 3) nd rfl (.inl rfl) (pe_op op_mod (pe_ix ix_list (pv 0) pe_int (fun _ _ => rfl)) (pe_callB call_len_seq (by rfl) z_len (by decide +kernel) (pa_cons (pv 2) pa_nil))))
  (pss_cons (ps_set (i := 4) nd rfl (.inl rfl) (pe_ix ix_list (pv 2) (pv 3) (fun _ _ => rfl)))
  (pss_cons (ps_if (pt_cmpR op_ge (pv 4) pe_int (nomark _))
    (pss_cons (ps_asg (pe_op op_fdiv (pv 4) (pv 1)) (pg_sub (pv 2) (pv 3) set_list))
  (pss_one (ps_ret (pe_op op_mod (pv 4) (pv 1)))))
    (pss_nil))
  (pss_cons (ps_asg (pe_op op_add (pe_ix ix_list (pv 0) pe_int (fun _ _ => rfl)) pe_int) (pg_sub (pv 0) pe_int set_list))
  (pss_cons (ps_set (i := 5) nd rfl (.inl rfl) (pe_op op_mod (pe_callTy call_int1 (by rfl) z_int (by decide +kernel) (pa_cons (pe_op op_add (pe_op op_mul (pv 4) pe_int) (pe_op op_mul (pe_ix ix_list (pv 0) pe_int (fun _ _ => rfl)) pe_int)) pa_nil)) pe_int))
  (pss_cons (ps_set (i := 5) nd rfl (.inl rfl) (pe_op op_mod (pe_callTy call_int1 (by rfl) z_int (by decide +kernel) (pa_cons (pe_op op_add (pe_op op_mul (pv 5) pe_int) (pe_op op_mul (pe_ix ix_list (pv 0) pe_int (fun _ _ => rfl)) pe_int)) pa_nil)) pe_int))
  (pss_one (ps_ret (pe_op op_mod (pe_op op_fdiv (pv 5) pe_int) (pv 1)))))))))), ?_⟩
    have hA : SqL K H a [.int n, .ref c] := SqL.of ha
    have hC : SqL K H c (cs.map V.int) := SqL.of hc
    have hl : (0 : Int) < (((cs.map V.int).length : Nat) : Int) := by rw [List.length_map]; omega
    have e0 : 0 ≤ n % ((cs.map V.int).length : Int) := Int.emod_nonneg _ (by omega)
    have e1 : n % ((cs.map V.int).length : Int) < ((cs.map V.int).length : Int) := Int.emod_lt_of_pos _ hl
    obtain ⟨j, hj⟩ : ∃ j : Nat, n % ((cs.map V.int).length : Int) = (j : Int) := ⟨_, (Int.toNat_of_nonneg e0).symm⟩
    have hjl : j < cs.length := by rw [List.length_map] at e1; rw [List.length_map] at hj; omega
    have gz : (cs.map V.int)[j]? = some (.int cs[j]) := by rw [List.getElem?_map, List.getElem?_eq_getElem hjl]; rfl
    have hz0 : 0 ≤ cs[j] := hnn _ (List.getElem_mem hjl)
    -- cells = state[1]; at = state[0] % len(cells); cell = cells[at]
    refine ⟨.ref a, rfl, a, _, 1, _, rfl, rfl, hA, at2_1, ?_⟩
    refine ⟨.ref a, rfl, a, _, 0, _, rfl, rfl, hA, at2_0, .ref c, rfl, c, _, rfl, .inl hC, _, _, rfl, rfl, hl, ?_⟩
    refine ⟨.ref c, rfl, _, rfl, c, _, _, .int cs[j], rfl, rfl, hC, by rw [hj]; exact atI_nat gz, ?_⟩
    -- if cell >= ..
    refine ⟨_, rfl, _, _, rfl, rfl, _, rfl, ite2 (fun _ => ?_) (fun _ => ?_)⟩
    · refine ⟨_, rfl, _, rfl, cs[j], m, rfl, rfl, ⟨by omega, by omega⟩, .ref c, rfl, _, rfl, c, _, _, j, rfl, rfl, hc, ?_, ?_⟩
      · unfold ixN
        rw [hj, List.length_map, if_pos (by omega), if_pos (by omega)]
        rfl
      · refine ⟨_, rfl, _, rfl, cs[j], m, rfl, rfl, by omega, ?_⟩
        refine q _ _ (Int.emod_nonneg _ (by omega)) (Int.emod_lt_of_pos _ (by omega)) (fun b _ hb => upd_ne hb) ⟨n, cs.set j (cs[j] / m), ?_, ?_, hac, by rw [List.length_set]; exact h0, by rw [List.length_set]; exact h63, ?_, hn⟩
        · rw [upd_ne hac]; exact ha
        · rw [upd_same, List.map_set]
        · intro z hz
          rcases List.mem_or_eq_of_mem_set hz with h | h
          · exact hnn z h
          · rw [h]; exact Int.ediv_nonneg hz0 (by omega)
    · refine ⟨.ref a, rfl, a, _, 0, _, rfl, rfl, hA, at2_0, n, 1, rfl, rfl, .ref a, rfl, a, _, 0, 0, rfl, rfl, ha, rfl, ?_⟩
      have ha' : (upd H a (.lst [.int (n + 1), .ref c])) a = some (.lst [.int (n + 1), .ref c]) := upd_same
      have hA' : SqL K (upd H a (.lst [.int (n + 1), .ref c])) a [.int (n + 1), .ref c] := SqL.of ha'
      refine ⟨_, rfl, cs[j], _, rfl, rfl, .inr ⟨by decide, by decide⟩, .ref a, rfl, a, _, 0, _, rfl, rfl, hA', at2_0, _, _, rfl, rfl, .inr ⟨by decide, by decide⟩, _, _, rfl, rfl, .inl ⟨_, rfl, ?_⟩⟩
      refine ⟨_, _, rfl, rfl, by show (0 : Int) < 2147483647; decide, ?_⟩
      refine ⟨_, rfl, _, _, rfl, rfl, .inr ⟨by decide, by decide⟩, .ref a, rfl, a, _, 0, _, rfl, rfl, hA', at2_0, _, _, rfl, rfl, .inr ⟨by decide, by decide⟩, _, _, rfl, rfl, .inl ⟨_, rfl, ?_⟩⟩
      refine ⟨_, _, rfl, rfl, by show (0 : Int) < 1000000007; decide, ?_⟩
      refine ⟨_, rfl, _, _, rfl, rfl, ⟨by decide, by decide⟩, _, rfl, _, m, rfl, rfl, by omega, ?_⟩
      refine q _ _ (Int.emod_nonneg _ (by omega)) (Int.emod_lt_of_pos _ (by omega)) (fun b hb _ => upd_ne hb) ⟨n + 1, cs, ha', ?_, hac, h0, h63, hnn, by omega⟩
      rw [upd_ne (Ne.symm hac)]
      exact hc
end
abbrev s_law_text : Stmt := topS 19
abbrev N_law_text : List Str := ["state", "most", "k"]
abbrev P_law_text : List Str := ["state", "most"]
theorem sc_law_text : FnScope N_law_text P_law_text (defScope s_law_text) := ⟨rfl, rfl, rfl, by decide +kernel, rfl, by decide +kernel, by decide +kernel⟩
section
variable {P : Program} {w : World} {K : PySem.W.Frag} {mg : Str → Option Value} {base : Heap} {cP : Addr}
theorem ok_law_text {f : Addr} {fd : FuncData} (F : Fun K "_law_text" "_law_text" s_law_text f fd) (T : Tx K mg cP)
    (C__law_take : Cal P w K mg base CX0 1 "_law_take" P_law_take spTake) : FnOk P w K mg base CX0 2 f fd P_law_text spText := by
  refine F.ok sc_law_text (fun vs H Q E h => ?_) (fun cdv A outer s H vs Q E hr h => ?_)
  · obtain ⟨_, _, _, rfl, _⟩ := h
    rfl
  · obtain ⟨a, c, m, rfl, s0, hm, q⟩ := h
    have nd := sc_law_text.nd
    refine ⟨_, pss_one (ps_ret (pe_join pe_str (pe_lc (own := [("k", 2)]) (g := gName 2) (tt := tYes) rfl nd (pi_range1 (by rfl) T.range (pa_cons (pe_cal C__law_take hr (pa_cons (pv 0) (pa_cons (pe_op op_add (pv 1) pe_int) pa_nil))) pa_nil)) (blkOk_by (N := N_law_text) (sc := defScope s_law_text) (by decide +kernel)) (fun _ _ _ _ _ => (pg_name (i := 2) nd rfl (Or.inl rfl))) (fun _ _ _ _ _ => pts_nil) (fun _ _ _ _ _ => (pe_ix ix_str pe_str (pe_cal C__law_take hr (pa_cons (pv 0) (pa_cons pe_int pa_nil))) (fun _ _ => rfl)))))), ?_⟩
    refine ⟨⟨_, rfl⟩, .ref a, rfl, _, rfl, _, _, rfl, rfl, a, c, (m : Int) + 1, rfl, s0, by omega, by omega, fun v H1 v0 v1 e1 s1 => ?_⟩
    obtain ⟨n, rfl, hn⟩ := nat_of v0 v1
    refine ⟨_, rfl, by omega, by omega, fun D nD => ?_⟩
    have nDa := s1.ne nD
    have nD0 := (Mv.take s0 s1 e1).free D nD
    show ∃ W : Nat → Nat → Hp → Prop, _
    refine lc_range (lo := 0) (n := n) (fun i H' => ∃ xs : List Nat, xs.length = i ∧ (∀ z ∈ xs, z ∈ drawn) ∧ H' D = some (.lst (xs.map fun c => V.str ⟨#[c]⟩)) ∧ SL H' a c ∧ Mv a c H H')
      ⟨[], rfl, (by simp), upd_same, s1.same (same_upd nD), (Mv.take s0 s1 e1).new nD0⟩ ?_ ?_
    · rintro i H4 hi ⟨xs, lx, hx, hD, s4, m4⟩
      refine ⟨rfl, tyes ⟨_, rfl, a, c, 8, rfl, s4, by decide, by decide, fun v H5 v0 v8 e5 s5 => ?_⟩⟩
      obtain ⟨z, rfl, hz⟩ := nat_of v0 v8
      have hzl : z < drawn.length := by show z < 8; omega
      refine ⟨_, _, drawn[z], rfl, rfl, by decide +kernel, ?_, _, by rw [e5 D nDa.1 nDa.2]; exact hD, ?_, xs ++ [drawn[z]], by simp [lx], ?_, ?_, ?_, ?_⟩
      · rw [drawn_eq]
        exact atI_nat (List.getElem?_eq_getElem hzl)
      · rw [List.length_map, lx]
        exact Nat.lt_of_lt_of_le (show i < 1001 by omega) (by decide)
      · intro y hy
        rcases List.mem_append.mp hy with h | h
        · exact hx y h
        · rw [List.mem_singleton.mp h]
          exact List.getElem_mem hzl
      · rw [upd_same, List.map_append]
        rfl
      · exact s5.eq (upd_ne nDa.1.symm) (upd_ne nDa.2.symm)
      · exact (m4.trans (Mv.take s4 s5 e5)).new nD0
    · rintro H4 ⟨xs, lx, hx, hD, s4, m4⟩
      have et : (xs.map fun c => V.str (⟨#[c]⟩ : Str)) = (xs.map fun c => (⟨#[c]⟩ : Str)).map V.str := by rw [List.map_map]; rfl
      rw [et] at hD
      have tj := join_one xs
      refine ⟨_, D, xs.map fun c => (⟨#[c]⟩ : Str), rfl, rfl, .inl (SqL.of hD), ?_, ?_⟩
      · have := sum_le (fun l : Str => l.length) 1 (xs.map fun c => (⟨#[c]⟩ : Str)) fun x hx => by
          obtain ⟨y, hy, rfl⟩ := List.mem_map.mp hx
          exact Nat.le_refl 1
        have z : (Str.ofString "").length = 0 := by decide +kernel
        rw [z, Nat.mul_zero, Nat.add_zero]
        refine Nat.le_trans this ?_
        rw [List.length_map]
        omega
      · refine q _ H4 ?_ ?_ s4 m4
        · rw [TL.len_tl, tj, lx]; omega
        · intro z hz
          exact hx z (by rw [← tj]; exact hz)
end
end LW
namespace LW
open PySem PySem.Spec PyProof.Rows L2 GxR
/-! ### texts and numbers in tuples: equal where their items are -/
theorem eqv_keys : ∀ ks js : List Key, PyData.eqvAll (ks.map kD) (js.map kD) = decide (ks = js)
  | [], [] => rfl
  | [], _ :: _ => rfl
  | _ :: _, [] => rfl
  | k :: ks, j :: js => by
    rw [List.map_cons, List.map_cons, PyData.eqvAll, eqv_keys ks js]
    have e : PyData.eqv (kD k) (kD j) = decide (k = j) := by
      cases k with
      | inl i => cases j with
        | inl i' =>
          show PyData.eqv (.int i) (.int i') = _
          rw [PyData.eqv, Bool.eq_iff_iff]
          simp
        | inr y => rfl
      | inr x => cases j with
        | inl i' => rfl
        | inr y =>
          show PyData.eqv (.str x) (.str y) = _
          rw [PyData.eqv, Bool.eq_iff_iff]
          simp
    rw [e, Bool.eq_iff_iff]
    simp
theorem eqv_tup (ks js : List Key) : PyData.eqv (.tuple (ks.map kD)) (.tuple (js.map kD)) = decide (ks = js) := by rw [PyData.eqv]; exact eqv_keys ks js
theorem shaped_keys {ks : List Key} (h : ∀ k ∈ ks, kOk k) : SeqAt.shaped (.tuple (ks.map kD)) = true := by
  have l := lay_keys ks h
  exact shaped_of (n := 1) (lay_tup (n := 0) ⟨l.1, Nat.le_of_eq l.2⟩) (by decide)
theorem dp_tup {K : PySem.W.Frag} {H : Hp} {a : Addr} {ks : List Key} (h : H a = some (.tup (ks.map kV))) : Dp K H (.ref a) (.tuple (ks.map kD)) := .tup (SqT.of h) (dp_keys _)
theorem szl {n : Nat} (h : Nat.ble n 20 = true := by rfl) : n ≤ sizeLine := Nat.le_trans (Nat.le_of_ble_eq_true h) (by decide)
theorem ifT {x : Int} {A B : Prop} (h : A) : if decide (V.int x = V.int x) = true then A else B := by rw [if_pos (decide_eq_true rfl)]; exact h
theorem ifF {x y : Int} {A B : Prop} (n : x ≠ y) (h : B) : if decide (V.int x = V.int y) = true then A else B := by
  rw [if_neg (fun z => n (by have := of_decide_eq_true z; injection this))]; exact h
theorem ifT_s {x : Str} {A B : Prop} (h : A) : if decide (V.str x = V.str x) = true then A else B := by rw [if_pos (decide_eq_true rfl)]; exact h
theorem ifF_s {x y : Str} {A B : Prop} (n : x ≠ y) (h : B) : if decide (V.str x = V.str y) = true then A else B := by
  rw [if_neg (fun z => n (by have := of_decide_eq_true z; injection this))]; exact h
theorem dec_str (x y : Str) : decide (V.str x = V.str y) = decide (x = y) := decide_eq_decide.mpr ⟨fun h => by injection h, fun h => by rw [h]⟩
theorem neq_str (x y : Str) : (!decide (V.str x = V.str y)) = decide (x ≠ y) := by
  rw [dec_str]
  by_cases h : x = y <;> simp [h]
/-! ### replies -/
inductive Rp
  | claim (n : Int)
  | kept (x : Str)
  | upload (n : Int)
  | have_ (n : Int) (k : Nat)
  | named (x y : Str)
  | closed (n : Int)
  | lacks (x : Str)
  | gone (n : Int)
  | wrong (x : Str)
  | lapsed (n : Int)
  | malformed
  deriving DecidableEq
def Rp.word : Rp → Str
  | .claim _ => "claim"
  | .kept _ => "kept"
  | .upload _ => "upload"
  | .have_ _ _ => "have"
  | .named _ _ => "named"
  | .closed _ => "closed"
  | .lacks _ => "lacks"
  | .gone _ => "gone"
  | .wrong _ => "wrong"
  | .lapsed _ => "lapsed"
  | .malformed => "malformed"
def Rp.rest : Rp → List Key
  | .claim n => [.inl n]
  | .kept x => [.inr x]
  | .upload n => [.inl n]
  | .have_ n k => [.inl n, .inl (k : Int)]
  | .named x y => [.inr x, .inr y]
  | .closed n => [.inl n]
  | .lacks x => [.inr x]
  | .gone n => [.inl n]
  | .wrong x => [.inr x]
  | .lapsed n => [.inl n]
  | .malformed => []
def Rp.keys (r : Rp) : List Key := .inr r.word :: r.rest
def words : List Str := ["claim", "kept", "upload", "have", "named", "closed", "lacks", "gone", "wrong", "lapsed", "malformed"]
theorem words_ne : ∀ i j : Fin 11, i ≠ j → words[i.val]? ≠ words[j.val]? := by decide +kernel
def Rp.ix : Rp → Fin 11
  | .claim _ => 0
  | .kept _ => 1
  | .upload _ => 2
  | .have_ _ _ => 3
  | .named _ _ => 4
  | .closed _ => 5
  | .lacks _ => 6
  | .gone _ => 7
  | .wrong _ => 8
  | .lapsed _ => 9
  | .malformed => 10
theorem Rp.at_ (r : Rp) : words[r.ix.val]? = some r.word := by cases r <;> rfl
theorem Rp.word_ne {r r' : Rp} (h : r.ix ≠ r'.ix) : r.word ≠ r'.word := fun z => words_ne _ _ h (by rw [r.at_, r'.at_, z])
theorem Rp.keys_inj {r r' : Rp} : r.keys = r'.keys ↔ r = r' := by
  constructor
  · intro h
    injection h with h1 h2
    injection h1 with h1
    have hi : r.ix = r'.ix := Decidable.byContradiction fun z => Rp.word_ne z h1
    cases r <;> cases r' <;> first | (simp [Rp.ix] at hi; done) | rfl | skip
    all_goals
      simp [Rp.rest] at h2
      first
        | rw [h2]
        | (obtain ⟨a, b⟩ := h2; rw [a]; congr 1 <;> omega)
        | (obtain ⟨a, b⟩ := h2; rw [a, b])
  · rintro rfl; rfl
def Rp.ok (r : Rp) : Prop := ∀ k ∈ r.keys, kOk k
theorem eqv_rp (r r' : Rp) : PyData.eqv (.tuple (r.keys.map kD)) (.tuple (r'.keys.map kD)) = decide (r = r') := by
  rw [eqv_tup]; exact decide_eq_decide.mpr Rp.keys_inj
end LW
namespace LW
open PySem PySem.Spec PyProof.Rows L2 GxR
/-! ### a push -/
structure Psh where
  o : Addr
  dx : Addr
  L : Addr
  A : Addr
  nm : Str
  pf : Option Str
  ls : List Str
def adOf (j : Nat) (t : Str) : Str := hexS (addrNum j t.cps.toList)
def Psh.lay (p : Psh) (i : Nat) : Str := p.ls.getD i ""
def Psh.la (p : Psh) (i : Nat) : Str := adOf 0 (p.lay i)
def Psh.img (p : Psh) : Str := textOf (word false :: p.ls.map (adOf 0))
def Psh.bun (p : Psh) (q : Str) : Str := textOf (word true :: [(q, adOf 1 p.img)].map ent)
def Psh.tgt (p : Psh) : Str := match p.pf with
  | none => adOf 1 p.img
  | some q => adOf 2 (p.bun q)
def Psh.txt (p : Psh) (b : Bool) : Str := if b then p.bun (p.pf.getD "") else p.img
def Psh.ta (p : Psh) (b : Bool) : Str := adOf (if b then 2 else 1) (p.txt b)
inductive Stp
  | opn
  | has
  | start
  | part
  | finish
  | put (b : Bool)
  | name
  | close
  | done
  deriving DecidableEq
structure Ms where
  st : Stp
  cl : Int
  up : Int
  at_ : Nat
  pl : Nat
def place (p : Psh) (m : Ms) (i : Nat) : Ms := if i < p.ls.length then { m with st := .has, pl := i } else { m with st := .put false, pl := i }
def askP (p : Psh) (m : Ms) (k : Nat) : Ms := { m with at_ := k, st := if k < (p.lay m.pl).length then .part else .finish }
def behind (p : Psh) (m : Ms) (b : Bool) : Ms := if b = false ∧ p.pf.isSome = true then { m with st := .put true, pl := 0 } else { m with st := .name, pl := 0 }
def nextIn (p : Psh) (m : Ms) (r : Rp) : Option Ms := match m.st with
  | .opn => match r with
    | .claim n => some (place p { m with cl := n } 0)
    | _ => none
  | .has => if r = .kept (p.la m.pl) then some (place p m (m.pl + 1)) else if r = .lacks (p.la m.pl) then some { m with st := .start } else none
  | .start => match r with
    | .upload n => some (askP p { m with up := n } 0)
    | _ => none
  | .part => match r with
    | .have_ n k => if n = m.up then some (askP p m k) else none
    | .gone n => if n = m.up then some { m with st := .has } else none
    | _ => none
  | .finish => if r = .kept (p.la m.pl) then some (place p m (m.pl + 1)) else if r = .wrong (p.la m.pl) then some { m with st := .start } else if r = .gone m.up then some { m with st := .has } else none
  | .put b => match r with
    | .kept x => if x = p.ta b then some (behind p m b) else some { m with pl := 0 }
    | .malformed => some { m with pl := 0 }
    | .lacks _ => some (place p m 0)
    | _ => none
  | .name => if r = .named p.nm p.tgt then some { m with st := .close, pl := 0 } else if r = .lacks p.tgt then some (place p m 0) else none
  | .close => if r = .closed m.cl then some { m with st := .done, pl := 0 } else none
  | .done => none
def under : Stp → Bool
  | .opn => false
  | .part => false
  | .close => false
  | .done => false
  | _ => true
def next (p : Psh) (m : Ms) (r : Rp) : Option Ms := if under m.st = true ∧ r = .lapsed m.cl then some { m with st := .opn, pl := 0 } else nextIn p m r
/-- the steps at a layer -/
def layS : Stp → Bool
  | .has => true
  | .start => true
  | .part => true
  | .finish => true
  | _ => false
structure Wf (p : Psh) (m : Ms) : Prop where
  pl : layS m.st = true → m.pl < p.ls.length
  bun : m.st = .put true → p.pf.isSome = true
  at_ : m.at_ ≤ 9
structure POk (p : Psh) : Prop where
  len : p.ls.length ≤ 3
  txt : ∀ t ∈ p.ls, t.length ≤ 7 ∧ PyData.strOk t = true
  nm : PyData.strOk p.nm = true
  pf : ∀ q, p.pf = some q → q.length ≤ 20 ∧ PyData.strOk q = true
def rqk (p : Psh) (m : Ms) : List Key := match m.st with
  | .opn => [.inr "open"]
  | .has => [.inr "has", .inl m.cl, .inr (p.la m.pl)]
  | .start => [.inr "start", .inl m.cl]
  | .part => [.inr "part", .inl m.up, .inl (m.at_ : Int), .inr (cutS (p.lay m.pl) (some (m.at_ : Int)) (some ((m.at_ : Int) + 4)))]
  | .finish => [.inr "finish", .inl m.up, .inl m.cl, .inr "layer", .inr (p.la m.pl)]
  | .put b => [.inr "put", .inl m.cl, .inr (word b), .inr (p.txt b)]
  | .name => [.inr "name", .inl m.cl, .inr p.nm, .inr p.tgt]
  | .close => [.inr "close", .inl m.cl]
  | .done => []
structure Fl where
  num : Int
  dn : Bool
  idx : Int
  cl : V
  up : V
  rq : V
def pfV : Option Str → V
  | none => .non
  | some q => .str q
def flds (p : Psh) (F : Fl) : List (Str × V) := [("layers", .ref p.L), ("name", .str p.nm), ("platform", pfV p.pf), ("number", .int F.num), ("done", .bl F.dn), ("_addresses", .ref p.A), ("_index", .int F.idx), ("_claim", F.cl), ("_upload", F.up), ("_request", F.rq)]
structure PuAt (C : Addr) (p : Psh) (F : Fl) (H : Hp) : Prop where
  ob : H p.o = some (.ins C p.dx (flds p F))
  hL : H p.L = some (.lst (p.ls.map V.str))
  hA : H p.A = some (.lst ((p.ls.map (adOf 0)).map V.str))
structure R (C : Addr) (p : Psh) (m : Ms) (F : Fl) (H : Hp) : Prop where
  at_ : PuAt C p F H
  dn : F.dn = decide (m.st = .done)
  cl : m.st ≠ .opn → F.cl = .int m.cl
  up : m.st = .part ∨ m.st = .finish → F.up = .int m.up
  ix : layS m.st = true → F.idx = (m.pl : Int)
  rq0 : m.st = .done → F.rq = .non
  rq : m.st ≠ .done → ∃ r, F.rq = .ref r ∧ H r = some (.tup ((rqk p m).map kV))
def Ob (p : Psh) (b : Addr) : Prop := b = p.o
theorem PuAt.same {C : Addr} {p : Psh} {F : Fl} {H H' : Hp} (h : PuAt C p F H) (s : Same H H') : PuAt C p F H' := ⟨s _ _ h.ob, s _ _ h.hL, s _ _ h.hA⟩
theorem PuAt.mv {C a c : Addr} {p : Psh} {F : Fl} {H H' : Hp} (h : PuAt C p F H) (na : p.o ≠ a ∧ p.o ≠ c) (nl : p.L ≠ a ∧ p.L ≠ c) (nA : p.A ≠ a ∧ p.A ≠ c) (s : Mv a c H H') : PuAt C p F H' := ⟨s.keep _ _ na.1 na.2 h.ob, s.keep _ _ nl.1 nl.2 h.hL, s.keep _ _ nA.1 nA.2 h.hA⟩
theorem R.same {C : Addr} {p : Psh} {m : Ms} {F : Fl} {H H' : Hp} (h : R C p m F H) (s : Same H H') : R C p m F H' := { h with at_ := h.at_.same s, rq := fun z => let ⟨r, e, t⟩ := h.rq z; ⟨r, e, s _ _ t⟩ }
/-- the object's fields changed -/
theorem PuAt.put {C : Addr} {p : Psh} {F F' : Fl} {H : Hp} (h : PuAt C p F H) : PuAt C p F' (L2.upd H p.o (.ins C p.dx (flds p F'))) ∧ Kp (Ob p) H (L2.upd H p.o (.ins C p.dx (flds p F'))) := by
  refine ⟨⟨upd_same, ?_, ?_⟩, (Kp.refl _ H).put rfl (by rw [h.ob]; exact fun z => nomatch z)⟩
  · rw [upd_ne (ne_of h.hL h.ob (by intro z; cases z))]; exact h.hL
  · rw [upd_ne (ne_of h.hA h.ob (by intro z; cases z))]; exact h.hA
theorem lay_at {p : Psh} {i : Nat} (h : i < p.ls.length) : (p.ls.map V.str)[i]? = some (.str (p.lay i)) ∧ ((p.ls.map (adOf 0)).map V.str)[i]? = some (.str (p.la i)) := by
  have e : p.ls[i]? = some (p.lay i) := by
    unfold Psh.lay
    rw [List.getD_eq_getElem?_getD, List.getElem?_eq_getElem h]; rfl
  refine ⟨by rw [List.getElem?_map, e]; rfl, by rw [List.getElem?_map, List.getElem?_map, e]; rfl⟩
theorem hexS_ok (n : Nat) : PyData.strOk (hexS n) = true := by
  have h := isAddr_hexS n
  unfold isAddr at h
  have h2 := (Bool.and_eq_true _ _ ▸ h : _ ∧ _).2
  show (hexS n).cps.all (fun c => decide (c < 0x110000)) = true
  rw [← Array.all_toList, List.all_eq_true]
  intro c hc
  have := of_decide_eq_true (List.all_eq_true.mp h2 c hc)
  exact decide_eq_true ((by decide : ∀ c ∈ hexDigits, c < 0x110000) c this)
theorem adOf_ok (j : Nat) (t : Str) : PyData.strOk (adOf j t) = true := hexS_ok _
theorem adOf_len (j : Nat) (t : Str) : (adOf j t).length = 16 := (addr_no (isAddr_hexS _)).2.2
end LW
namespace LW
open PySem PySem.Spec PyProof.Rows L2 GxR
abbrev s_Pusher_request : Stmt := inClass (topS 14) 1
abbrev N_Pusher_request : List Str := ["self"]
abbrev P_Pusher_request : List Str := ["self"]
theorem sc_Pusher_request : FnScope N_Pusher_request P_Pusher_request (defScope s_Pusher_request) := ⟨rfl, rfl, rfl, by decide +kernel, rfl, by decide +kernel, by decide +kernel⟩
def sp_Pusher_request (cP : Addr) : Sp := fun vs H Q _ => ∃ (p : Psh) (Fl : Fl), vs = [.ref p.o] ∧ PuAt cP p Fl H ∧ Q Fl.rq H
abbrev s_Pusher__ask : Stmt := inClass (topS 14) 6
abbrev N_Pusher__ask : List Str := ["self", "request"]
abbrev P_Pusher__ask : List Str := ["self", "request"]
theorem sc_Pusher__ask : FnScope N_Pusher__ask P_Pusher__ask (defScope s_Pusher__ask) := ⟨rfl, rfl, rfl, by decide +kernel, rfl, by decide +kernel, by decide +kernel⟩
def sp_Pusher__ask (cP : Addr) : Sp := fun vs H Q _ => ∃ (p : Psh) (Fl : Fl) (r : Addr), vs = [.ref p.o, .ref r] ∧ PuAt cP p Fl H ∧ ∀ H', PuAt cP p { Fl with rq := .ref r, num := Fl.num + 1 } H' → Kp (Ob p) H H' → Q (.bl true) H'
abbrev s_Pusher_image : Stmt := inClass (topS 14) 3
abbrev N_Pusher_image : List Str := ["self"]
abbrev P_Pusher_image : List Str := ["self"]
theorem sc_Pusher_image : FnScope N_Pusher_image P_Pusher_image (defScope s_Pusher_image) := ⟨rfl, rfl, rfl, by decide +kernel, rfl, by decide +kernel, by decide +kernel⟩
def sp_Pusher_image (cP : Addr) : Sp := fun vs H Q _ => ∃ (p : Psh) (Fl : Fl), vs = [.ref p.o] ∧ PuAt cP p Fl H ∧ POk p ∧ ∀ H', Same H H' → Q (.str p.img) H'
abbrev s_Pusher_bundle : Stmt := inClass (topS 14) 4
abbrev N_Pusher_bundle : List Str := ["self"]
abbrev P_Pusher_bundle : List Str := ["self"]
theorem sc_Pusher_bundle : FnScope N_Pusher_bundle P_Pusher_bundle (defScope s_Pusher_bundle) := ⟨rfl, rfl, rfl, by decide +kernel, rfl, by decide +kernel, by decide +kernel⟩
def sp_Pusher_bundle (cP : Addr) : Sp := fun vs H Q _ => ∃ (p : Psh) (Fl : Fl), vs = [.ref p.o] ∧ PuAt cP p Fl H ∧ POk p ∧ ∀ H', Same H H' → Q (match p.pf with | none => .non | some q => .str (p.bun q)) H'
abbrev s_Pusher_address : Stmt := inClass (topS 14) 5
abbrev N_Pusher_address : List Str := ["self"]
abbrev P_Pusher_address : List Str := ["self"]
theorem sc_Pusher_address : FnScope N_Pusher_address P_Pusher_address (defScope s_Pusher_address) := ⟨rfl, rfl, rfl, by decide +kernel, rfl, by decide +kernel, by decide +kernel⟩
def sp_Pusher_address (cP : Addr) : Sp := fun vs H Q _ => ∃ (p : Psh) (Fl : Fl), vs = [.ref p.o] ∧ PuAt cP p Fl H ∧ POk p ∧ ∀ H', Same H H' → Q (.str p.tgt) H'
section
variable {P : Program} {w : World} {K : PySem.W.Frag} {mg : Str → Option Value} {base : Heap} {cP : Addr}
theorem ok_Pusher_request {f : Addr} {fd : FuncData} (F : Fun K "request" "Pusher.request" s_Pusher_request f fd) (T : Tx K mg cP) : FnOk P w K mg base CX0 1 f fd P_Pusher_request (sp_Pusher_request cP) := by
  refine F.ok sc_Pusher_request (fun vs H Q E h => ?_) (fun cdv A outer s H vs Q E hr h => ?_)
  · obtain ⟨_, _, rfl, _⟩ := h
    rfl
  · obtain ⟨p, Fl, rfl, hp, q⟩ := h
    have nd := sc_Pusher_request.nd
    refine ⟨_, pss_one (ps_ret (pe_fld (pv 0) rfl)), ?_⟩
    exact ⟨_, rfl, p.o, cP, p.dx, _, _, rfl, hp.ob, T.clP, T.n_request, rfl, q⟩
theorem ok_Pusher__ask {f : Addr} {fd : FuncData} (F : Fun K "_ask" "Pusher._ask" s_Pusher__ask f fd) (T : Tx K mg cP) : FnOk P w K mg base CX0 1 f fd P_Pusher__ask (sp_Pusher__ask cP) := by
  refine F.ok sc_Pusher__ask (fun vs H Q E h => ?_) (fun cdv A outer s H vs Q E hr h => ?_)
  · obtain ⟨_, _, _, rfl, _⟩ := h
    rfl
  · obtain ⟨p, Fl, r, rfl, hp, q⟩ := h
    have nd := sc_Pusher__ask.nd
    refine ⟨_, pss_cons (ps_fld (pv 0) (pv 1) rfl)
  (pss_cons (ps_fldaug (pv 0) pe_int in_add)
  (pss_one (ps_ret pe_bl))), ?_⟩

    obtain ⟨h1, k1⟩ := hp.put (F' := { Fl with rq := .ref r })
    have e1 : putF "_request" (.ref r) (flds p Fl) = flds p { Fl with rq := .ref r } := rfl
    have e2 : putF "number" (.int (Fl.num + 1)) (flds p { Fl with rq := .ref r }) = flds p { Fl with rq := .ref r, num := Fl.num + 1 } := rfl
    obtain ⟨h2, k2⟩ := h1.put (F' := { Fl with rq := .ref r, num := Fl.num + 1 })
    refine ⟨_, rfl, _, rfl, p.o, cP, p.dx, flds p Fl, rfl, hp.ob, T.clP, T.n_request, (by show 10 < 1000; decide), ?_⟩
    rw [e1]
    refine ⟨_, rfl, p.o, cP, p.dx, flds p { Fl with rq := .ref r }, _, rfl, h1.ob, T.clP, T.nnumber, rfl, _, _, rfl, rfl, p.dx, flds p { Fl with rq := .ref r }, h1.ob, (by show 10 < 1000; decide), ?_⟩
    rw [e2]
    exact q _ h2 (k1.trans k2)
theorem ok_Pusher_image {f : Addr} {fd : FuncData} (F : Fun K "image" "Pusher.image" s_Pusher_image f fd) (T : Tx K mg cP)
    (C_image_text : Cal P w K mg base CX0 2 "image_text" P_image_text (spImage K)) : FnOk P w K mg base CX0 3 f fd P_Pusher_image (sp_Pusher_image cP) := by
  refine F.ok sc_Pusher_image (fun vs H Q E h => ?_) (fun cdv A outer s H vs Q E hr h => ?_)
  · obtain ⟨_, _, rfl, _⟩ := h
    rfl
  · obtain ⟨p, Fl, rfl, hp, ok, q⟩ := h
    have nd := sc_Pusher_image.nd
    refine ⟨_, pss_one (ps_ret (pe_cal C_image_text hr (pa_cons (pe_fld (pv 0) rfl) pa_nil))), ?_⟩

    refine ⟨_, rfl, p.o, cP, p.dx, _, _, rfl, hp.ob, T.clP, T.n_addresses, rfl, p.A, p.ls.map (adOf 0), rfl, SqL.of hp.hA, by rw [List.length_map]; have := ok.len; omega, fun x hx => ?_, q⟩
    obtain ⟨t, _, rfl⟩ := List.mem_map.mp hx
    rw [adOf_len]; decide
theorem ok_Pusher_bundle {f : Addr} {fd : FuncData} (F : Fun K "bundle" "Pusher.bundle" s_Pusher_bundle f fd) (T : Tx K mg cP)
    (C_Pusher_image : CalM P w K mg base CX0 3 cP "image" P_Pusher_image (sp_Pusher_image cP))
    (C_address_of : Cal P w K mg base CX0 1 "address_of" P_address_of spAddr)
    (C_bundle_text : Cal P w K mg base CX0 2 "bundle_text" P_bundle_text (spBundle K)) : FnOk P w K mg base CX0 4 f fd P_Pusher_bundle (sp_Pusher_bundle cP) := by
  refine F.ok sc_Pusher_bundle (fun vs H Q E h => ?_) (fun cdv A outer s H vs Q E hr h => ?_)
  · obtain ⟨_, _, rfl, _⟩ := h
    rfl
  · obtain ⟨p, Fl, rfl, hp, ok, q⟩ := h
    have nd := sc_Pusher_bundle.nd
    refine ⟨_, pss_cons (ps_if (pt_cmpR op_isN (pe_fld (pv 0) rfl) pe_non (nomark _))
    (pss_one (ps_ret pe_non))
    (pss_nil))
  (pss_one (ps_ret (pe_cal C_bundle_text hr (pa_cons (pe_lst (pa_cons (pe_tup (pa_cons (pe_fld (pv 0) rfl) (pa_cons (pe_cal C_address_of hr (pa_cons pe_str (pa_cons (pe_calM0 (pv 0) C_Pusher_image hr) pa_nil))) pa_nil))) pa_nil)) pa_nil)))), ?_⟩

    refine ⟨_, rfl, p.o, cP, p.dx, _, _, rfl, hp.ob, T.clP, T.nplatform, rfl, rfl, _, rfl, ?_⟩
    cases hpf : p.pf with
    | none =>
      rw [hpf] at q
      exact iteT (q H fun _ _ e => e)
    | some z =>
      rw [hpf] at q
      obtain ⟨z20, zok⟩ := ok.pf z hpf
      refine iteF ⟨_, rfl, p.o, cP, p.dx, _, _, rfl, hp.ob, T.clP, T.nplatform, rfl, _, rfl, p.o, p.dx, _, rfl, hp.ob, rfl, p, Fl, rfl, hp, ok, fun H1 s1 => ?_⟩
      refine ⟨"image", p.img, 1, rfl, rfl, by decide, szl, fun t nt => ⟨szl, fun l nl => ?_⟩⟩
      have ht := same_upd nl (o := .lst [.ref t]) t (.tup [pfV p.pf, .str (adOf 1 p.img)]) upd_same
      rw [hpf] at ht ⊢
      refine ⟨l, [.ref t], [(z, adOf 1 p.img)], rfl, SqL.of upd_same, .cons ⟨t, rfl, ht⟩ .nil, (by show (1 : Nat) ≤ 100; decide), fun x hx => ?_, fun H2 s2 => ?_⟩
      · rw [List.mem_singleton.mp hx]
        exact ⟨by show z.length ≤ 100; omega, by show (adOf 1 p.img).length ≤ 100; rw [adOf_len]; decide⟩
      · exact q H2 (((s1.trans (hpf ▸ same_upd nt)).trans (hpf ▸ same_upd nl)).trans s2)
theorem ok_Pusher_address {f : Addr} {fd : FuncData} (F : Fun K "address" "Pusher.address" s_Pusher_address f fd) (T : Tx K mg cP)
    (C_Pusher_bundle : CalM P w K mg base CX0 4 cP "bundle" P_Pusher_bundle (sp_Pusher_bundle cP))
    (C_Pusher_image : CalM P w K mg base CX0 3 cP "image" P_Pusher_image (sp_Pusher_image cP))
    (C_address_of : Cal P w K mg base CX0 1 "address_of" P_address_of spAddr) : FnOk P w K mg base CX0 5 f fd P_Pusher_address (sp_Pusher_address cP) := by
  refine F.ok sc_Pusher_address (fun vs H Q E h => ?_) (fun cdv A outer s H vs Q E hr h => ?_)
  · obtain ⟨_, _, rfl, _⟩ := h
    rfl
  · obtain ⟨p, Fl, rfl, hp, ok, q⟩ := h
    have nd := sc_Pusher_address.nd
    refine ⟨_, pss_cons (ps_if (pt_cmpR op_isN (pe_fld (pv 0) rfl) pe_non (nomark _))
    (pss_one (ps_ret (pe_cal C_address_of hr (pa_cons pe_str (pa_cons (pe_calM0 (pv 0) C_Pusher_image hr) pa_nil)))))
    (pss_nil))
  (pss_one (ps_ret (pe_cal C_address_of hr (pa_cons pe_str (pa_cons (pe_calM0 (pv 0) C_Pusher_bundle hr) pa_nil))))), ?_⟩

    unfold Psh.tgt at q
    refine ⟨_, rfl, p.o, cP, p.dx, _, _, rfl, hp.ob, T.clP, T.nplatform, rfl, rfl, _, rfl, ?_⟩
    cases hpf : p.pf with
    | none =>
      rw [hpf] at q
      exact iteT ⟨_, rfl, p.o, p.dx, _, rfl, hp.ob, rfl, p, Fl, rfl, hp, ok, fun H1 s1 => ⟨"image", p.img, 1, rfl, rfl, by decide, q H1 s1⟩⟩
    | some z =>
      rw [hpf] at q
      refine iteF ⟨_, rfl, p.o, p.dx, _, rfl, hp.ob, rfl, p, Fl, rfl, hp, ok, fun H1 s1 => ?_⟩
      rw [hpf]
      exact ⟨"bundle", p.bun z, 2, rfl, rfl, by decide, q H1 s1⟩
end
end LW
namespace LW
open PySem PySem.Spec PyProof.Rows L2 GxR
theorem R.mk' {cP : Addr} {p : Psh} {m : Ms} {Fl : Fl} {r : Addr} {ks : List V} {H2 H' : Hp} (hp2 : PuAt cP p Fl H2) (hr : H2 r = some (.tup ks)) (h' : PuAt cP p { Fl with rq := .ref r, num := Fl.num + 1 } H') (k' : Kp (Ob p) H2 H') (dn : Fl.dn = false) (nd : m.st ≠ .done)
    (cl : m.st ≠ .opn → Fl.cl = .int m.cl) (up : m.st = .part ∨ m.st = .finish → Fl.up = .int m.up) (ix : layS m.st = true → Fl.idx = (m.pl : Int)) (e : ks = (rqk p m).map kV) : R cP p m { Fl with rq := .ref r, num := Fl.num + 1 } H' :=
  ⟨h', by rw [dn, decide_eq_false nd], cl, up, ix, fun z => absurd z nd, fun _ => ⟨r, rfl, by rw [← e]; exact k'.keep r _ (ne_of hr hp2.ob (by intro z; cases z)) hr⟩⟩
abbrev s_Pusher__ask_layer : Stmt := inClass (topS 14) 7
abbrev N_Pusher__ask_layer : List Str := ["self", "index"]
abbrev P_Pusher__ask_layer : List Str := ["self", "index"]
theorem sc_Pusher__ask_layer : FnScope N_Pusher__ask_layer P_Pusher__ask_layer (defScope s_Pusher__ask_layer) := ⟨rfl, rfl, rfl, by decide +kernel, rfl, by decide +kernel, by decide +kernel⟩
def sp_Pusher__ask_layer (cP : Addr) : Sp := fun vs H Q _ => ∃ (p : Psh) (Fl : Fl) (m : Ms) (i : Nat), vs = [.ref p.o, .int (i : Int)] ∧ PuAt cP p Fl H ∧ POk p ∧ Fl.dn = false ∧ Fl.cl = .int m.cl ∧ i ≤ p.ls.length ∧ ∀ F' H', R cP p (place p m i) F' H' → F'.num = Fl.num + 1 → Kp (Ob p) H H' → Q (.bl true) H'
abbrev s_Pusher__ask_part : Stmt := inClass (topS 14) 8
abbrev N_Pusher__ask_part : List Str := ["self", "at", "layer"]
abbrev P_Pusher__ask_part : List Str := ["self", "at"]
theorem sc_Pusher__ask_part : FnScope N_Pusher__ask_part P_Pusher__ask_part (defScope s_Pusher__ask_part) := ⟨rfl, rfl, rfl, by decide +kernel, rfl, by decide +kernel, by decide +kernel⟩
def sp_Pusher__ask_part (cP : Addr) : Sp := fun vs H Q _ => ∃ (p : Psh) (Fl : Fl) (m : Ms) (i : Nat), vs = [.ref p.o, .int (i : Int)] ∧ PuAt cP p Fl H ∧ POk p ∧ Fl.dn = false ∧ Fl.cl = .int m.cl ∧ Fl.up = .int m.up ∧ Fl.idx = (m.pl : Int) ∧ m.pl < p.ls.length ∧ ∀ F' H', R cP p (askP p m i) F' H' → F'.num = Fl.num + 1 → Kp (Ob p) H H' → Q (.bl true) H'
abbrev s_Pusher__ask_behind : Stmt := inClass (topS 14) 15
abbrev N_Pusher__ask_behind : List Str := ["self", "kind"]
abbrev P_Pusher__ask_behind : List Str := ["self", "kind"]
theorem sc_Pusher__ask_behind : FnScope N_Pusher__ask_behind P_Pusher__ask_behind (defScope s_Pusher__ask_behind) := ⟨rfl, rfl, rfl, by decide +kernel, rfl, by decide +kernel, by decide +kernel⟩
def sp_Pusher__ask_behind (cP : Addr) : Sp := fun vs H Q _ => ∃ (p : Psh) (Fl : Fl) (m : Ms) (b : Bool), vs = [.ref p.o, .str (word b)] ∧ PuAt cP p Fl H ∧ POk p ∧ Fl.dn = false ∧ Fl.cl = .int m.cl ∧ ∀ F' H', R cP p (behind p m b) F' H' → F'.num = Fl.num + 1 → Kp (Ob p) H H' → Q (.bl true) H'
section
variable {P : Program} {w : World} {K : PySem.W.Frag} {mg : Str → Option Value} {base : Heap} {cP : Addr}
theorem ok_Pusher__ask_layer {f : Addr} {fd : FuncData} (F : Fun K "_ask_layer" "Pusher._ask_layer" s_Pusher__ask_layer f fd) (T : Tx K mg cP)
    (C_Pusher_ask : CalM P w K mg base CX0 1 cP "_ask" P_Pusher__ask (sp_Pusher__ask cP))
    (C_Pusher_image : CalM P w K mg base CX0 3 cP "image" P_Pusher_image (sp_Pusher_image cP)) : FnOk P w K mg base CX0 4 f fd P_Pusher__ask_layer (sp_Pusher__ask_layer cP) := by
  refine F.ok sc_Pusher__ask_layer (fun vs H Q E h => ?_) (fun cdv A outer s H vs Q E hr h => ?_)
  · obtain ⟨_, _, _, _, rfl, _⟩ := h
    rfl
  · obtain ⟨p, Fl, m, i, rfl, hp, ok, dn, hcl, hi, q⟩ := h
    have nd := sc_Pusher__ask_layer.nd
    refine ⟨_, pss_cons (ps_if (pt_cmpR op_eq (pv 1) (pe_callB call_len_seq (by rfl) T.len (by decide +kernel) (pa_cons (pe_fld (pv 0) rfl) pa_nil)) (nomark _))
    (pss_one (ps_ret (pe_calM (pv 0) C_Pusher_ask hr (pa_cons (pe_tup (pa_cons pe_str (pa_cons (pe_fld (pv 0) rfl) (pa_cons pe_str (pa_cons (pe_calM0 (pv 0) C_Pusher_image hr) pa_nil))))) pa_nil))))
    (pss_nil))
  (pss_cons (ps_fld (pv 0) (pv 1) rfl)
  (pss_one (ps_ret (pe_calM (pv 0) C_Pusher_ask hr (pa_cons (pe_tup (pa_cons pe_str (pa_cons (pe_fld (pv 0) rfl) (pa_cons (pe_ix ix_list (pe_fld (pv 0) rfl) (pv 1) (fun _ _ => rfl)) pa_nil)))) pa_nil))))), ?_⟩

    refine ⟨_, rfl, _, rfl, p.o, cP, p.dx, _, _, rfl, hp.ob, T.clP, T.nlayers, rfl, p.L, _, rfl, .inl (SqL.of hp.hL), rfl, _, rfl, ?_⟩
    rw [List.length_map]
    refine ite2 (fun e => ?_) (fun e => ?_)
    · have e' : ¬ i < p.ls.length := by
        have := of_decide_eq_true e
        injection this with this
        omega
      refine ⟨_, rfl, p.o, p.dx, _, rfl, hp.ob, rfl, _, rfl, p.o, cP, p.dx, _, _, rfl, hp.ob, T.clP, T.n_claim, rfl, _, rfl, p.o, p.dx, _, rfl, hp.ob, rfl, p, Fl, rfl, hp, ok, fun H1 s1 => ⟨szl, fun r nr => ?_⟩⟩
      have hp1 := hp.same s1
      have hp2 := hp1.same (same_upd nr (o := .tup [.str "put", Fl.cl, .str "image", .str p.img]))
      refine ⟨p, Fl, r, rfl, hp2, fun H' h' k' => ?_⟩
      refine q { Fl with rq := .ref r, num := Fl.num + 1 } H' ?_ rfl ((Kp.same (s1.trans (same_upd nr))).trans k')
      unfold place
      rw [if_neg e']
      exact R.mk' hp2 upd_same h' k' dn (fun z => nomatch z) (fun _ => hcl) (fun z => nomatch z) (fun z => nomatch z) (by rw [hcl]; rfl)
    · have e' : i < p.ls.length := by
        have : ¬ (V.int (i : Int) = V.int (p.ls.length : Int)) := of_decide_eq_false (Bool.eq_false_iff.mpr e)
        exact Nat.lt_of_le_of_ne hi fun z => this (by rw [z])
      obtain ⟨h1, k1⟩ := hp.put (F' := { Fl with idx := (i : Int) })
      have e1 : putF "_index" (.int (i : Int)) (flds p Fl) = flds p { Fl with idx := (i : Int) } := rfl
      refine ⟨_, rfl, _, rfl, p.o, cP, p.dx, flds p Fl, rfl, hp.ob, T.clP, T.n_index, (by show 10 < 1000; decide), ?_⟩
      rw [e1]
      refine ⟨_, rfl, p.o, p.dx, _, rfl, h1.ob, rfl, _, rfl, p.o, cP, p.dx, _, _, rfl, h1.ob, T.clP, T.n_claim, rfl, _, rfl, p.o, cP, p.dx, _, _, rfl, h1.ob, T.clP, T.n_addresses, rfl, _, rfl, p.A, _, _, .str (p.la i), rfl, rfl, SqL.of h1.hA, atI_nat (lay_at e').2, szl, fun r nr => ?_⟩
      have hp2 := h1.same (same_upd nr (o := .tup [.str "has", Fl.cl, .str (p.la i)]))
      refine ⟨p, { Fl with idx := (i : Int) }, r, rfl, hp2, fun H' h' k' => ?_⟩
      refine q { Fl with idx := (i : Int), rq := .ref r, num := Fl.num + 1 } H' ?_ rfl ((k1.trans (Kp.same (same_upd nr))).trans k')
      unfold place
      rw [if_pos e']
      exact R.mk' hp2 upd_same h' k' dn (fun z => nomatch z) (fun _ => hcl) (fun z => by rcases z with z | z <;> cases z) (fun _ => rfl) (by rw [hcl]; rfl)
theorem ok_Pusher__ask_part {f : Addr} {fd : FuncData} (F : Fun K "_ask_part" "Pusher._ask_part" s_Pusher__ask_part f fd) (T : Tx K mg cP)
    (C_Pusher_ask : CalM P w K mg base CX0 1 cP "_ask" P_Pusher__ask (sp_Pusher__ask cP)) : FnOk P w K mg base CX0 2 f fd P_Pusher__ask_part (sp_Pusher__ask_part cP) := by
  refine F.ok sc_Pusher__ask_part (fun vs H Q E h => ?_) (fun cdv A outer s H vs Q E hr h => ?_)
  · obtain ⟨_, _, _, _, rfl, _⟩ := h
    rfl
  · obtain ⟨p, Fl, m, i, rfl, hp, ok, dn, hcl, hup, hix, hpl, q⟩ := h
    have nd := sc_Pusher__ask_part.nd
    refine ⟨_, pss_cons (ps_set (i := 2) nd rfl (Or.inl rfl) (pe_ix ix_list (pe_fld (pv 0) rfl) (pe_fld (pv 0) rfl) (fun _ _ => rfl)))
  (pss_cons (ps_if (pt_cmpR op_ge (pv 1) (pe_callB call_len_str (by rfl) T.len (by decide +kernel) (pa_cons (pv 2) pa_nil)) (nomark _))
    (pss_one (ps_ret (pe_calM (pv 0) C_Pusher_ask hr (pa_cons (pe_tup (pa_cons pe_str (pa_cons (pe_fld (pv 0) rfl) (pa_cons (pe_fld (pv 0) rfl) (pa_cons pe_str (pa_cons (pe_ix ix_list (pe_fld (pv 0) rfl) (pe_fld (pv 0) rfl) (fun _ _ => rfl)) pa_nil)))))) pa_nil))))
    (pss_nil))
  (pss_one (ps_ret (pe_calM (pv 0) C_Pusher_ask hr (pa_cons (pe_tup (pa_cons pe_str (pa_cons (pe_fld (pv 0) rfl) (pa_cons (pv 1) (pa_cons (pe_slice sl_str (pv 2) (po_some (pv 1)) (po_some (pe_op op_add (pv 1) (pe_gint T.PART)))) pa_nil))))) pa_nil))))), ?_⟩

    have hsz : (p.lay m.pl).length ≤ sizeLine := by
      have e : p.ls[m.pl]? = some (p.lay m.pl) := by
        unfold Psh.lay
        rw [List.getD_eq_getElem?_getD, List.getElem?_eq_getElem hpl]; rfl
      exact Nat.le_trans (ok.txt _ (List.mem_of_getElem? e)).1 (by decide)
    refine ⟨_, rfl, p.o, cP, p.dx, _, _, rfl, hp.ob, T.clP, T.nlayers, rfl, _, rfl, p.o, cP, p.dx, _, _, rfl, hp.ob, T.clP, T.n_index, rfl, p.L, _, _, .str (p.lay m.pl), rfl, rfl, SqL.of hp.hL, by rw [hix]; exact atI_nat (lay_at hpl).1, ?_⟩
    refine ⟨_, rfl, _, rfl, _, rfl, hsz, _, _, rfl, rfl, _, rfl, ite2 (fun e => ?_) (fun e => ?_)⟩
    · have e' : ¬ i < (p.lay m.pl).length := by have := of_decide_eq_true e; omega
      refine ⟨_, rfl, p.o, p.dx, _, rfl, hp.ob, rfl, _, rfl, p.o, cP, p.dx, _, _, rfl, hp.ob, T.clP, T.n_upload, rfl, _, rfl, p.o, cP, p.dx, _, _, rfl, hp.ob, T.clP, T.n_claim, rfl, _, rfl, p.o, cP, p.dx, _, _, rfl, hp.ob, T.clP, T.n_addresses, rfl, _, rfl, p.o, cP, p.dx, _, _, rfl, hp.ob, T.clP, T.n_index, rfl, p.A, _, _, .str (p.la m.pl), rfl, rfl, SqL.of hp.hA, by rw [hix]; exact atI_nat (lay_at hpl).2, szl, fun r nr => ?_⟩
      have hp2 := hp.same (same_upd nr (o := .tup [.str "finish", Fl.up, Fl.cl, .str "layer", .str (p.la m.pl)]))
      refine ⟨p, Fl, r, rfl, hp2, fun H' h' k' => ?_⟩
      refine q { Fl with rq := .ref r, num := Fl.num + 1 } H' ?_ rfl ((Kp.same (same_upd nr)).trans k')
      unfold askP
      rw [if_neg e']
      exact R.mk' hp2 upd_same h' k' dn (fun z => nomatch z) (fun _ => hcl) (fun _ => hup) (fun _ => hix) (by rw [hcl, hup]; rfl)
    · have e' : i < (p.lay m.pl).length := by have := of_decide_eq_false (Bool.eq_false_iff.mpr e); omega
      refine ⟨_, rfl, p.o, p.dx, _, rfl, hp.ob, rfl, _, rfl, p.o, cP, p.dx, _, _, rfl, hp.ob, T.clP, T.n_upload, rfl, _, rfl, _, rfl, _, rfl, _, rfl, _, rfl, _, _, rfl, rfl, _, rfl, p.lay m.pl, rfl, hsz, szl, fun r nr => ?_⟩
      have hp2 := hp.same (same_upd nr (o := .tup [.str "part", Fl.up, .int (i : Int), .str (cutS (p.lay m.pl) (some (i : Int)) (some ((i : Int) + 4)))]))
      refine ⟨p, Fl, r, rfl, hp2, fun H' h' k' => ?_⟩
      refine q { Fl with rq := .ref r, num := Fl.num + 1 } H' ?_ rfl ((Kp.same (same_upd nr)).trans k')
      unfold askP
      rw [if_pos e']
      exact R.mk' hp2 upd_same h' k' dn (fun z => nomatch z) (fun _ => hcl) (fun _ => hup) (fun _ => hix) (by rw [hup]; rfl)
theorem ok_Pusher__ask_behind {f : Addr} {fd : FuncData} (F : Fun K "_ask_behind" "Pusher._ask_behind" s_Pusher__ask_behind f fd) (T : Tx K mg cP)
    (C_Pusher_ask : CalM P w K mg base CX0 1 cP "_ask" P_Pusher__ask (sp_Pusher__ask cP))
    (C_Pusher_address : CalM P w K mg base CX0 5 cP "address" P_Pusher_address (sp_Pusher_address cP))
    (C_Pusher_bundle : CalM P w K mg base CX0 4 cP "bundle" P_Pusher_bundle (sp_Pusher_bundle cP)) : FnOk P w K mg base CX0 6 f fd P_Pusher__ask_behind (sp_Pusher__ask_behind cP) := by
  refine F.ok sc_Pusher__ask_behind (fun vs H Q E h => ?_) (fun cdv A outer s H vs Q E hr h => ?_)
  · obtain ⟨_, _, _, _, rfl, _⟩ := h
    rfl
  · obtain ⟨p, Fl, m, b, rfl, hp, ok, dn, hcl, q⟩ := h
    have nd := sc_Pusher__ask_behind.nd
    refine ⟨_, pss_cons (ps_if (PW.pt (pw_and (pt_cmpR op_eq (pv 1) pe_str (nomark _)) (pw_and1 (pt_cmpR op_notN (pe_fld (pv 0) rfl) pe_non (nomark _)))))
    (pss_one (ps_ret (pe_calM (pv 0) C_Pusher_ask hr (pa_cons (pe_tup (pa_cons pe_str (pa_cons (pe_fld (pv 0) rfl) (pa_cons pe_str (pa_cons (pe_calM0 (pv 0) C_Pusher_bundle hr) pa_nil))))) pa_nil))))
    (pss_nil))
  (pss_one (ps_ret (pe_calM (pv 0) C_Pusher_ask hr (pa_cons (pe_tup (pa_cons pe_str (pa_cons (pe_fld (pv 0) rfl) (pa_cons (pe_fld (pv 0) rfl) (pa_cons (pe_calM0 (pv 0) C_Pusher_address hr) pa_nil))))) pa_nil)))), ?_⟩

    cases b with
    | true =>
      refine ⟨_, rfl, rfl, _, rfl, ifF_s (by decide) (iteF ?_)⟩
      refine ⟨_, rfl, p.o, p.dx, _, rfl, hp.ob, rfl, _, rfl, p.o, cP, p.dx, _, _, rfl, hp.ob, T.clP, T.n_claim, rfl, _, rfl, p.o, cP, p.dx, _, _, rfl, hp.ob, T.clP, T.nname, rfl, _, rfl, p.o, p.dx, _, rfl, hp.ob, rfl, p, Fl, rfl, hp, ok, fun H1 s1 => ⟨szl, fun r nr => ?_⟩⟩
      have hp1 := hp.same s1
      have hp2 := hp1.same (same_upd nr (o := .tup [.str "name", Fl.cl, .str p.nm, .str p.tgt]))
      refine ⟨p, Fl, r, rfl, hp2, fun H' h' k' => ?_⟩
      refine q { Fl with rq := .ref r, num := Fl.num + 1 } H' ?_ rfl ((Kp.same (s1.trans (same_upd nr))).trans k')
      unfold behind
      rw [if_neg (fun z => nomatch z.1)]
      exact R.mk' hp2 upd_same h' k' dn (fun z => nomatch z) (fun _ => hcl) (fun z => by rcases z with z | z <;> cases z) (fun z => nomatch z) (by rw [hcl]; rfl)
    | false =>
      refine ⟨_, rfl, rfl, _, rfl, ifT_s ⟨_, rfl, p.o, cP, p.dx, _, _, rfl, hp.ob, T.clP, T.nplatform, rfl, rfl, _, rfl, ?_⟩⟩
      cases hpf : p.pf with
      | none =>
        refine iteF ?_
        refine ⟨_, rfl, p.o, p.dx, _, rfl, hp.ob, rfl, _, rfl, p.o, cP, p.dx, _, _, rfl, hp.ob, T.clP, T.n_claim, rfl, _, rfl, p.o, cP, p.dx, _, _, rfl, hp.ob, T.clP, T.nname, rfl, _, rfl, p.o, p.dx, _, rfl, hp.ob, rfl, p, Fl, rfl, hp, ok, fun H1 s1 => ⟨szl, fun r nr => ?_⟩⟩
        have hp1 := hp.same s1
        have hp2 := hp1.same (same_upd nr (o := .tup [.str "name", Fl.cl, .str p.nm, .str p.tgt]))
        refine ⟨p, Fl, r, rfl, hp2, fun H' h' k' => ?_⟩
        refine q { Fl with rq := .ref r, num := Fl.num + 1 } H' ?_ rfl ((Kp.same (s1.trans (same_upd nr))).trans k')
        unfold behind
        rw [if_neg (fun z => by rw [hpf] at z; exact nomatch z.2)]
        exact R.mk' hp2 upd_same h' k' dn (fun z => nomatch z) (fun _ => hcl) (fun z => by rcases z with z | z <;> cases z) (fun z => nomatch z) (by rw [hcl]; rfl)
      | some z =>
        refine iteT ⟨_, rfl, p.o, p.dx, _, rfl, hp.ob, rfl, _, rfl, p.o, cP, p.dx, _, _, rfl, hp.ob, T.clP, T.n_claim, rfl, _, rfl, p.o, p.dx, _, rfl, hp.ob, rfl, p, Fl, rfl, hp, ok, fun H1 s1 => ⟨szl, fun r nr => ?_⟩⟩
        rw [hpf]
        have hp1 := hp.same s1
        have hp2 := hp1.same (same_upd nr (o := .tup [.str "put", Fl.cl, .str "bundle", .str (p.bun z)]))
        refine ⟨p, Fl, r, rfl, hp2, fun H' h' k' => ?_⟩
        refine q { Fl with rq := .ref r, num := Fl.num + 1 } H' ?_ rfl ((Kp.same (s1.trans (same_upd nr))).trans k')
        unfold behind
        rw [if_pos ⟨rfl, by rw [hpf]; rfl⟩]
        exact R.mk' hp2 upd_same h' k' dn (fun z => nomatch z) (fun _ => hcl) (fun z => by rcases z with z | z <;> cases z) (fun z => nomatch z) (by rw [hcl]; show _ = [V.str "put", V.int m.cl, V.str (word true), V.str (p.bun (p.pf.getD ""))]; rw [hpf]; rfl)
end
end LW
namespace LW
open PySem PySem.Spec PyProof.Rows L2 GxR
def spTk (cP : Addr) (S : Stp → Prop) (nx : Psh → Ms → Rp → Option Ms) : Sp := fun vs H Q _ => ∃ (p : Psh) (Fl : Fl) (m : Ms) (rr : Addr) (r : Rp), vs = [.ref p.o, .ref rr] ∧ R cP p m Fl H ∧ POk p ∧ Wf p m ∧ S m.st ∧ H rr = some (.tup (r.keys.map kV)) ∧ r.ok ∧
  (nx p m r = none → ∀ H', Same H H' → Q (.bl false) H') ∧ (∀ m', nx p m r = some m' → ∀ F' H', R cP p m' F' H' → F'.num = Fl.num + (if m'.st = .done then 0 else 1) → Kp (Ob p) H H' → Q (.bl true) H')
theorem words_ok : ∀ x ∈ words, PyData.strOk x = true := by decide +kernel
theorem Rp.word_ok (r : Rp) : PyData.strOk r.word = true := words_ok _ (List.mem_of_getElem? r.at_)
theorem Rp.ok_of {r : Rp} (h : ∀ k ∈ r.rest, kOk k) : r.ok := fun k hk => by
  rcases List.mem_cons.mp hk with rfl | hk
  · exact r.word_ok
  · exact h k hk
theorem ok_s {x : Str} (h : PyData.strOk x = true) : ∀ k ∈ ([.inr x] : List Key), kOk k := fun k hk => by rw [List.mem_singleton.mp hk]; exact h
theorem ok_i {n : Int} : ∀ k ∈ ([.inl n] : List Key), kOk k := fun k hk => by rw [List.mem_singleton.mp hk]; exact True.intro
theorem ok_ss {x y : Str} (h : PyData.strOk x = true) (h' : PyData.strOk y = true) : ∀ k ∈ ([.inr x, .inr y] : List Key), kOk k := fun k hk => by
  rcases List.mem_cons.mp hk with rfl | hk
  · exact h
  · rw [List.mem_singleton.mp hk]; exact h'
theorem place_nd (p : Psh) (m : Ms) (i : Nat) : (place p m i).st ≠ .done := by
  unfold place
  split <;> exact fun z => nomatch z
theorem askP_nd (p : Psh) (m : Ms) (i : Nat) : (askP p m i).st ≠ .done := by
  unfold askP
  show (if _ then _ else _) ≠ _
  split <;> exact fun z => nomatch z
theorem behind_nd (p : Psh) (m : Ms) (b : Bool) : (behind p m b).st ≠ .done := by
  unfold behind
  split <;> exact fun z => nomatch z
theorem Rp.w0 (r : Rp) : atI (r.keys.map kV) 0 = some (.str r.word) := atI_nat (j := 0) rfl
theorem take2 (r : Rp) (n : Int) : (r.keys.take 2 = [.inr "have", .inl n]) ↔ ∃ k, r = .have_ n k := by
  constructor
  · intro h
    have hw : r.word = "have" := by
      have : r.keys.take 2 = .inr r.word :: r.rest.take 1 := rfl
      rw [this] at h
      injection h with h1 _
      injection h1
    have hi : r.ix = 3 := Decidable.byContradiction fun z => Rp.word_ne (r := r) (r' := .have_ 0 0) z hw
    cases r with
    | have_ n' k =>
      refine ⟨k, ?_⟩
      have h2 : ([.inr "have", .inl n'] : List Key) = ([.inr "have", .inl n] : List Key) := h
      injection h2 with _ h2
      injection h2 with h2 _
      injection h2 with h2
      rw [h2]
    | _ => simp [Rp.ix] at hi
  · rintro ⟨k, rfl⟩; rfl
abbrev s_Pusher__take_open : Stmt := inClass (topS 14) 9
abbrev N_Pusher__take_open : List Str := ["self", "reply"]
abbrev P_Pusher__take_open : List Str := ["self", "reply"]
theorem sc_Pusher__take_open : FnScope N_Pusher__take_open P_Pusher__take_open (defScope s_Pusher__take_open) := ⟨rfl, rfl, rfl, by decide +kernel, rfl, by decide +kernel, by decide +kernel⟩
def sp_Pusher__take_open (cP : Addr) : Sp := fun vs H Q _ => spTk cP (fun s => s = .opn) nextIn vs H Q (fun _ _ _ => True)
abbrev s_Pusher__take_start : Stmt := inClass (topS 14) 11
abbrev N_Pusher__take_start : List Str := ["self", "reply"]
abbrev P_Pusher__take_start : List Str := ["self", "reply"]
theorem sc_Pusher__take_start : FnScope N_Pusher__take_start P_Pusher__take_start (defScope s_Pusher__take_start) := ⟨rfl, rfl, rfl, by decide +kernel, rfl, by decide +kernel, by decide +kernel⟩
def sp_Pusher__take_start (cP : Addr) : Sp := fun vs H Q _ => spTk cP (fun s => s = .start) nextIn vs H Q (fun _ _ _ => True)
abbrev s_Pusher__take_has : Stmt := inClass (topS 14) 10
abbrev N_Pusher__take_has : List Str := ["self", "reply", "address"]
abbrev P_Pusher__take_has : List Str := ["self", "reply"]
theorem sc_Pusher__take_has : FnScope N_Pusher__take_has P_Pusher__take_has (defScope s_Pusher__take_has) := ⟨rfl, rfl, rfl, by decide +kernel, rfl, by decide +kernel, by decide +kernel⟩
def sp_Pusher__take_has (cP : Addr) : Sp := fun vs H Q _ => spTk cP (fun s => s = .has) nextIn vs H Q (fun _ _ _ => True)
abbrev s_Pusher__take_finish : Stmt := inClass (topS 14) 13
abbrev N_Pusher__take_finish : List Str := ["self", "reply", "address"]
abbrev P_Pusher__take_finish : List Str := ["self", "reply"]
theorem sc_Pusher__take_finish : FnScope N_Pusher__take_finish P_Pusher__take_finish (defScope s_Pusher__take_finish) := ⟨rfl, rfl, rfl, by decide +kernel, rfl, by decide +kernel, by decide +kernel⟩
def sp_Pusher__take_finish (cP : Addr) : Sp := fun vs H Q _ => spTk cP (fun s => s = .finish) nextIn vs H Q (fun _ _ _ => True)
section
variable {P : Program} {w : World} {K : PySem.W.Frag} {mg : Str → Option Value} {base : Heap} {cP : Addr}
theorem ok_Pusher__take_open {f : Addr} {fd : FuncData} (F : Fun K "_take_open" "Pusher._take_open" s_Pusher__take_open f fd) (T : Tx K mg cP)
    (C_Pusher_ask_layer : CalM P w K mg base CX0 4 cP "_ask_layer" P_Pusher__ask_layer (sp_Pusher__ask_layer cP)) : FnOk P w K mg base CX0 5 f fd P_Pusher__take_open (sp_Pusher__take_open cP) := by
  refine F.ok sc_Pusher__take_open (fun vs H Q E h => ?_) (fun cdv A outer s H vs Q E hr h => ?_)
  · obtain ⟨_, _, _, _, _, rfl, _⟩ := h
    rfl
  · obtain ⟨p, Fl, m, rr, r, rfl, hR, ok, wf, hs⟩ := h
    have nd := sc_Pusher__take_open.nd
    refine ⟨_, pss_cons (ps_if (pt_cmpR op_ne (pe_ix ix_tup (pv 1) pe_int (fun _ _ => rfl)) pe_str (nomark _))
    (pss_one (ps_ret pe_bl))
    (pss_nil))
  (pss_cons (ps_fld (pv 0) (pe_ix ix_tup (pv 1) pe_int (fun _ _ => rfl)) rfl)
  (pss_one (ps_ret (pe_calM (pv 0) C_Pusher_ask_layer hr (pa_cons pe_int pa_nil))))), ?_⟩

    obtain ⟨hst, hrr, rok, q1, q2⟩ := hs
    have hp := hR.at_
    have dn : Fl.dn = false := by rw [hR.dn, hst]; rfl
    have q3 : ∀ m', nextIn p m r = some m' → m'.st ≠ .done → ∀ F' H', R cP p m' F' H' → F'.num = Fl.num + 1 → Kp (Ob p) H H' → Q (.bl true) H' := fun m' e nd' F' H' r' n' k' => q2 m' e F' H' r' (by rw [if_neg nd']; exact n') k'
    refine ⟨_, rfl, rr, _, 0, _, rfl, rfl, SqT.of hrr, r.w0, rfl, _, rfl, ?_⟩
    rw [neq_str]
    cases r with
    | claim n =>
      refine ite2 (fun z => absurd rfl (of_decide_eq_true z)) (fun _ => ?_)
      obtain ⟨h1, k1⟩ := hp.put (F' := { Fl with cl := .int n })
      have e1 : putF "_claim" (.int n) (flds p Fl) = flds p { Fl with cl := .int n } := rfl
      refine ⟨_, rfl, rr, _, 1, .int n, rfl, rfl, SqT.of hrr, atI_nat (j := 1) rfl, _, rfl, p.o, cP, p.dx, flds p Fl, rfl, hp.ob, T.clP, T.n_claim, (by show 10 < 1000; decide), ?_⟩
      rw [e1]
      refine ⟨_, rfl, p.o, p.dx, _, rfl, h1.ob, rfl, p, { Fl with cl := .int n }, { m with cl := n }, 0, rfl, h1, ok, dn, rfl, Nat.zero_le _, fun F' H' r' n' k' => ?_⟩
      exact q3 (place p { m with cl := n } 0) (by unfold nextIn; rw [hst]) (place_nd _ _ _) F' H' r' n' (k1.trans k')
    | _ =>
      refine ite2 (fun _ => q1 (by unfold nextIn; rw [hst]) H (fun _ _ e => e)) (fun z => absurd (decide_eq_true (Rp.word_ne (r' := .claim 0) (by simp [Rp.ix]))) z)
theorem ok_Pusher__take_start {f : Addr} {fd : FuncData} (F : Fun K "_take_start" "Pusher._take_start" s_Pusher__take_start f fd) (T : Tx K mg cP)
    (C_Pusher_ask_part : CalM P w K mg base CX0 2 cP "_ask_part" P_Pusher__ask_part (sp_Pusher__ask_part cP)) : FnOk P w K mg base CX0 3 f fd P_Pusher__take_start (sp_Pusher__take_start cP) := by
  refine F.ok sc_Pusher__take_start (fun vs H Q E h => ?_) (fun cdv A outer s H vs Q E hr h => ?_)
  · obtain ⟨_, _, _, _, _, rfl, _⟩ := h
    rfl
  · obtain ⟨p, Fl, m, rr, r, rfl, hR, ok, wf, hs⟩ := h
    have nd := sc_Pusher__take_start.nd
    refine ⟨_, pss_cons (ps_if (pt_cmpR op_ne (pe_ix ix_tup (pv 1) pe_int (fun _ _ => rfl)) pe_str (nomark _))
    (pss_one (ps_ret pe_bl))
    (pss_nil))
  (pss_cons (ps_fld (pv 0) (pe_ix ix_tup (pv 1) pe_int (fun _ _ => rfl)) rfl)
  (pss_one (ps_ret (pe_calM (pv 0) C_Pusher_ask_part hr (pa_cons pe_int pa_nil))))), ?_⟩

    obtain ⟨hst, hrr, rok, q1, q2⟩ := hs
    have hp := hR.at_
    have dn : Fl.dn = false := by rw [hR.dn, hst]; rfl
    have q3 : ∀ m', nextIn p m r = some m' → m'.st ≠ .done → ∀ F' H', R cP p m' F' H' → F'.num = Fl.num + 1 → Kp (Ob p) H H' → Q (.bl true) H' := fun m' e nd' F' H' r' n' k' => q2 m' e F' H' r' (by rw [if_neg nd']; exact n') k'
    have hpl := wf.pl (by rw [hst]; rfl)
    have hix := hR.ix (by rw [hst]; rfl)
    have hcl := hR.cl (by rw [hst]; exact fun z => nomatch z)
    refine ⟨_, rfl, rr, _, 0, _, rfl, rfl, SqT.of hrr, r.w0, rfl, _, rfl, ?_⟩
    rw [neq_str]
    cases r with
    | upload n =>
      refine ite2 (fun z => absurd rfl (of_decide_eq_true z)) (fun _ => ?_)
      obtain ⟨h1, k1⟩ := hp.put (F' := { Fl with up := .int n })
      have e1 : putF "_upload" (.int n) (flds p Fl) = flds p { Fl with up := .int n } := rfl
      refine ⟨_, rfl, rr, _, 1, .int n, rfl, rfl, SqT.of hrr, atI_nat (j := 1) rfl, _, rfl, p.o, cP, p.dx, flds p Fl, rfl, hp.ob, T.clP, T.n_upload, (by show 10 < 1000; decide), ?_⟩
      rw [e1]
      refine ⟨_, rfl, p.o, p.dx, _, rfl, h1.ob, rfl, p, { Fl with up := .int n }, { m with up := n }, 0, rfl, h1, ok, dn, hcl, rfl, hix, hpl, fun F' H' r' n' k' => ?_⟩
      exact q3 (askP p { m with up := n } 0) (by unfold nextIn; rw [hst]) (askP_nd _ _ _) F' H' r' n' (k1.trans k')
    | _ =>
      refine ite2 (fun _ => q1 (by unfold nextIn; rw [hst]) H (fun _ _ e => e)) (fun z => absurd (decide_eq_true (Rp.word_ne (r' := .upload 0) (by simp [Rp.ix]))) z)
theorem ok_Pusher__take_has {f : Addr} {fd : FuncData} (F : Fun K "_take_has" "Pusher._take_has" s_Pusher__take_has f fd) (T : Tx K mg cP)
    (C_Pusher_ask : CalM P w K mg base CX0 1 cP "_ask" P_Pusher__ask (sp_Pusher__ask cP))
    (C_Pusher_ask_layer : CalM P w K mg base CX0 4 cP "_ask_layer" P_Pusher__ask_layer (sp_Pusher__ask_layer cP)) : FnOk P w K mg base CX0 5 f fd P_Pusher__take_has (sp_Pusher__take_has cP) := by
  refine F.ok sc_Pusher__take_has (fun vs H Q E h => ?_) (fun cdv A outer s H vs Q E hr h => ?_)
  · obtain ⟨_, _, _, _, _, rfl, _⟩ := h
    rfl
  · obtain ⟨p, Fl, m, rr, r, rfl, hR, ok, wf, hs⟩ := h
    have nd := sc_Pusher__take_has.nd
    refine ⟨_, pss_cons (ps_set (i := 2) nd rfl (Or.inl rfl) (pe_ix ix_list (pe_fld (pv 0) rfl) (pe_fld (pv 0) rfl) (fun _ _ => rfl)))
  (pss_cons (ps_if (pt_cmpR (op_eqD hr.units) (pv 1) (pe_tup (pa_cons pe_str (pa_cons (pv 2) pa_nil))) (nomark _))
    (pss_one (ps_ret (pe_calM (pv 0) C_Pusher_ask_layer hr (pa_cons (pe_op op_add (pe_fld (pv 0) rfl) pe_int) pa_nil))))
    (pss_nil))
  (pss_cons (ps_if (pt_cmpR (op_eqD hr.units) (pv 1) (pe_tup (pa_cons pe_str (pa_cons (pv 2) pa_nil))) (nomark _))
    (pss_one (ps_ret (pe_calM (pv 0) C_Pusher_ask hr (pa_cons (pe_tup (pa_cons pe_str (pa_cons (pe_fld (pv 0) rfl) pa_nil))) pa_nil))))
    (pss_nil))
  (pss_one (ps_ret pe_bl)))), ?_⟩

    obtain ⟨hst, hrr, rok, q1, q2⟩ := hs
    have hp := hR.at_
    have dn : Fl.dn = false := by rw [hR.dn, hst]; rfl
    have q3 : ∀ m', nextIn p m r = some m' → m'.st ≠ .done → ∀ F' H', R cP p m' F' H' → F'.num = Fl.num + 1 → Kp (Ob p) H H' → Q (.bl true) H' := fun m' e nd' F' H' r' n' k' => q2 m' e F' H' r' (by rw [if_neg nd']; exact n') k'
    have hpl := wf.pl (by rw [hst]; rfl)
    have hix := hR.ix (by rw [hst]; rfl)
    have hcl := hR.cl (by rw [hst]; exact fun z => nomatch z)
    have la := adOf_ok 0 (p.lay m.pl)
    refine ⟨_, rfl, p.o, cP, p.dx, _, _, rfl, hp.ob, T.clP, T.n_addresses, rfl, _, rfl, p.o, cP, p.dx, _, _, rfl, hp.ob, T.clP, T.n_index, rfl, p.A, _, _, .str (p.la m.pl), rfl, rfl, SqL.of hp.hA, by rw [hix]; exact atI_nat (lay_at hpl).2, ?_⟩
    refine ⟨_, rfl, _, rfl, szl, fun t1 n1 => ⟨_, _, dp_tup (same_upd n1 _ _ hrr), dp_tup (ks := (Rp.kept (p.la m.pl)).keys) upd_same, shaped_keys rok, shaped_keys (Rp.ok_of (ok_s la)), _, rfl, ?_⟩⟩
    rw [eqv_rp]
    have s1 : Same H _ := same_upd n1 (o := .tup ((Rp.kept (p.la m.pl)).keys.map kV))
    have hp1 := hp.same s1
    refine ite2 (fun e => ?_) (fun e => ?_)
    · have e' := of_decide_eq_true e
      refine ⟨_, rfl, p.o, p.dx, _, rfl, hp1.ob, rfl, _, rfl, p.o, cP, p.dx, _, _, rfl, hp1.ob, T.clP, T.n_index, rfl, _, _, rfl, rfl, p, Fl, m, m.pl + 1, by rw [hix]; rfl, hp1, ok, dn, hcl, hpl, fun F' H' r' n' k' => ?_⟩
      exact q3 (place p m (m.pl + 1)) (by unfold nextIn; rw [hst]; exact if_pos e') (place_nd _ _ _) F' H' r' n' ((Kp.same s1).trans k')
    have e' := of_decide_eq_false (Bool.eq_false_iff.mpr e)
    refine ⟨_, rfl, _, rfl, szl, fun t2 n2 => ⟨_, _, dp_tup (same_upd n2 _ _ (s1 _ _ hrr)), dp_tup (ks := (Rp.lacks (p.la m.pl)).keys) upd_same, shaped_keys rok, shaped_keys (Rp.ok_of (ok_s la)), _, rfl, ?_⟩⟩
    rw [eqv_rp]
    have s2 : Same H _ := s1.trans (same_upd n2 (o := .tup ((Rp.lacks (p.la m.pl)).keys.map kV)))
    have hp2 := hp.same s2
    refine ite2 (fun e2 => ?_) (fun e2 => ?_)
    · have e2' := of_decide_eq_true e2
      refine ⟨_, rfl, p.o, p.dx, _, rfl, hp2.ob, rfl, _, rfl, p.o, cP, p.dx, _, _, rfl, hp2.ob, T.clP, T.n_claim, rfl, szl, fun rq nr => ?_⟩
      have hp3 := hp2.same (same_upd nr (o := .tup [.str "start", Fl.cl]))
      refine ⟨p, Fl, rq, rfl, hp3, fun H' h' k' => ?_⟩
      refine q3 { m with st := .start } (by unfold nextIn; rw [hst]; exact (if_neg e').trans (if_pos e2')) (fun z => nomatch z) { Fl with rq := .ref rq, num := Fl.num + 1 } H' ?_ rfl ((Kp.same (s2.trans (same_upd nr))).trans k')
      exact R.mk' hp3 upd_same h' k' dn (fun z => nomatch z) (fun _ => hcl) (fun z => by rcases z with z | z <;> cases z) (fun _ => hix) (by rw [hcl]; rfl)
    have e2' := of_decide_eq_false (Bool.eq_false_iff.mpr e2)
    exact q1 (by unfold nextIn; rw [hst]; exact (if_neg e').trans (if_neg e2')) _ s2
theorem ok_Pusher__take_finish {f : Addr} {fd : FuncData} (F : Fun K "_take_finish" "Pusher._take_finish" s_Pusher__take_finish f fd) (T : Tx K mg cP)
    (C_Pusher_ask : CalM P w K mg base CX0 1 cP "_ask" P_Pusher__ask (sp_Pusher__ask cP))
    (C_Pusher_ask_layer : CalM P w K mg base CX0 4 cP "_ask_layer" P_Pusher__ask_layer (sp_Pusher__ask_layer cP)) : FnOk P w K mg base CX0 5 f fd P_Pusher__take_finish (sp_Pusher__take_finish cP) := by
  refine F.ok sc_Pusher__take_finish (fun vs H Q E h => ?_) (fun cdv A outer s H vs Q E hr h => ?_)
  · obtain ⟨_, _, _, _, _, rfl, _⟩ := h
    rfl
  · obtain ⟨p, Fl, m, rr, r, rfl, hR, ok, wf, hs⟩ := h
    have nd := sc_Pusher__take_finish.nd
    refine ⟨_, pss_cons (ps_set (i := 2) nd rfl (Or.inl rfl) (pe_ix ix_list (pe_fld (pv 0) rfl) (pe_fld (pv 0) rfl) (fun _ _ => rfl)))
  (pss_cons (ps_if (pt_cmpR (op_eqD hr.units) (pv 1) (pe_tup (pa_cons pe_str (pa_cons (pv 2) pa_nil))) (nomark _))
    (pss_one (ps_ret (pe_calM (pv 0) C_Pusher_ask_layer hr (pa_cons (pe_op op_add (pe_fld (pv 0) rfl) pe_int) pa_nil))))
    (pss_nil))
  (pss_cons (ps_if (pt_cmpR (op_eqD hr.units) (pv 1) (pe_tup (pa_cons pe_str (pa_cons (pv 2) pa_nil))) (nomark _))
    (pss_one (ps_ret (pe_calM (pv 0) C_Pusher_ask hr (pa_cons (pe_tup (pa_cons pe_str (pa_cons (pe_fld (pv 0) rfl) pa_nil))) pa_nil))))
    (pss_nil))
  (pss_cons (ps_if (pt_cmpR (op_eqD hr.units) (pv 1) (pe_tup (pa_cons pe_str (pa_cons (pe_fld (pv 0) rfl) pa_nil))) (nomark _))
    (pss_one (ps_ret (pe_calM (pv 0) C_Pusher_ask_layer hr (pa_cons (pe_fld (pv 0) rfl) pa_nil))))
    (pss_nil))
  (pss_one (ps_ret pe_bl))))), ?_⟩

    obtain ⟨hst, hrr, rok, q1, q2⟩ := hs
    have hp := hR.at_
    have dn : Fl.dn = false := by rw [hR.dn, hst]; rfl
    have q3 : ∀ m', nextIn p m r = some m' → m'.st ≠ .done → ∀ F' H', R cP p m' F' H' → F'.num = Fl.num + 1 → Kp (Ob p) H H' → Q (.bl true) H' := fun m' e nd' F' H' r' n' k' => q2 m' e F' H' r' (by rw [if_neg nd']; exact n') k'
    have hpl := wf.pl (by rw [hst]; rfl)
    have hix := hR.ix (by rw [hst]; rfl)
    have hcl := hR.cl (by rw [hst]; exact fun z => nomatch z)
    have la := adOf_ok 0 (p.lay m.pl)
    refine ⟨_, rfl, p.o, cP, p.dx, _, _, rfl, hp.ob, T.clP, T.n_addresses, rfl, _, rfl, p.o, cP, p.dx, _, _, rfl, hp.ob, T.clP, T.n_index, rfl, p.A, _, _, .str (p.la m.pl), rfl, rfl, SqL.of hp.hA, by rw [hix]; exact atI_nat (lay_at hpl).2, ?_⟩
    refine ⟨_, rfl, _, rfl, szl, fun t1 n1 => ⟨_, _, dp_tup (same_upd n1 _ _ hrr), dp_tup (ks := (Rp.kept (p.la m.pl)).keys) upd_same, shaped_keys rok, shaped_keys (Rp.ok_of (ok_s la)), _, rfl, ?_⟩⟩
    rw [eqv_rp]
    have s1 : Same H _ := same_upd n1 (o := .tup ((Rp.kept (p.la m.pl)).keys.map kV))
    have hp1 := hp.same s1
    refine ite2 (fun e => ?_) (fun e => ?_)
    · have e' := of_decide_eq_true e
      refine ⟨_, rfl, p.o, p.dx, _, rfl, hp1.ob, rfl, _, rfl, p.o, cP, p.dx, _, _, rfl, hp1.ob, T.clP, T.n_index, rfl, _, _, rfl, rfl, p, Fl, m, m.pl + 1, by rw [hix]; rfl, hp1, ok, dn, hcl, hpl, fun F' H' r' n' k' => ?_⟩
      exact q3 (place p m (m.pl + 1)) (by unfold nextIn; rw [hst]; exact if_pos e') (place_nd _ _ _) F' H' r' n' ((Kp.same s1).trans k')
    have e' := of_decide_eq_false (Bool.eq_false_iff.mpr e)
    refine ⟨_, rfl, _, rfl, szl, fun t2 n2 => ⟨_, _, dp_tup (same_upd n2 _ _ (s1 _ _ hrr)), dp_tup (ks := (Rp.wrong (p.la m.pl)).keys) upd_same, shaped_keys rok, shaped_keys (Rp.ok_of (ok_s la)), _, rfl, ?_⟩⟩
    rw [eqv_rp]
    have s2 : Same H _ := s1.trans (same_upd n2 (o := .tup ((Rp.wrong (p.la m.pl)).keys.map kV)))
    have hp2 := hp.same s2
    refine ite2 (fun e2 => ?_) (fun e2 => ?_)
    · have e2' := of_decide_eq_true e2
      refine ⟨_, rfl, p.o, p.dx, _, rfl, hp2.ob, rfl, _, rfl, p.o, cP, p.dx, _, _, rfl, hp2.ob, T.clP, T.n_claim, rfl, szl, fun rq nr => ?_⟩
      have hp3 := hp2.same (same_upd nr (o := .tup [.str "start", Fl.cl]))
      refine ⟨p, Fl, rq, rfl, hp3, fun H' h' k' => ?_⟩
      refine q3 { m with st := .start } (by unfold nextIn; rw [hst]; exact (if_neg e').trans (if_pos e2')) (fun z => nomatch z) { Fl with rq := .ref rq, num := Fl.num + 1 } H' ?_ rfl ((Kp.same (s2.trans (same_upd nr))).trans k')
      exact R.mk' hp3 upd_same h' k' dn (fun z => nomatch z) (fun _ => hcl) (fun z => by rcases z with z | z <;> cases z) (fun _ => hix) (by rw [hcl]; rfl)
    have e2' := of_decide_eq_false (Bool.eq_false_iff.mpr e2)
    have hup := hR.up (by rw [hst]; exact .inr rfl)
    refine ⟨_, rfl, _, rfl, p.o, cP, p.dx, _, _, rfl, hp2.ob, T.clP, T.n_upload, rfl, szl, fun t3 n3 => ⟨_, _, dp_tup (same_upd n3 _ _ (s2 _ _ hrr)), dp_tup (ks := (Rp.gone m.up).keys) (by rw [hup]; exact upd_same), shaped_keys rok, shaped_keys (Rp.ok_of ok_i), _, rfl, ?_⟩⟩
    rw [eqv_rp]
    have s3 : Same H _ := s2.trans (same_upd n3 (o := .tup [.str "gone", Fl.up]))
    have hp3 := hp.same s3
    refine ite2 (fun e3 => ?_) (fun e3 => ?_)
    · have e3' := of_decide_eq_true e3
      refine ⟨_, rfl, p.o, p.dx, _, rfl, hp3.ob, rfl, _, rfl, p.o, cP, p.dx, _, _, rfl, hp3.ob, T.clP, T.n_index, rfl, p, Fl, m, m.pl, by rw [hix]; rfl, hp3, ok, dn, hcl, Nat.le_of_lt hpl, fun F' H' r' n' k' => ?_⟩
      have ep : place p m m.pl = { m with st := .has } := by unfold place; rw [if_pos hpl]
      rw [ep] at r'
      exact q3 { m with st := .has } (by unfold nextIn; rw [hst]; exact (if_neg e').trans ((if_neg e2').trans (if_pos e3'))) (fun z => nomatch z) F' H' r' n' ((Kp.same s3).trans k')
    · have e3' := of_decide_eq_false (Bool.eq_false_iff.mpr e3)
      exact q1 (by unfold nextIn; rw [hst]; exact (if_neg e').trans ((if_neg e2').trans (if_neg e3'))) _ s3
end
end LW
namespace LW
open PySem PySem.Spec PyProof.Rows L2 GxR
/-- reply[:2] -/
theorem cut2 (r : Rp) : cutV (r.keys.map kV) none (some 2) = (r.keys.take 2).map kV := by
  have h : (HT.sIx (r.keys.map kV).length (r.keys.map kV).length (some (2 : Nat))) = min 2 (r.keys.map kV).length := HT.sIx_nat _ _ 2
  show ((r.keys.map kV).drop 0).take ((HT.sIx (r.keys.map kV).length (r.keys.map kV).length (some ((2 : Nat) : Int))) - 0) = _
  rw [h, List.drop_zero, Nat.sub_zero, List.map_take]
  cases r <;> rfl
theorem have_ok (n : Int) : ∀ k ∈ ([.inr "have", .inl n] : List Key), kOk k := fun k hk => by
  rcases List.mem_cons.mp hk with rfl | hk
  · exact (by decide +kernel : PyData.strOk "have" = true)
  · rw [List.mem_singleton.mp hk]; exact True.intro
theorem cut_whole {r : Rp} (h : HT.sIx (r.keys.map kV).length 0 none = 0 ∧ HT.sIx (r.keys.map kV).length (r.keys.map kV).length (some 2) = (r.keys.map kV).length) : (r.keys.take 2).map kV = r.keys.map kV := by
  have e := h.2
  have h2 : (HT.sIx (r.keys.map kV).length (r.keys.map kV).length (some ((2 : Nat) : Int))) = min 2 (r.keys.map kV).length := HT.sIx_nat _ _ 2
  have e2 : min 2 (r.keys.map kV).length = (r.keys.map kV).length := h2.symm.trans e
  rw [List.length_map] at e2
  rw [List.take_of_length_le (by omega)]
abbrev s_Pusher__take_part : Stmt := inClass (topS 14) 12
abbrev N_Pusher__take_part : List Str := ["self", "reply"]
abbrev P_Pusher__take_part : List Str := ["self", "reply"]
theorem sc_Pusher__take_part : FnScope N_Pusher__take_part P_Pusher__take_part (defScope s_Pusher__take_part) := ⟨rfl, rfl, rfl, by decide +kernel, rfl, by decide +kernel, by decide +kernel⟩
def sp_Pusher__take_part (cP : Addr) : Sp := fun vs H Q _ => spTk cP (fun s => s = .part) nextIn vs H Q (fun _ _ _ => True)
abbrev s_Pusher__take_name : Stmt := inClass (topS 14) 16
abbrev N_Pusher__take_name : List Str := ["self", "reply"]
abbrev P_Pusher__take_name : List Str := ["self", "reply"]
theorem sc_Pusher__take_name : FnScope N_Pusher__take_name P_Pusher__take_name (defScope s_Pusher__take_name) := ⟨rfl, rfl, rfl, by decide +kernel, rfl, by decide +kernel, by decide +kernel⟩
def sp_Pusher__take_name (cP : Addr) : Sp := fun vs H Q _ => spTk cP (fun s => s = .name) nextIn vs H Q (fun _ _ _ => True)
abbrev s_Pusher__take_close : Stmt := inClass (topS 14) 17
abbrev N_Pusher__take_close : List Str := ["self", "reply"]
abbrev P_Pusher__take_close : List Str := ["self", "reply"]
theorem sc_Pusher__take_close : FnScope N_Pusher__take_close P_Pusher__take_close (defScope s_Pusher__take_close) := ⟨rfl, rfl, rfl, by decide +kernel, rfl, by decide +kernel, by decide +kernel⟩
def sp_Pusher__take_close (cP : Addr) : Sp := fun vs H Q _ => spTk cP (fun s => s = .close) nextIn vs H Q (fun _ _ _ => True)
section
variable {P : Program} {w : World} {K : PySem.W.Frag} {mg : Str → Option Value} {base : Heap} {cP : Addr}
theorem ok_Pusher__take_part {f : Addr} {fd : FuncData} (F : Fun K "_take_part" "Pusher._take_part" s_Pusher__take_part f fd) (T : Tx K mg cP)
    (C_Pusher_ask_layer : CalM P w K mg base CX0 4 cP "_ask_layer" P_Pusher__ask_layer (sp_Pusher__ask_layer cP))
    (C_Pusher_ask_part : CalM P w K mg base CX0 2 cP "_ask_part" P_Pusher__ask_part (sp_Pusher__ask_part cP)) : FnOk P w K mg base CX0 5 f fd P_Pusher__take_part (sp_Pusher__take_part cP) := by
  refine F.ok sc_Pusher__take_part (fun vs H Q E h => ?_) (fun cdv A outer s H vs Q E hr h => ?_)
  · obtain ⟨_, _, _, _, _, rfl, _⟩ := h
    rfl
  · obtain ⟨p, Fl, m, rr, r, rfl, hR, ok, wf, hs⟩ := h
    have nd := sc_Pusher__take_part.nd
    refine ⟨_, pss_cons (ps_if (pt_cmpR (op_eqD hr.units) (pe_slice sl_tupA (pv 1) po_none (po_some pe_int)) (pe_tup (pa_cons pe_str (pa_cons (pe_fld (pv 0) rfl) pa_nil))) (nomark _))
    (pss_one (ps_ret (pe_calM (pv 0) C_Pusher_ask_part hr (pa_cons (pe_ix ix_tup (pv 1) pe_int (fun _ _ => rfl)) pa_nil))))
    (pss_nil))
  (pss_cons (ps_if (pt_cmpR (op_eqD hr.units) (pv 1) (pe_tup (pa_cons pe_str (pa_cons (pe_fld (pv 0) rfl) pa_nil))) (nomark _))
    (pss_one (ps_ret (pe_calM (pv 0) C_Pusher_ask_layer hr (pa_cons (pe_fld (pv 0) rfl) pa_nil))))
    (pss_nil))
  (pss_one (ps_ret pe_bl))), ?_⟩

    obtain ⟨hst, hrr, rok, q1, q2⟩ := hs
    have hp := hR.at_
    have dn : Fl.dn = false := by rw [hR.dn, hst]; rfl
    have q3 : ∀ m', nextIn p m r = some m' → m'.st ≠ .done → ∀ F' H', R cP p m' F' H' → F'.num = Fl.num + 1 → Kp (Ob p) H H' → Q (.bl true) H' := fun m' e nd' F' H' r' n' k' => q2 m' e F' H' r' (by rw [if_neg nd']; exact n') k'
    have hpl := wf.pl (by rw [hst]; rfl)
    have hix := hR.ix (by rw [hst]; rfl)
    have hcl := hR.cl (by rw [hst]; exact fun z => nomatch z)
    have hup := hR.up (by rw [hst]; exact .inl rfl)
    refine ⟨_, rfl, _, rfl, rr, _, rfl, SqT.of hrr, fun hw => ?_, fun hw a1 n1 => ?_⟩
    · have s1 : Same H H := fun _ _ e => e
      have h1 : H rr = some (.tup ((r.keys.take 2).map kV)) := by rw [cut_whole hw]; exact hrr
      have hp1 := hp.same s1
      refine ⟨_, rfl, p.o, cP, p.dx, _, _, rfl, hp1.ob, T.clP, T.n_upload, rfl, szl, fun t nt => ⟨_, _, dp_tup (ks := r.keys.take 2) (same_upd nt _ _ h1), dp_tup (ks := [.inr "have", .inl m.up]) (by rw [hup]; exact upd_same), shaped_keys (fun k hk => rok k (List.mem_of_mem_take hk)), shaped_keys (have_ok _), _, rfl, ?_⟩⟩
      rw [eqv_tup]
      have s2 : Same H _ := s1.trans (same_upd nt (o := .tup [.str "have", Fl.up]))
      have hp2 := hp.same s2
      by_cases hk : ∃ k, r = .have_ m.up k
      · rw [decide_eq_true ((take2 r m.up).mpr hk)]
        obtain ⟨k, rfl⟩ := hk
        refine iteT ⟨_, rfl, p.o, p.dx, _, rfl, hp2.ob, rfl, _, rfl, rr, _, 2, .int (k : Int), rfl, rfl, SqT.of (s2 _ _ hrr), atI_nat (j := 2) rfl, p, Fl, m, k, rfl, hp2, ok, dn, hcl, hup, hix, hpl, fun F' H' r' n' k' => ?_⟩
        exact q3 (askP p m k) (by unfold nextIn; rw [hst]; exact if_pos rfl) (askP_nd _ _ _) F' H' r' n' ((Kp.same s2).trans k')
      · rw [decide_eq_false (fun z => hk ((take2 r m.up).mp z))]
        refine iteF ⟨_, rfl, _, rfl, p.o, cP, p.dx, _, _, rfl, hp2.ob, T.clP, T.n_upload, rfl, szl, fun t3 n3 => ⟨_, _, dp_tup (same_upd n3 _ _ (s2 _ _ hrr)), dp_tup (ks := (Rp.gone m.up).keys) (by rw [hup]; exact upd_same), shaped_keys rok, shaped_keys (Rp.ok_of ok_i), _, rfl, ?_⟩⟩
        rw [eqv_rp]
        have s3 : Same H _ := s2.trans (same_upd n3 (o := .tup [.str "gone", Fl.up]))
        have hp3 := hp.same s3
        by_cases e3 : r = .gone m.up
        · rw [decide_eq_true e3]
          refine iteT ⟨_, rfl, p.o, p.dx, _, rfl, hp3.ob, rfl, _, rfl, p.o, cP, p.dx, _, _, rfl, hp3.ob, T.clP, T.n_index, rfl, p, Fl, m, m.pl, by rw [hix]; rfl, hp3, ok, dn, hcl, Nat.le_of_lt hpl, fun F' H' r' n' k' => ?_⟩
          have ep : place p m m.pl = { m with st := .has } := by unfold place; rw [if_pos hpl]
          rw [ep] at r'
          exact q3 { m with st := .has } (by unfold nextIn; rw [hst, e3]; exact if_pos rfl) (fun z => nomatch z) F' H' r' n' ((Kp.same s3).trans k')
        · rw [decide_eq_false e3]
          refine iteF (q1 ?_ _ s3)
          unfold nextIn
          rw [hst]
          cases r with
          | have_ n k => exact if_neg (fun z => hk ⟨k, by rw [z]⟩)
          | gone n => exact if_neg (fun z => e3 (by rw [z]))
          | _ => rfl
    · rw [cut2]
      have s1 : Same H _ := same_upd n1 (o := .tup ((r.keys.take 2).map kV))
      have h1 : (L2.upd H a1 (.tup ((r.keys.take 2).map kV))) a1 = some (.tup ((r.keys.take 2).map kV)) := upd_same
      generalize L2.upd H a1 (.tup ((r.keys.take 2).map kV)) = H1 at s1 h1
      have hp1 := hp.same s1
      refine ⟨_, rfl, p.o, cP, p.dx, _, _, rfl, hp1.ob, T.clP, T.n_upload, rfl, szl, fun t nt => ⟨_, _, dp_tup (ks := r.keys.take 2) (same_upd nt _ _ h1), dp_tup (ks := [.inr "have", .inl m.up]) (by rw [hup]; exact upd_same), shaped_keys (fun k hk => rok k (List.mem_of_mem_take hk)), shaped_keys (have_ok _), _, rfl, ?_⟩⟩
      rw [eqv_tup]
      have s2 : Same H _ := s1.trans (same_upd nt (o := .tup [.str "have", Fl.up]))
      have hp2 := hp.same s2
      by_cases hk : ∃ k, r = .have_ m.up k
      · rw [decide_eq_true ((take2 r m.up).mpr hk)]
        obtain ⟨k, rfl⟩ := hk
        refine iteT ⟨_, rfl, p.o, p.dx, _, rfl, hp2.ob, rfl, _, rfl, rr, _, 2, .int (k : Int), rfl, rfl, SqT.of (s2 _ _ hrr), atI_nat (j := 2) rfl, p, Fl, m, k, rfl, hp2, ok, dn, hcl, hup, hix, hpl, fun F' H' r' n' k' => ?_⟩
        exact q3 (askP p m k) (by unfold nextIn; rw [hst]; exact if_pos rfl) (askP_nd _ _ _) F' H' r' n' ((Kp.same s2).trans k')
      · rw [decide_eq_false (fun z => hk ((take2 r m.up).mp z))]
        refine iteF ⟨_, rfl, _, rfl, p.o, cP, p.dx, _, _, rfl, hp2.ob, T.clP, T.n_upload, rfl, szl, fun t3 n3 => ⟨_, _, dp_tup (same_upd n3 _ _ (s2 _ _ hrr)), dp_tup (ks := (Rp.gone m.up).keys) (by rw [hup]; exact upd_same), shaped_keys rok, shaped_keys (Rp.ok_of ok_i), _, rfl, ?_⟩⟩
        rw [eqv_rp]
        have s3 : Same H _ := s2.trans (same_upd n3 (o := .tup [.str "gone", Fl.up]))
        have hp3 := hp.same s3
        by_cases e3 : r = .gone m.up
        · rw [decide_eq_true e3]
          refine iteT ⟨_, rfl, p.o, p.dx, _, rfl, hp3.ob, rfl, _, rfl, p.o, cP, p.dx, _, _, rfl, hp3.ob, T.clP, T.n_index, rfl, p, Fl, m, m.pl, by rw [hix]; rfl, hp3, ok, dn, hcl, Nat.le_of_lt hpl, fun F' H' r' n' k' => ?_⟩
          have ep : place p m m.pl = { m with st := .has } := by unfold place; rw [if_pos hpl]
          rw [ep] at r'
          exact q3 { m with st := .has } (by unfold nextIn; rw [hst, e3]; exact if_pos rfl) (fun z => nomatch z) F' H' r' n' ((Kp.same s3).trans k')
        · rw [decide_eq_false e3]
          refine iteF (q1 ?_ _ s3)
          unfold nextIn
          rw [hst]
          cases r with
          | have_ n k => exact if_neg (fun z => hk ⟨k, by rw [z]⟩)
          | gone n => exact if_neg (fun z => e3 (by rw [z]))
          | _ => rfl
theorem ok_Pusher__take_name {f : Addr} {fd : FuncData} (F : Fun K "_take_name" "Pusher._take_name" s_Pusher__take_name f fd) (T : Tx K mg cP)
    (C_Pusher_ask : CalM P w K mg base CX0 1 cP "_ask" P_Pusher__ask (sp_Pusher__ask cP))
    (C_Pusher_ask_layer : CalM P w K mg base CX0 4 cP "_ask_layer" P_Pusher__ask_layer (sp_Pusher__ask_layer cP))
    (C_Pusher_address : CalM P w K mg base CX0 5 cP "address" P_Pusher_address (sp_Pusher_address cP)) : FnOk P w K mg base CX0 6 f fd P_Pusher__take_name (sp_Pusher__take_name cP) := by
  refine F.ok sc_Pusher__take_name (fun vs H Q E h => ?_) (fun cdv A outer s H vs Q E hr h => ?_)
  · obtain ⟨_, _, _, _, _, rfl, _⟩ := h
    rfl
  · obtain ⟨p, Fl, m, rr, r, rfl, hR, ok, wf, hs⟩ := h
    have nd := sc_Pusher__take_name.nd
    refine ⟨_, pss_cons (ps_if (pt_cmpR (op_eqD hr.units) (pv 1) (pe_tup (pa_cons pe_str (pa_cons (pe_fld (pv 0) rfl) (pa_cons (pe_calM0 (pv 0) C_Pusher_address hr) pa_nil)))) (nomark _))
    (pss_one (ps_ret (pe_calM (pv 0) C_Pusher_ask hr (pa_cons (pe_tup (pa_cons pe_str (pa_cons (pe_fld (pv 0) rfl) pa_nil))) pa_nil))))
    (pss_nil))
  (pss_cons (ps_if (pt_cmpR (op_eqD hr.units) (pv 1) (pe_tup (pa_cons pe_str (pa_cons (pe_calM0 (pv 0) C_Pusher_address hr) pa_nil))) (nomark _))
    (pss_one (ps_ret (pe_calM (pv 0) C_Pusher_ask_layer hr (pa_cons pe_int pa_nil))))
    (pss_nil))
  (pss_one (ps_ret pe_bl))), ?_⟩

    obtain ⟨hst, hrr, rok, q1, q2⟩ := hs
    have hp := hR.at_
    have dn : Fl.dn = false := by rw [hR.dn, hst]; rfl
    have q3 : ∀ m', nextIn p m r = some m' → m'.st ≠ .done → ∀ F' H', R cP p m' F' H' → F'.num = Fl.num + 1 → Kp (Ob p) H H' → Q (.bl true) H' := fun m' e nd' F' H' r' n' k' => q2 m' e F' H' r' (by rw [if_neg nd']; exact n') k'
    have hcl := hR.cl (by rw [hst]; exact fun z => nomatch z)
    have tg : PyData.strOk p.tgt = true := by
      unfold Psh.tgt
      split <;> exact adOf_ok _ _
    refine ⟨_, rfl, _, rfl, p.o, cP, p.dx, _, _, rfl, hp.ob, T.clP, T.nname, rfl, _, rfl, p.o, p.dx, _, rfl, hp.ob, rfl, p, Fl, rfl, hp, ok, fun H1 s1 => ⟨szl, fun t1 n1 => ⟨_, _, dp_tup (same_upd n1 _ _ (s1 _ _ hrr)), dp_tup (ks := (Rp.named p.nm p.tgt).keys) upd_same, shaped_keys rok, shaped_keys (Rp.ok_of (ok_ss ok.nm tg)), _, rfl, ?_⟩⟩⟩
    rw [eqv_rp]
    have s2 : Same H _ := s1.trans (same_upd n1 (o := .tup ((Rp.named p.nm p.tgt).keys.map kV)))
    have hp2 := hp.same s2
    refine ite2 (fun e => ?_) (fun e => ?_)
    · have e' := of_decide_eq_true e
      refine ⟨_, rfl, p.o, p.dx, _, rfl, hp2.ob, rfl, _, rfl, p.o, cP, p.dx, _, _, rfl, hp2.ob, T.clP, T.n_claim, rfl, szl, fun rq nr => ?_⟩
      have hp3 := hp2.same (same_upd nr (o := .tup [.str "close", Fl.cl]))
      refine ⟨p, Fl, rq, rfl, hp3, fun H' h' k' => ?_⟩
      refine q3 { m with st := .close, pl := 0 } (by unfold nextIn; rw [hst]; exact if_pos e') (fun z => nomatch z) { Fl with rq := .ref rq, num := Fl.num + 1 } H' ?_ rfl ((Kp.same (s2.trans (same_upd nr))).trans k')
      exact R.mk' hp3 upd_same h' k' dn (fun z => nomatch z) (fun _ => hcl) (fun z => by rcases z with z | z <;> cases z) (fun z => nomatch z) (by rw [hcl]; rfl)
    have e' := of_decide_eq_false (Bool.eq_false_iff.mpr e)
    refine ⟨_, rfl, _, rfl, p.o, p.dx, _, rfl, hp2.ob, rfl, p, Fl, rfl, hp2, ok, fun H3 s3 => ⟨szl, fun t2 n2 => ⟨_, _, dp_tup (same_upd n2 _ _ (s3 _ _ (s2 _ _ hrr))), dp_tup (ks := (Rp.lacks p.tgt).keys) upd_same, shaped_keys rok, shaped_keys (Rp.ok_of (ok_s tg)), _, rfl, ?_⟩⟩⟩
    rw [eqv_rp]
    have s4 : Same H _ := (s2.trans s3).trans (same_upd n2 (o := .tup ((Rp.lacks p.tgt).keys.map kV)))
    have hp4 := hp.same s4
    refine ite2 (fun e2 => ?_) (fun e2 => ?_)
    · have e2' := of_decide_eq_true e2
      refine ⟨_, rfl, p.o, p.dx, _, rfl, hp4.ob, rfl, p, Fl, m, 0, rfl, hp4, ok, dn, hcl, Nat.zero_le _, fun F' H' r' n' k' => ?_⟩
      exact q3 (place p m 0) (by unfold nextIn; rw [hst]; exact (if_neg e').trans (if_pos e2')) (place_nd _ _ _) F' H' r' n' ((Kp.same s4).trans k')
    · have e2' := of_decide_eq_false (Bool.eq_false_iff.mpr e2)
      exact q1 (by unfold nextIn; rw [hst]; exact (if_neg e').trans (if_neg e2')) _ s4
theorem ok_Pusher__take_close {f : Addr} {fd : FuncData} (F : Fun K "_take_close" "Pusher._take_close" s_Pusher__take_close f fd) (T : Tx K mg cP) : FnOk P w K mg base CX0 1 f fd P_Pusher__take_close (sp_Pusher__take_close cP) := by
  refine F.ok sc_Pusher__take_close (fun vs H Q E h => ?_) (fun cdv A outer s H vs Q E hr h => ?_)
  · obtain ⟨_, _, _, _, _, rfl, _⟩ := h
    rfl
  · obtain ⟨p, Fl, m, rr, r, rfl, hR, ok, wf, hs⟩ := h
    have nd := sc_Pusher__take_close.nd
    refine ⟨_, pss_cons (ps_if (pt_cmpR (op_neD hr.units) (pv 1) (pe_tup (pa_cons pe_str (pa_cons (pe_fld (pv 0) rfl) pa_nil))) (nomark _))
    (pss_one (ps_ret pe_bl))
    (pss_nil))
  (pss_cons (ps_fld (pv 0) pe_non rfl)
  (pss_cons (ps_fld (pv 0) pe_bl rfl)
  (pss_one (ps_ret pe_bl)))), ?_⟩

    obtain ⟨hst, hrr, rok, q1, q2⟩ := hs
    have hp := hR.at_
    have dn : Fl.dn = false := by rw [hR.dn, hst]; rfl
    have q3 : ∀ m', nextIn p m r = some m' → m'.st ≠ .done → ∀ F' H', R cP p m' F' H' → F'.num = Fl.num + 1 → Kp (Ob p) H H' → Q (.bl true) H' := fun m' e nd' F' H' r' n' k' => q2 m' e F' H' r' (by rw [if_neg nd']; exact n') k'
    have hcl := hR.cl (by rw [hst]; exact fun z => nomatch z)
    refine ⟨_, rfl, _, rfl, p.o, cP, p.dx, _, _, rfl, hp.ob, T.clP, T.n_claim, rfl, szl, fun t1 n1 => ⟨_, _, dp_tup (same_upd n1 _ _ hrr), dp_tup (ks := (Rp.closed m.cl).keys) (by rw [hcl]; exact upd_same), shaped_keys rok, shaped_keys (Rp.ok_of ok_i), _, rfl, ?_⟩⟩
    rw [eqv_rp]
    have s1 : Same H _ := same_upd n1 (o := .tup [.str "closed", Fl.cl])
    have hp1 := hp.same s1
    by_cases e : r = .closed m.cl
    · rw [decide_eq_true e]
      refine iteF ?_
      obtain ⟨h2, k2⟩ := hp1.put (F' := { Fl with rq := .non })
      have e1 : putF "_request" .non (flds p Fl) = flds p { Fl with rq := .non } := rfl
      have e2 : putF "done" (.bl true) (flds p { Fl with rq := .non }) = flds p { Fl with rq := .non, dn := true } := rfl
      obtain ⟨h3, k3⟩ := h2.put (F' := { Fl with rq := .non, dn := true })
      refine ⟨_, rfl, p.o, cP, p.dx, flds p Fl, rfl, hp1.ob, T.clP, T.n_request, (by show 10 < 1000; decide), ?_⟩
      rw [e1]
      refine ⟨_, rfl, p.o, cP, p.dx, flds p { Fl with rq := .non }, rfl, h2.ob, T.clP, T.ndone, (by show 10 < 1000; decide), ?_⟩
      rw [e2]
      refine q2 { m with st := .done, pl := 0 } (by unfold nextIn; rw [hst]; exact if_pos e) { Fl with rq := .non, dn := true } _ ⟨h3, rfl, fun _ => hcl, fun z => by (rcases z with z | z <;> cases z), fun z => (nomatch z), fun _ => rfl, fun z => absurd rfl z⟩ (by rw [if_pos rfl]; exact (Int.add_zero _).symm) (((Kp.same s1).trans k2).trans k3)
    · rw [decide_eq_false e]
      exact iteT (q1 (by unfold nextIn; rw [hst]; exact if_neg e) _ s1)
end
end LW
namespace LW
open PySem PySem.Spec PyProof.Rows L2 GxR
theorem in_km : ∀ w ∈ words, inV (V.str w) [.str "kept", .str "malformed"] = decide (w ∈ (["kept", "malformed"] : List Str)) := by decide +kernel
theorem in_not {r : Rp} (h1 : r.ix ≠ 1) (h2 : r.ix ≠ 10) : r.word ∉ (["kept", "malformed"] : List Str) := fun z => by
  rcases List.mem_cons.mp z with z | z
  · exact Rp.word_ne (r' := .kept "") h1 z
  · exact Rp.word_ne (r' := .malformed) h2 (List.mem_singleton.mp z)
theorem word_kind (b : Bool) : kinds[if b then 2 else 1]? = some (word b) ∧ (if b then 2 else 1) < 3 := by cases b <;> exact ⟨rfl, by decide⟩
def stW : Stp → Str
  | .opn => "open"
  | .has => "has"
  | .start => "start"
  | .part => "part"
  | .finish => "finish"
  | .put _ => "put"
  | .name => "name"
  | .close => "close"
  | .done => ""
theorem rq_0 {p : Psh} {m : Ms} (h : m.st ≠ .done) : atI ((rqk p m).map kV) 0 = some (.str (stW m.st)) := by
  refine atI_nat (j := 0) ?_
  unfold rqk
  cases hs : m.st <;> first | rfl | exact absurd hs h
theorem in_under (s : Stp) : inV (V.str (stW s)) ((["has", "start", "finish", "put", "name"] : List Str).map V.str) = under s := by
  cases s <;> first | decide +kernel | (rename_i b; cases b <;> decide +kernel)
abbrev s_Pusher__take_put : Stmt := inClass (topS 14) 14
abbrev N_Pusher__take_put : List Str := ["self", "reply", "kind", "text"]
abbrev P_Pusher__take_put : List Str := ["self", "reply"]
theorem sc_Pusher__take_put : FnScope N_Pusher__take_put P_Pusher__take_put (defScope s_Pusher__take_put) := ⟨rfl, rfl, rfl, by decide +kernel, rfl, by decide +kernel, by decide +kernel⟩
def sp_Pusher__take_put (cP : Addr) : Sp := fun vs H Q _ => spTk cP (fun s => ∃ b, s = .put b) nextIn vs H Q (fun _ _ _ => True)
section
variable {P : Program} {w : World} {K : PySem.W.Frag} {mg : Str → Option Value} {base : Heap} {cP : Addr}
theorem ok_Pusher__take_put {f : Addr} {fd : FuncData} (F : Fun K "_take_put" "Pusher._take_put" s_Pusher__take_put f fd) (T : Tx K mg cP)
    (C_Pusher_ask : CalM P w K mg base CX0 1 cP "_ask" P_Pusher__ask (sp_Pusher__ask cP))
    (C_Pusher_ask_behind : CalM P w K mg base CX0 6 cP "_ask_behind" P_Pusher__ask_behind (sp_Pusher__ask_behind cP))
    (C_Pusher_ask_layer : CalM P w K mg base CX0 4 cP "_ask_layer" P_Pusher__ask_layer (sp_Pusher__ask_layer cP))
    (C_address_of : Cal P w K mg base CX0 1 "address_of" P_address_of spAddr) : FnOk P w K mg base CX0 7 f fd P_Pusher__take_put (sp_Pusher__take_put cP) := by
  refine F.ok sc_Pusher__take_put (fun vs H Q E h => ?_) (fun cdv A outer s H vs Q E hr h => ?_)
  · obtain ⟨_, _, _, _, _, rfl, _⟩ := h
    rfl
  · obtain ⟨p, Fl, m, rr, r, rfl, hR, ok, wf, hs⟩ := h
    have nd := sc_Pusher__take_put.nd
    refine ⟨_, pss_cons (ps_asg (pe_slice sl_tup (pe_fld (pv 0) rfl) (po_some pe_int) po_none) (pg_tup rfl (pgs_cons (pg_name (i := 2) nd rfl (Or.inl rfl)) (pgs_cons (pg_name (i := 3) nd rfl (Or.inl rfl)) pgs_nil))))
  (pss_cons (ps_if (pt_cmpR (op_eqD hr.units) (pv 1) (pe_tup (pa_cons pe_str (pa_cons (pe_cal C_address_of hr (pa_cons (pv 2) (pa_cons (pv 3) pa_nil))) pa_nil))) (nomark _))
    (pss_one (ps_ret (pe_calM (pv 0) C_Pusher_ask_behind hr (pa_cons (pv 2) pa_nil))))
    (pss_nil))
  (pss_cons (ps_if (pt_cmpR op_in_seq (pe_ix ix_tup (pv 1) pe_int (fun _ _ => rfl)) (pe_tup (pa_cons pe_str (pa_cons pe_str pa_nil))) (by rfl))
    (pss_one (ps_ret (pe_calM (pv 0) C_Pusher_ask hr (pa_cons (pe_fld (pv 0) rfl) pa_nil))))
    (pss_nil))
  (pss_cons (ps_if (pt_cmpR op_eq (pe_ix ix_tup (pv 1) pe_int (fun _ _ => rfl)) pe_str (nomark _))
    (pss_one (ps_ret (pe_calM (pv 0) C_Pusher_ask_layer hr (pa_cons pe_int pa_nil))))
    (pss_nil))
  (pss_one (ps_ret pe_bl))))), ?_⟩

    obtain ⟨⟨b, hst⟩, hrr, rok, q1, q2⟩ := hs
    have hp := hR.at_
    have dn : Fl.dn = false := by rw [hR.dn, hst]; rfl
    have q3 : ∀ m', nextIn p m r = some m' → m'.st ≠ .done → ∀ F' H', R cP p m' F' H' → F'.num = Fl.num + 1 → Kp (Ob p) H H' → Q (.bl true) H' := fun m' e nd' F' H' r' n' k' => q2 m' e F' H' r' (by rw [if_neg nd']; exact n') k'
    have hcl := hR.cl (by rw [hst]; exact fun z => nomatch z)
    obtain ⟨rq, erq, hrq⟩ := hR.rq (by rw [hst]; exact fun z => nomatch z)
    have erk : ∀ k, rqk p { m with pl := k } = [.inr "put", .inl m.cl, .inr (word b), .inr (p.txt b)] := fun k => by unfold rqk; show (match m.st with | .opn => _ | .has => _ | .start => _ | .part => _ | .finish => _ | .put b => _ | .name => _ | .close => _ | .done => _) = _; rw [hst]
    have hrq' : H rq = some (.tup [.str "put", .int m.cl, .str (word b), .str (p.txt b)]) := by rw [hrq, show rqk p m = _ from erk m.pl]; rfl
    have ec : cutV [.str "put", .int m.cl, .str (word b), .str (p.txt b)] (some 2) none = [.str (word b), .str (p.txt b)] := rfl
    refine ⟨_, rfl, p.o, cP, p.dx, _, _, rfl, hp.ob, T.clP, T.n_request, rfl, _, rfl, rq, [.str "put", .int m.cl, .str (word b), .str (p.txt b)], erq, SqT.of hrq', (fun z => absurd (show (2 : Nat) = 0 from z.1) (by decide)), fun a1 n1 => ?_⟩
    rw [ec]
    have s1 : Same H _ := same_upd n1 (o := .tup [.str (word b), .str (p.txt b)])
    refine ⟨a1, _, rfl, SqT.of upd_same, rfl, _, _, rfl, _, _, rfl, rfl, ?_⟩
    obtain ⟨wk, wk3⟩ := word_kind b
    have ta : PyData.strOk (p.ta b) = true := adOf_ok _ _
    refine ⟨_, rfl, _, rfl, _, rfl, word b, p.txt b, if b then 2 else 1, rfl, wk, wk3, szl, fun t1 n2 => ⟨_, _, dp_tup (same_upd n2 _ _ (s1 _ _ hrr)), dp_tup (ks := (Rp.kept (p.ta b)).keys) upd_same, shaped_keys rok, shaped_keys (Rp.ok_of (ok_s ta)), _, rfl, ?_⟩⟩
    rw [eqv_rp]
    have s2 : Same H _ := s1.trans (same_upd n2 (o := .tup ((Rp.kept (p.ta b)).keys.map kV)))
    have hp2 := hp.same s2
    refine ite2 (fun e => ?_) (fun e => ?_)
    · have e' := of_decide_eq_true e
      refine ⟨_, rfl, p.o, p.dx, _, rfl, hp2.ob, rfl, _, rfl, p, Fl, m, b, rfl, hp2, ok, dn, hcl, fun F' H' r' n' k' => ?_⟩
      exact q3 (behind p m b) (by unfold nextIn; rw [hst, e']; exact if_pos rfl) (behind_nd _ _ _) F' H' r' n' ((Kp.same s2).trans k')
    have e' := of_decide_eq_false (Bool.eq_false_iff.mpr e)
    refine ⟨_, rfl, rr, _, 0, _, rfl, rfl, SqT.of (s2 _ _ hrr), r.w0, szl, fun t2 n3 => ⟨t2, _, rfl, .inr (SqT.of upd_same), rfl, rfl, _, rfl, ?_⟩⟩
    have s3 : Same H _ := s2.trans (same_upd n3 (o := .tup [.str "kept", .str "malformed"]))
    have hp3 := hp.same s3
    rw [if_neg Bool.false_ne_true, in_km _ (List.mem_of_getElem? r.at_)]
    cases r with
    | kept x =>
      refine ite2 (fun _ => ?_) (fun z => absurd (decide_eq_true List.mem_cons_self) z)
      refine ⟨_, rfl, p.o, p.dx, _, rfl, hp3.ob, rfl, _, rfl, p.o, cP, p.dx, _, _, rfl, hp3.ob, T.clP, T.n_request, rfl, p, Fl, rq, by rw [erq]; rfl, hp3, fun H' h' k' => ?_⟩
      refine q3 { m with pl := 0 } (by unfold nextIn; rw [hst]; exact if_neg (fun z => e' (by rw [z]))) (by show m.st ≠ .done; rw [hst]; exact fun z => nomatch z) { Fl with rq := .ref rq, num := Fl.num + 1 } H' ?_ rfl ((Kp.same s3).trans k')
      exact R.mk' hp3 (s3 _ _ hrq) h' k' dn (by show m.st ≠ .done; rw [hst]; exact fun z => nomatch z) (fun _ => hcl) (fun z => by (have z' : m.st = .part ∨ m.st = .finish := z; rw [hst] at z'; rcases z' with z' | z' <;> cases z')) (fun z => by (have z' : layS m.st = true := z; rw [hst] at z'; cases z')) (by unfold rqk; show _ = List.map kV (match m.st with | _ => _); rw [hst])
    | malformed =>
      refine ite2 (fun _ => ?_) (fun z => absurd (decide_eq_true (List.mem_cons_of_mem _ List.mem_cons_self)) z)
      refine ⟨_, rfl, p.o, p.dx, _, rfl, hp3.ob, rfl, _, rfl, p.o, cP, p.dx, _, _, rfl, hp3.ob, T.clP, T.n_request, rfl, p, Fl, rq, by rw [erq]; rfl, hp3, fun H' h' k' => ?_⟩
      refine q3 { m with pl := 0 } (by unfold nextIn; rw [hst]) (by show m.st ≠ .done; rw [hst]; exact fun z => nomatch z) { Fl with rq := .ref rq, num := Fl.num + 1 } H' ?_ rfl ((Kp.same s3).trans k')
      exact R.mk' hp3 (s3 _ _ hrq) h' k' dn (by show m.st ≠ .done; rw [hst]; exact fun z => nomatch z) (fun _ => hcl) (fun z => by (have z' : m.st = .part ∨ m.st = .finish := z; rw [hst] at z'; rcases z' with z' | z' <;> cases z')) (fun z => by (have z' : layS m.st = true := z; rw [hst] at z'; cases z')) (by unfold rqk; show _ = List.map kV (match m.st with | _ => _); rw [hst])
    | lacks x =>
      refine ite2 (fun z => absurd (of_decide_eq_true z) (in_not (by simp [Rp.ix]) (by simp [Rp.ix]))) (fun _ => ?_)
      refine ⟨_, rfl, rr, _, 0, _, rfl, rfl, SqT.of (s3 _ _ hrr), Rp.w0 _, rfl, _, rfl, ifT_s ⟨_, rfl, p.o, p.dx, _, rfl, hp3.ob, rfl, p, Fl, m, 0, rfl, hp3, ok, dn, hcl, Nat.zero_le _, fun F' H' r' n' k' => ?_⟩⟩
      exact q3 (place p m 0) (by unfold nextIn; rw [hst]) (place_nd _ _ _) F' H' r' n' ((Kp.same s3).trans k')
    | _ =>
      refine ite2 (fun z => absurd (of_decide_eq_true z) (in_not (by simp [Rp.ix]) (by simp [Rp.ix]))) (fun _ => ?_)
      exact ⟨_, rfl, rr, _, 0, _, rfl, rfl, SqT.of (s3 _ _ hrr), Rp.w0 _, rfl, _, rfl, ifF_s (Rp.word_ne (r' := .lacks "") (by simp [Rp.ix])) (q1 (by unfold nextIn; rw [hst]) _ s3)⟩
end
end LW
namespace LW
open PySem PySem.Spec PyProof.Rows L2 GxR
abbrev s_Pusher_take : Stmt := inClass (topS 14) 2
abbrev N_Pusher_take : List Str := ["self", "reply", "word"]
abbrev P_Pusher_take : List Str := ["self", "reply"]
theorem sc_Pusher_take : FnScope N_Pusher_take P_Pusher_take (defScope s_Pusher_take) := ⟨rfl, rfl, rfl, by decide +kernel, rfl, by decide +kernel, by decide +kernel⟩
def sp_Pusher_take (cP : Addr) : Sp := fun vs H Q _ => spTk cP (fun _ => True) next vs H Q (fun _ _ _ => True)
section
variable {P : Program} {w : World} {K : PySem.W.Frag} {mg : Str → Option Value} {base : Heap} {cP : Addr}
theorem ok_Pusher_take {f : Addr} {fd : FuncData} (F : Fun K "take" "Pusher.take" s_Pusher_take f fd) (T : Tx K mg cP)
    (C_Pusher_ask : CalM P w K mg base CX0 1 cP "_ask" P_Pusher__ask (sp_Pusher__ask cP))
    (C_take_open : CalM P w K mg base CX0 5 cP "_take_open" P_Pusher__take_open (sp_Pusher__take_open cP))
    (C_take_has : CalM P w K mg base CX0 5 cP "_take_has" P_Pusher__take_has (sp_Pusher__take_has cP))
    (C_take_start : CalM P w K mg base CX0 3 cP "_take_start" P_Pusher__take_start (sp_Pusher__take_start cP))
    (C_take_part : CalM P w K mg base CX0 5 cP "_take_part" P_Pusher__take_part (sp_Pusher__take_part cP))
    (C_take_finish : CalM P w K mg base CX0 5 cP "_take_finish" P_Pusher__take_finish (sp_Pusher__take_finish cP))
    (C_take_put : CalM P w K mg base CX0 7 cP "_take_put" P_Pusher__take_put (sp_Pusher__take_put cP))
    (C_take_name : CalM P w K mg base CX0 6 cP "_take_name" P_Pusher__take_name (sp_Pusher__take_name cP))
    (C_take_close : CalM P w K mg base CX0 1 cP "_take_close" P_Pusher__take_close (sp_Pusher__take_close cP)) : FnOk P w K mg base CX0 8 f fd P_Pusher_take (sp_Pusher_take cP) := by
  refine F.ok sc_Pusher_take (fun vs H Q E h => ?_) (fun cdv A outer s H vs Q E hr h => ?_)
  · obtain ⟨_, _, _, _, _, rfl, _⟩ := h
    rfl
  · obtain ⟨p, Fl, m, rr, r, rfl, hR, ok, wf, hs⟩ := h
    have nd := sc_Pusher_take.nd
    obtain ⟨kd, gK, o, its, n, u1, u2, u3, u4, u5, u6⟩ := T.UNDER
    refine ⟨_, pss_cons (ps_if (pt_val (pe_fld (pv 0) rfl))
    (pss_one (ps_ret pe_bl))
    (pss_nil))
  (pss_cons (ps_set (i := 2) nd rfl (Or.inl rfl) (pe_ix ix_tup (pe_fld (pv 0) rfl) pe_int (fun _ _ => rfl)))
  (C8.pss_cut (ps_if (PW.pt (pw_and (pt_cmpR op_in_seq (pv 2) (pe_glob (v := .ref kd) (by rfl) gK rfl) (by rfl)) (pw_and1 (pt_cmpR (op_eqD hr.units) (pv 1) (pe_tup (pa_cons pe_str (pa_cons (pe_fld (pv 0) rfl) pa_nil))) (nomark _)))))
    (pss_one (ps_ret (pe_calM (pv 0) C_Pusher_ask hr (pa_cons (pe_tup (pa_cons pe_str pa_nil)) pa_nil))))
    (pss_nil))
  (pss_one (ps_match (pv 2) (pcs_text (pss_one (ps_ret (pe_calM (pv 0) C_take_open hr (pa_cons (pv 1) pa_nil))))
    (pcs_text (pss_one (ps_ret (pe_calM (pv 0) C_take_has hr (pa_cons (pv 1) pa_nil))))
    (pcs_text (pss_one (ps_ret (pe_calM (pv 0) C_take_start hr (pa_cons (pv 1) pa_nil))))
    (pcs_text (pss_one (ps_ret (pe_calM (pv 0) C_take_part hr (pa_cons (pv 1) pa_nil))))
    (pcs_text (pss_one (ps_ret (pe_calM (pv 0) C_take_finish hr (pa_cons (pv 1) pa_nil))))
    (pcs_text (pss_one (ps_ret (pe_calM (pv 0) C_take_put hr (pa_cons (pv 1) pa_nil))))
    (pcs_text (pss_one (ps_ret (pe_calM (pv 0) C_take_name hr (pa_cons (pv 1) pa_nil))))
    (pcs_else (pss_one (ps_ret (pe_calM (pv 0) C_take_close hr (pa_cons (pv 1) pa_nil)))))))))))))))), ?_⟩

    obtain ⟨_, hrr, rok, q1, q2⟩ := hs
    have hp := hR.at_
    refine ⟨_, rfl, p.o, cP, p.dx, _, _, rfl, hp.ob, T.clP, T.ndone, rfl, _, rfl, ?_⟩
    rw [hR.dn]
    by_cases hdn : m.st = .done
    · rw [decide_eq_true hdn]
      refine iteT (q1 ?_ H (fun _ _ e => e))
      unfold next
      rw [if_neg (fun z => by rw [hdn] at z; exact nomatch z.1)]
      unfold nextIn
      rw [hdn]
    rw [decide_eq_false hdn]
    have dn : Fl.dn = false := by rw [hR.dn, decide_eq_false hdn]
    obtain ⟨rq, erq, hrq⟩ := hR.rq hdn
    refine iteF ⟨_, rfl, p.o, cP, p.dx, _, _, rfl, hp.ob, T.clP, T.n_request, rfl, rq, _, 0, .str (stW m.st), erq, rfl, SqT.of hrq, rq_0 hdn, ?_⟩
    refine ⟨fun σ' H1 => σ' = [some (.ref p.o), some (.ref rr), some (.str (stW m.st))] ∧ Same H H1 ∧ next p m r = nextIn p m r, ?_, ?_⟩
    · refine ⟨_, rfl, kd, _, rfl, .inr (.inr ⟨o, its, n, u1, u2, u4, u5, u6⟩), rfl, rfl, _, rfl, ?_⟩
      rw [if_neg Bool.false_ne_true, in_under]
      by_cases hun : under m.st = true
      · rw [hun]
        have hno : m.st ≠ .opn := fun z => by rw [z] at hun; exact nomatch hun
        have hcl := hR.cl hno
        refine iteT ⟨_, rfl, _, rfl, p.o, cP, p.dx, _, _, rfl, hp.ob, T.clP, T.n_claim, rfl, szl, fun t1 n1 => ⟨_, _, dp_tup (same_upd n1 _ _ hrr), dp_tup (ks := (Rp.lapsed m.cl).keys) (by rw [hcl]; exact upd_same), shaped_keys rok, shaped_keys (Rp.ok_of ok_i), _, rfl, ?_⟩⟩
        rw [eqv_rp]
        have s1 : Same H _ := same_upd n1 (o := .tup [.str "lapsed", Fl.cl])
        have hp1 := hp.same s1
        by_cases e : r = .lapsed m.cl
        · rw [decide_eq_true e]
          refine iteT ⟨_, rfl, p.o, p.dx, _, rfl, hp1.ob, rfl, szl, fun r1 n2 => ?_⟩
          have hp2 := hp1.same (same_upd n2 (o := .tup [.str "open"]))
          refine ⟨p, Fl, r1, rfl, hp2, fun H' h' k' => ?_⟩
          refine q2 { m with st := .opn, pl := 0 } (by unfold next; exact if_pos ⟨hun, e⟩) { Fl with rq := .ref r1, num := Fl.num + 1 } H' ?_ (by rw [if_neg (fun z => nomatch z)]) ((Kp.same (s1.trans (same_upd n2))).trans k')
          exact R.mk' hp2 upd_same h' k' dn (fun z => nomatch z) (fun z => absurd rfl z) (fun z => by rcases z with z | z <;> cases z) (fun z => nomatch z) rfl
        · rw [decide_eq_false e]
          exact iteF ⟨rfl, s1, by unfold next; exact if_neg (fun z => e z.2)⟩
      · rw [Bool.eq_false_iff.mpr hun]
        exact iteF (iteF ⟨rfl, fun _ _ e => e, by unfold next; exact if_neg (fun z => hun z.1)⟩)
    · rintro σ' H1 ⟨rfl, s1, hnx⟩
      have hR1 := hR.same s1
      have hp1 := hR1.at_
      have hr1 := s1 _ _ hrr
      rw [hnx] at q1 q2
      have f1 : nextIn p m r = none → ∀ H', Same H1 H' → Q (.bl false) H' := fun e H' s' => q1 e H' (s1.trans s')
      have f2 : ∀ m', nextIn p m r = some m' → ∀ F' H', R cP p m' F' H' → F'.num = Fl.num + (if m'.st = .done then 0 else 1) → Kp (Ob p) H1 H' → Q (.bl true) H' := fun m' e F' H' r' n' k' => q2 m' e F' H' r' n' ((Kp.same s1).trans k')
      refine ⟨_, rfl, stW m.st, rfl, ?_⟩
      cases hst : m.st with
      | done => exact absurd hst hdn
      | opn =>
        rw [show stW (Stp.opn) = ("open" : Str) from rfl]
        rw [if_pos rfl]
        exact ⟨_, rfl, p.o, p.dx, _, rfl, hp1.ob, rfl, _, rfl, p, Fl, m, rr, r, rfl, hR1, ok, wf, hst, hr1, rok, f1, f2⟩
      | has =>
        rw [show stW (Stp.has) = ("has" : Str) from rfl]
        rw [if_neg (by decide : ("has" : Str) ≠ "open")]
        rw [if_pos rfl]
        exact ⟨_, rfl, p.o, p.dx, _, rfl, hp1.ob, rfl, _, rfl, p, Fl, m, rr, r, rfl, hR1, ok, wf, hst, hr1, rok, f1, f2⟩
      | start =>
        rw [show stW (Stp.start) = ("start" : Str) from rfl]
        rw [if_neg (by decide : ("start" : Str) ≠ "open")]
        rw [if_neg (by decide : ("start" : Str) ≠ "has")]
        rw [if_pos rfl]
        exact ⟨_, rfl, p.o, p.dx, _, rfl, hp1.ob, rfl, _, rfl, p, Fl, m, rr, r, rfl, hR1, ok, wf, hst, hr1, rok, f1, f2⟩
      | part =>
        rw [show stW (Stp.part) = ("part" : Str) from rfl]
        rw [if_neg (by decide : ("part" : Str) ≠ "open")]
        rw [if_neg (by decide : ("part" : Str) ≠ "has")]
        rw [if_neg (by decide : ("part" : Str) ≠ "start")]
        rw [if_pos rfl]
        exact ⟨_, rfl, p.o, p.dx, _, rfl, hp1.ob, rfl, _, rfl, p, Fl, m, rr, r, rfl, hR1, ok, wf, hst, hr1, rok, f1, f2⟩
      | finish =>
        rw [show stW (Stp.finish) = ("finish" : Str) from rfl]
        rw [if_neg (by decide : ("finish" : Str) ≠ "open")]
        rw [if_neg (by decide : ("finish" : Str) ≠ "has")]
        rw [if_neg (by decide : ("finish" : Str) ≠ "start")]
        rw [if_neg (by decide : ("finish" : Str) ≠ "part")]
        rw [if_pos rfl]
        exact ⟨_, rfl, p.o, p.dx, _, rfl, hp1.ob, rfl, _, rfl, p, Fl, m, rr, r, rfl, hR1, ok, wf, hst, hr1, rok, f1, f2⟩
      | put b =>
        rw [show stW (Stp.put b) = ("put" : Str) from rfl]
        rw [if_neg (by decide : ("put" : Str) ≠ "open")]
        rw [if_neg (by decide : ("put" : Str) ≠ "has")]
        rw [if_neg (by decide : ("put" : Str) ≠ "start")]
        rw [if_neg (by decide : ("put" : Str) ≠ "part")]
        rw [if_neg (by decide : ("put" : Str) ≠ "finish")]
        rw [if_pos rfl]
        exact ⟨_, rfl, p.o, p.dx, _, rfl, hp1.ob, rfl, _, rfl, p, Fl, m, rr, r, rfl, hR1, ok, wf, ⟨b, hst⟩, hr1, rok, f1, f2⟩
      | name =>
        rw [show stW (Stp.name) = ("name" : Str) from rfl]
        rw [if_neg (by decide : ("name" : Str) ≠ "open")]
        rw [if_neg (by decide : ("name" : Str) ≠ "has")]
        rw [if_neg (by decide : ("name" : Str) ≠ "start")]
        rw [if_neg (by decide : ("name" : Str) ≠ "part")]
        rw [if_neg (by decide : ("name" : Str) ≠ "finish")]
        rw [if_neg (by decide : ("name" : Str) ≠ "put")]
        rw [if_pos rfl]
        exact ⟨_, rfl, p.o, p.dx, _, rfl, hp1.ob, rfl, _, rfl, p, Fl, m, rr, r, rfl, hR1, ok, wf, hst, hr1, rok, f1, f2⟩
      | close =>
        rw [show stW (Stp.close) = ("close" : Str) from rfl]
        rw [if_neg (by decide : ("close" : Str) ≠ "open")]
        rw [if_neg (by decide : ("close" : Str) ≠ "has")]
        rw [if_neg (by decide : ("close" : Str) ≠ "start")]
        rw [if_neg (by decide : ("close" : Str) ≠ "part")]
        rw [if_neg (by decide : ("close" : Str) ≠ "finish")]
        rw [if_neg (by decide : ("close" : Str) ≠ "put")]
        rw [if_neg (by decide : ("close" : Str) ≠ "name")]
        exact ⟨_, rfl, p.o, p.dx, _, rfl, hp1.ob, rfl, _, rfl, p, Fl, m, rr, r, rfl, hR1, ok, wf, hst, hr1, rok, f1, f2⟩
end
end LW
namespace LW
open PySem PySem.Spec PyProof.Rows L2 GxR
def f0 : Ms := ⟨.opn, 0, 0, 0, 0⟩
abbrev s_Pusher___init : Stmt := inClass (topS 14) 0
abbrev N_Pusher___init : List Str := ["self", "layers", "name", "platform", "number", "text"]
abbrev P_Pusher___init : List Str := ["self", "layers", "name", "platform", "number"]
theorem sc_Pusher___init : FnScope N_Pusher___init P_Pusher___init (defScope s_Pusher___init) := ⟨rfl, rfl, rfl, by decide +kernel, rfl, by decide +kernel, by decide +kernel⟩
def sp_Pusher___init (cP : Addr) : Sp := fun vs H Q _ => ∃ (o dx l : Addr) (nm : Str) (pf : Option Str) (num : Int) (ls : List Str), vs = [.ref o, .ref l, .str nm, pfV pf, .int num] ∧ H o = some (.ins cP dx []) ∧ H l = some (.lst (ls.map V.str)) ∧ ls.length ≤ 3 ∧ ∀ (L A : Addr) (F : Fl) (H' : Hp), R cP ⟨o, dx, L, A, nm, pf, ls⟩ f0 F H' → F.num = num → Kp (fun b => b = o) H H' → H L = none → H A = none → Q .non H'
section
variable {P : Program} {w : World} {K : PySem.W.Frag} {mg : Str → Option Value} {base : Heap} {cP : Addr}
theorem ok_Pusher___init {f : Addr} {fd : FuncData} (F : Fun K "__init__" "Pusher.__init__" s_Pusher___init f fd) (T : Tx K mg cP)
    (C_address_of : Cal P w K mg base CX0 1 "address_of" P_address_of spAddr) : FnOk P w K mg base CX0 2 f fd P_Pusher___init (sp_Pusher___init cP) := by
  refine F.ok sc_Pusher___init (fun vs H Q E h => ?_) (fun cdv A outer s H vs Q E hr h => ?_)
  · obtain ⟨_, _, _, _, _, _, _, rfl, _⟩ := h
    rfl
  · obtain ⟨o, dx, l, nm, pf, num, ls, rfl, ho, hl, h3, q⟩ := h
    have nd := sc_Pusher___init.nd
    refine ⟨_, pss_cons (ps_fld (pv 0) (pe_callTy call_list_of (by rfl) T.list (by decide +kernel) (pa_cons (pv 1) pa_nil)) rfl)
  (pss_cons (ps_fld (pv 0) (pv 2) rfl)
  (pss_cons (ps_fld (pv 0) (pv 3) rfl)
  (pss_cons (ps_fld (pv 0) (pv 4) rfl)
  (pss_cons (ps_fld (pv 0) pe_bl rfl)
  (pss_cons (ps_fld (pv 0) (pe_lc (own := [("text", 5)]) (g := gName 5) (tt := tYes) rfl nd (pi_list (pv 1)) (blkOk_by (N := N_Pusher___init) (sc := defScope s_Pusher___init) (by decide +kernel)) (fun _ _ _ _ _ => (pg_name (i := 5) nd rfl (Or.inl rfl))) (fun _ _ _ _ _ => pts_nil) (fun _ _ _ _ _ => (pe_cal C_address_of hr (pa_cons pe_str (pa_cons (pv 5) pa_nil))))) rfl)
  (pss_cons (ps_fld (pv 0) pe_int rfl)
  (pss_cons (ps_fld (pv 0) pe_non rfl)
  (pss_cons (ps_fld (pv 0) pe_non rfl)
  (pss_one (ps_fld (pv 0) (pe_tup (pa_cons pe_str pa_nil)) rfl)))))))))), ?_⟩

    refine ⟨_, rfl, l, _, rfl, .inl (SqL.of hl), fun L nL => ⟨_, rfl, o, cP, dx, [], rfl, (by rw [upd_ne (ne_of_none ho nL)]; exact ho), T.clP, T.nlayers, (by show 0 < 1000; decide), ?_⟩⟩
    have s1 : Same H _ := same_upd nL (o := .lst (ls.map V.str))
    have oL : o ≠ L := ne_of_none ho nL
    have e1 : (L2.upd H L (.lst (ls.map V.str))) L = _ := upd_same
    generalize L2.upd H L (.lst (ls.map V.str)) = H1 at s1 e1
    rw [show putF "layers" (.ref L : V) ([] : List (Str × V)) = ([("layers", .ref L)] : List (Str × V)) from rfl]
    refine ⟨_, rfl, _, rfl, o, cP, dx, [("layers", .ref L)], rfl, upd_same, T.clP, T.nname, (by show 1 < 1000; decide), ?_⟩
    rw [show putF "name" (.str nm : V) ([("layers", .ref L)] : List (Str × V)) = ([("layers", .ref L), ("name", .str nm)] : List (Str × V)) from rfl]
    refine ⟨_, rfl, _, rfl, o, cP, dx, [("layers", .ref L), ("name", .str nm)], rfl, upd_same, T.clP, T.nplatform, (by show 2 < 1000; decide), ?_⟩
    rw [show putF "platform" (pfV pf : V) ([("layers", .ref L), ("name", .str nm)] : List (Str × V)) = ([("layers", .ref L), ("name", .str nm), ("platform", pfV pf)] : List (Str × V)) from rfl]
    refine ⟨_, rfl, _, rfl, o, cP, dx, [("layers", .ref L), ("name", .str nm), ("platform", pfV pf)], rfl, upd_same, T.clP, T.nnumber, (by show 3 < 1000; decide), ?_⟩
    rw [show putF "number" (.int num : V) ([("layers", .ref L), ("name", .str nm), ("platform", pfV pf)] : List (Str × V)) = ([("layers", .ref L), ("name", .str nm), ("platform", pfV pf), ("number", .int num)] : List (Str × V)) from rfl]
    refine ⟨_, rfl, o, cP, dx, [("layers", .ref L), ("name", .str nm), ("platform", pfV pf), ("number", .int num)], rfl, upd_same, T.clP, T.ndone, (by show 4 < 1000; decide), ?_⟩
    rw [show putF "done" (.bl false : V) ([("layers", .ref L), ("name", .str nm), ("platform", pfV pf), ("number", .int num)] : List (Str × V)) = ([("layers", .ref L), ("name", .str nm), ("platform", pfV pf), ("number", .int num), ("done", .bl false)] : List (Str × V)) from rfl]
    have hx : ∀ {x : Addr} {v : HO}, x ≠ o → H1 x = some v → (L2.upd (L2.upd (L2.upd (L2.upd (L2.upd H1 o (.ins cP dx [("layers", .ref L)])) o (.ins cP dx [("layers", .ref L), ("name", .str nm)])) o (.ins cP dx [("layers", .ref L), ("name", .str nm), ("platform", pfV pf)])) o (.ins cP dx [("layers", .ref L), ("name", .str nm), ("platform", pfV pf), ("number", .int num)])) o (.ins cP dx [("layers", .ref L), ("name", .str nm), ("platform", pfV pf), ("number", .int num), ("done", .bl false)])) x = some v := fun h e => by rw [upd_ne h, upd_ne h, upd_ne h, upd_ne h, upd_ne h]; exact e
    have hf : ∀ {x : Addr}, (L2.upd (L2.upd (L2.upd (L2.upd (L2.upd H1 o (.ins cP dx [("layers", .ref L)])) o (.ins cP dx [("layers", .ref L), ("name", .str nm)])) o (.ins cP dx [("layers", .ref L), ("name", .str nm), ("platform", pfV pf)])) o (.ins cP dx [("layers", .ref L), ("name", .str nm), ("platform", pfV pf), ("number", .int num)])) o (.ins cP dx [("layers", .ref L), ("name", .str nm), ("platform", pfV pf), ("number", .int num), ("done", .bl false)])) x = none → H1 x = none ∧ x ≠ o := fun {x} z => by
      have n : x ≠ o := fun h => by rw [h, upd_same] at z; cases z
      rw [upd_ne n, upd_ne n, upd_ne n, upd_ne n, upd_ne n] at z
      exact ⟨z, n⟩
    have ho5 : (L2.upd (L2.upd (L2.upd (L2.upd (L2.upd H1 o (.ins cP dx [("layers", .ref L)])) o (.ins cP dx [("layers", .ref L), ("name", .str nm)])) o (.ins cP dx [("layers", .ref L), ("name", .str nm), ("platform", pfV pf)])) o (.ins cP dx [("layers", .ref L), ("name", .str nm), ("platform", pfV pf), ("number", .int num)])) o (.ins cP dx [("layers", .ref L), ("name", .str nm), ("platform", pfV pf), ("number", .int num), ("done", .bl false)])) o = some (.ins cP dx [("layers", .ref L), ("name", .str nm), ("platform", pfV pf), ("number", .int num), ("done", .bl false)]) := upd_same
    generalize L2.upd (L2.upd (L2.upd (L2.upd (L2.upd H1 o (.ins cP dx [("layers", .ref L)])) o (.ins cP dx [("layers", .ref L), ("name", .str nm)])) o (.ins cP dx [("layers", .ref L), ("name", .str nm), ("platform", pfV pf)])) o (.ins cP dx [("layers", .ref L), ("name", .str nm), ("platform", pfV pf), ("number", .int num)])) o (.ins cP dx [("layers", .ref L), ("name", .str nm), ("platform", pfV pf), ("number", .int num), ("done", .bl false)]) = H5 at hx hf ho5
    have hlo : l ≠ o := ne_of hl ho (by intro z; cases z)
    have hl5 : H5 l = some (.lst (ls.map V.str)) := hx hlo (s1 _ _ hl)
    have eL5 : H5 L = some (.lst (ls.map V.str)) := hx oL.symm e1
    refine ⟨_, rfl, l, rfl, ⟨_, SqL.of hl5⟩, fun A nA => ?_⟩
    show ∃ W : Nat → Nat → Hp → Prop, _
    refine lc_list (K := K) (a := l) (xs := ls.map V.str) (fun i H' => Same H5 H' ∧ H' A = some (.lst (((ls.take i).map (adOf 0)).map V.str))) ⟨same_upd nA, upd_same⟩ (fun i H' _ h => SqL.of (h.1 _ _ hl5)) ?_ ?_
    · rintro i x H' hx' ⟨s', hA⟩
      rw [List.getElem?_map] at hx'
      cases ei : ls[i]? with
      | none => rw [ei] at hx'; cases hx'
      | some t =>
        rw [ei] at hx'
        cases hx'
        have hi : i < ls.length := (List.getElem?_eq_some_iff.mp ei).1
        refine ⟨rfl, tyes ⟨_, rfl, "layer", t, 0, rfl, rfl, by decide, _, hA, ?_, ?_, ?_⟩⟩
        · rw [List.length_map, List.length_map, List.length_take]
          exact Nat.lt_of_le_of_lt (show min i ls.length ≤ 3 by omega) (by decide)
        · exact fun b v e => by
            by_cases hb : b = A
            · rw [hb, nA] at e; cases e
            · rw [upd_ne hb]; exact s' b v e
        · rw [upd_same, List.take_add_one, ei, List.map_append, List.map_append]; rfl
    · rintro H6 ⟨s6, hA⟩
      rw [List.length_map, List.take_length] at hA
      have ho6 := s6 _ _ ho5
      have oA : A ≠ o := (hf nA).2
      refine ⟨_, rfl, o, cP, dx, [("layers", .ref L), ("name", .str nm), ("platform", pfV pf), ("number", .int num), ("done", .bl false)], rfl, ho6, T.clP, T.n_addresses, (by show 5 < 1000; decide), ?_⟩
      rw [show putF "_addresses" (.ref A : V) ([("layers", .ref L), ("name", .str nm), ("platform", pfV pf), ("number", .int num), ("done", .bl false)] : List (Str × V)) = ([("layers", .ref L), ("name", .str nm), ("platform", pfV pf), ("number", .int num), ("done", .bl false), ("_addresses", .ref A)] : List (Str × V)) from rfl]
      refine ⟨_, rfl, o, cP, dx, [("layers", .ref L), ("name", .str nm), ("platform", pfV pf), ("number", .int num), ("done", .bl false), ("_addresses", .ref A)], rfl, upd_same, T.clP, T.n_index, (by show 6 < 1000; decide), ?_⟩
      rw [show putF "_index" (.int 0 : V) ([("layers", .ref L), ("name", .str nm), ("platform", pfV pf), ("number", .int num), ("done", .bl false), ("_addresses", .ref A)] : List (Str × V)) = ([("layers", .ref L), ("name", .str nm), ("platform", pfV pf), ("number", .int num), ("done", .bl false), ("_addresses", .ref A), ("_index", .int 0)] : List (Str × V)) from rfl]
      refine ⟨_, rfl, o, cP, dx, [("layers", .ref L), ("name", .str nm), ("platform", pfV pf), ("number", .int num), ("done", .bl false), ("_addresses", .ref A), ("_index", .int 0)], rfl, upd_same, T.clP, T.n_claim, (by show 7 < 1000; decide), ?_⟩
      rw [show putF "_claim" (.non : V) ([("layers", .ref L), ("name", .str nm), ("platform", pfV pf), ("number", .int num), ("done", .bl false), ("_addresses", .ref A), ("_index", .int 0)] : List (Str × V)) = ([("layers", .ref L), ("name", .str nm), ("platform", pfV pf), ("number", .int num), ("done", .bl false), ("_addresses", .ref A), ("_index", .int 0), ("_claim", .non)] : List (Str × V)) from rfl]
      refine ⟨_, rfl, o, cP, dx, [("layers", .ref L), ("name", .str nm), ("platform", pfV pf), ("number", .int num), ("done", .bl false), ("_addresses", .ref A), ("_index", .int 0), ("_claim", .non)], rfl, upd_same, T.clP, T.n_upload, (by show 8 < 1000; decide), ?_⟩
      rw [show putF "_upload" (.non : V) ([("layers", .ref L), ("name", .str nm), ("platform", pfV pf), ("number", .int num), ("done", .bl false), ("_addresses", .ref A), ("_index", .int 0), ("_claim", .non)] : List (Str × V)) = ([("layers", .ref L), ("name", .str nm), ("platform", pfV pf), ("number", .int num), ("done", .bl false), ("_addresses", .ref A), ("_index", .int 0), ("_claim", .non), ("_upload", .non)] : List (Str × V)) from rfl]
      refine ⟨szl, fun rq nr => ?_⟩
      have ho9 : (L2.upd (L2.upd (L2.upd (L2.upd H6 o (.ins cP dx [("layers", .ref L), ("name", .str nm), ("platform", pfV pf), ("number", .int num), ("done", .bl false), ("_addresses", .ref A)])) o (.ins cP dx [("layers", .ref L), ("name", .str nm), ("platform", pfV pf), ("number", .int num), ("done", .bl false), ("_addresses", .ref A), ("_index", .int 0)])) o (.ins cP dx [("layers", .ref L), ("name", .str nm), ("platform", pfV pf), ("number", .int num), ("done", .bl false), ("_addresses", .ref A), ("_index", .int 0), ("_claim", .non)])) o (.ins cP dx [("layers", .ref L), ("name", .str nm), ("platform", pfV pf), ("number", .int num), ("done", .bl false), ("_addresses", .ref A), ("_index", .int 0), ("_claim", .non), ("_upload", .non)])) o = some (.ins cP dx [("layers", .ref L), ("name", .str nm), ("platform", pfV pf), ("number", .int num), ("done", .bl false), ("_addresses", .ref A), ("_index", .int 0), ("_claim", .non), ("_upload", .non)]) := upd_same
      have orq : o ≠ rq := ne_of_none ho9 nr
      refine ⟨_, rfl, o, cP, dx, [("layers", .ref L), ("name", .str nm), ("platform", pfV pf), ("number", .int num), ("done", .bl false), ("_addresses", .ref A), ("_index", .int 0), ("_claim", .non), ("_upload", .non)], rfl, (by rw [upd_ne orq]; exact upd_same), T.clP, T.n_request, (by show 9 < 1000; decide), ?_⟩
      rw [show putF "_request" (.ref rq : V) ([("layers", .ref L), ("name", .str nm), ("platform", pfV pf), ("number", .int num), ("done", .bl false), ("_addresses", .ref A), ("_index", .int 0), ("_claim", .non), ("_upload", .non)] : List (Str × V)) = ([("layers", .ref L), ("name", .str nm), ("platform", pfV pf), ("number", .int num), ("done", .bl false), ("_addresses", .ref A), ("_index", .int 0), ("_claim", .non), ("_upload", .non), ("_request", .ref rq)] : List (Str × V)) from rfl]
      have nr6 : H6 rq = none := by rw [upd_ne orq.symm, upd_ne orq.symm, upd_ne orq.symm, upd_ne orq.symm] at nr; exact nr
      have keep : ∀ {x : Addr} {v : HO}, x ≠ o → H6 x = some v → (L2.upd (L2.upd (L2.upd (L2.upd (L2.upd (L2.upd H6 o (.ins cP dx [("layers", .ref L), ("name", .str nm), ("platform", pfV pf), ("number", .int num), ("done", .bl false), ("_addresses", .ref A)])) o (.ins cP dx [("layers", .ref L), ("name", .str nm), ("platform", pfV pf), ("number", .int num), ("done", .bl false), ("_addresses", .ref A), ("_index", .int 0)])) o (.ins cP dx [("layers", .ref L), ("name", .str nm), ("platform", pfV pf), ("number", .int num), ("done", .bl false), ("_addresses", .ref A), ("_index", .int 0), ("_claim", .non)])) o (.ins cP dx [("layers", .ref L), ("name", .str nm), ("platform", pfV pf), ("number", .int num), ("done", .bl false), ("_addresses", .ref A), ("_index", .int 0), ("_claim", .non), ("_upload", .non)])) rq (.tup [.str "open"])) o (.ins cP dx [("layers", .ref L), ("name", .str nm), ("platform", pfV pf), ("number", .int num), ("done", .bl false), ("_addresses", .ref A), ("_index", .int 0), ("_claim", .non), ("_upload", .non), ("_request", .ref rq)])) x = some v := fun {x} {v} h e => by
        rw [upd_ne h, upd_ne (fun z => by rw [z, nr6] at e; cases e), upd_ne h, upd_ne h, upd_ne h, upd_ne h]; exact e
      refine q L A ⟨num, false, 0, .non, .non, .ref rq⟩ _ ⟨⟨upd_same, keep oL.symm (s6 _ _ eL5), keep oA hA⟩, rfl, fun z => absurd rfl z, fun z => by (rcases z with z | z <;> cases z), fun z => (nomatch z), fun z => (nomatch z), fun _ => ⟨rq, rfl, (upd_ne orq.symm).trans upd_same⟩⟩ rfl ?_ ?_ ?_
      · refine ⟨fun b v nb e => keep nb (s6 _ _ (hx nb (s1 _ _ e))), fun b z => ?_⟩
        have nb : b ≠ o := fun h => by rw [h, upd_same] at z; cases z
        rw [upd_ne nb] at z
        have nb2 : b ≠ rq := fun h => by rw [h, upd_same] at z; cases z
        rw [upd_ne nb2, upd_ne nb, upd_ne nb, upd_ne nb, upd_ne nb] at z
        exact s1.free (hf (s6.free z)).1
      · exact nL
      · exact s1.free (hf nA).1
end
end LW
namespace LW
open PySem PySem.Spec PyProof.Rows L2 GxR
/-- the class x at C is made with keywords -/
def CalKN (P : Program) (w : World) (K : PySem.W.Frag) (mg : Str → Option Value) (base : Heap) (CX : CXT) (k : Nat) (x : Str) (C : Addr) (ps : List Str) (sp : Sp) (n : Nat) (ks : List Str) : Prop :=
  ∃ (f : Addr) (fd : FuncData) (g : List Value → List Value → List Value), FnOk P w K mg base CX k f fd ps sp ∧ Mk K C f ∧ mg x = some (.ref C) ∧ KBn K fd ps n ks g (fun vs zs => vs ++ zs)
def pfs : List (Option Str) := [none, none, some "mill", some "yard"]
def nms : List Str := ["app", "web"]
theorem pfs_ok : ∀ q ∈ pfs, ∀ z, q = some z → z.length ≤ 20 ∧ PyData.strOk z = true := by
  intro q hq z hz
  have : ∀ z ∈ (["mill", "yard"] : List Str), z.length ≤ 20 ∧ PyData.strOk z = true := by decide +kernel
  refine this z ?_
  simp only [pfs, List.mem_cons, List.not_mem_nil, or_false] at hq
  rcases hq with rfl | rfl | rfl | rfl
  · cases hz
  · cases hz
  · cases hz; exact List.mem_cons_self
  · cases hz; exact List.mem_cons_of_mem _ List.mem_cons_self
theorem nms_ok : ∀ z ∈ nms, PyData.strOk z = true := by decide +kernel
/-- the push is none of the law's own state -/
structure PN (p : Psh) (a c : Addr) : Prop where
  o : p.o ≠ a ∧ p.o ≠ c
  L : p.L ≠ a ∧ p.L ≠ c
  A : p.A ≠ a ∧ p.A ≠ c
theorem strOk_of {x : Str} (h : ∀ z ∈ x.cps.toList, z ∈ drawn) : PyData.strOk x = true := by
  show x.cps.all (fun c => decide (c < 0x110000)) = true
  rw [← Array.all_toList, List.all_eq_true]
  intro c hc
  exact decide_eq_true ((by decide : ∀ z ∈ drawn, z < 0x110000) c (h c hc))
abbrev s_law_pusher : Stmt := topS 20
abbrev N_law_pusher : List Str := ["state", "layers", "platform", "k"]
abbrev P_law_pusher : List Str := ["state"]
theorem sc_law_pusher : FnScope N_law_pusher P_law_pusher (defScope s_law_pusher) := ⟨rfl, rfl, rfl, by decide +kernel, rfl, by decide +kernel, by decide +kernel⟩
def sp_law_pusher (cP : Addr) : Sp := fun vs H Q _ => ∃ (a c : Addr), vs = [.ref a] ∧ SL H a c ∧ ∀ (p : Psh) (F : Fl) (H' : Hp), R cP p f0 F H' → POk p → PN p a c → SL H' a c → Mv a c H H' → Q (.ref p.o) H'
section
variable {P : Program} {w : World} {K : PySem.W.Frag} {mg : Str → Option Value} {base : Heap} {cP : Addr}
theorem ok_law_pusher {f : Addr} {fd : FuncData} (F : Fun K "_law_pusher" "_law_pusher" s_law_pusher f fd) (T : Tx K mg cP)
    (C_Pusher : CalKN P w K mg base CX0 2 "Pusher" cP P_Pusher___init (sp_Pusher___init cP) 3 ["platform", "number"])
    (C__law_take : Cal P w K mg base CX0 1 "_law_take" P_law_take spTake)
    (C__law_text : Cal P w K mg base CX0 2 "_law_text" P_law_text spText) : FnOk P w K mg base CX0 4 f fd P_law_pusher (sp_law_pusher cP) := by
  refine F.ok sc_law_pusher (fun vs H Q E h => ?_) (fun cdv A outer s H vs Q E hr h => ?_)
  · obtain ⟨_, _, rfl, _⟩ := h
    rfl
  · obtain ⟨a, c, rfl, s0, q⟩ := h
    have nd := sc_law_pusher.nd
    obtain ⟨fP, dP, gP, FP, MP, aP, bP⟩ := C_Pusher
    refine ⟨_, pss_cons (ps_setLc (i := 1) (own := [("k", 3)]) (g := gName 3) (tt := tYes) rfl nd rfl rfl (sw_true rfl rfl rfl (by decide +kernel)) (pi_range1 (by rfl) T.range (pa_cons (pe_cal C__law_take hr (pa_cons (pv 0) (pa_cons pe_int pa_nil))) pa_nil)) (blkOk_by (N := N_law_pusher) (sc := defScope s_law_pusher) (by decide +kernel)) (fun _ _ _ _ _ => (pg_name (i := 3) nd rfl (Or.inl rfl))) (fun _ _ _ _ _ => pts_nil) (fun _ _ _ _ _ => (pe_cal C__law_text hr (pa_cons (pv 0) (pa_cons pe_int pa_nil)))))
  (pss_cons (ps_set (i := 2) nd rfl (Or.inl rfl) (pe_ix ix_list (pe_lst (pa_cons pe_non (pa_cons pe_non (pa_cons pe_str (pa_cons pe_str pa_nil))))) (pe_cal C__law_take hr (pa_cons (pv 0) (pa_cons pe_int pa_nil))) (fun _ _ => rfl)))
  (pss_one (ps_ret (pe_makeK MP FP (hr.mono (by decide)) (by rfl) aP bP pass0 (pa_cons (pv 1) (pa_cons (pe_ix ix_list (pe_lst (pa_cons pe_str (pa_cons pe_str pa_nil))) (pe_cal C__law_take hr (pa_cons (pv 0) (pa_cons pe_int pa_nil))) (fun _ _ => rfl)) pa_nil)) (pk_cons (pv 2) (pk_cons (pe_cal C__law_take hr (pa_cons (pv 0) (pa_cons pe_int pa_nil))) pk_nil)))))), ?_⟩

    refine ⟨_, rfl, a, c, 4, rfl, s0, by decide, by decide, fun v H1 v0 v1 e1 s1 => ?_⟩
    obtain ⟨n, rfl, hn⟩ := nat_of v0 v1
    refine ⟨_, rfl, by omega, by omega, fun D nD => ?_⟩
    have nDa := s1.ne nD
    have nD0 := (Mv.take s0 s1 e1).free D nD
    show ∃ W : Nat → Nat → Hp → Prop, _
    refine lc_range (lo := 0) (n := n) (fun i H' => ∃ ls : List Str, ls.length = i ∧ (∀ t ∈ ls, t.length ≤ 7 ∧ PyData.strOk t = true) ∧ H' D = some (.lst (ls.map V.str)) ∧ SL H' a c ∧ Mv a c H H')
      ⟨[], rfl, (fun t z => nomatch z), upd_same, s1.same (same_upd nD), (Mv.take s0 s1 e1).new nD0⟩ ?_ ?_
    · rintro i H4 hi ⟨ls, ll, hls, hD, s4, m4⟩
      refine ⟨rfl, tyes ⟨_, rfl, a, c, 7, rfl, s4, by decide, fun t H5 t7 td s5 m5 => ?_⟩⟩
      have hD5 := m5.keep D _ nDa.1 nDa.2 hD
      refine ⟨_, hD5, ?_, ls ++ [t], by simp [ll], ?_, by rw [upd_same, List.map_append]; rfl, s5.eq (upd_ne nDa.1.symm) (upd_ne nDa.2.symm), (m4.trans m5).new nD0⟩
      · rw [List.length_map, ll]
        exact Nat.lt_of_lt_of_le (show i < 4 by omega) (by decide)
      · intro z hz
        rcases List.mem_append.mp hz with h | h
        · exact hls z h
        · rw [List.mem_singleton.mp h]; exact ⟨t7, strOk_of td⟩
    · rintro H4 ⟨ls, ll, hls, hD, s4, m4⟩
      refine ⟨szl, fun p2 n2 => ⟨_, rfl, a, c, 4, rfl, s4.same (same_upd n2), by decide, by decide, fun v5 H5 v50 v54 e5 s5 => ?_⟩⟩
      have np2 := s4.ne n2
      have m5 : Mv a c H H5 := (m4.trans (Mv.same (same_upd n2))).trans (Mv.take (s4.same (same_upd n2)) s5 e5)
      obtain ⟨j5, rfl, h5⟩ := nat_of v50 v54
      have hj5 : j5 < pfs.length := by show j5 < 4; omega
      have hp5 : SqL K H5 p2 (pfs.map pfV) := SqL.of (by rw [e5 p2 np2.1 np2.2]; exact upd_same)
      refine ⟨p2, _, _, pfV pfs[j5], rfl, rfl, hp5, atI_nat (by rw [List.getElem?_map, List.getElem?_eq_getElem hj5]; rfl), ?_⟩
      have pok := pfs_ok _ (List.getElem_mem hj5)
      generalize pfs[j5] = pf at pok
      have hD5 : H5 D = some (.lst (ls.map V.str)) := by
        rw [e5 D nDa.1 nDa.2]; exact same_upd n2 _ _ hD
      refine ⟨_, rfl, szl, fun p3 n3 => ⟨_, rfl, a, c, 2, rfl, s5.same (same_upd n3), by decide, by decide, fun v6 H6 v60 v62 e6 s6 => ?_⟩⟩
      have np3 := s5.ne n3
      have m6 : Mv a c H H6 := (m5.trans (Mv.same (same_upd n3))).trans (Mv.take (s5.same (same_upd n3)) s6 e6)
      obtain ⟨j6, rfl, h6⟩ := nat_of v60 v62
      have hj6 : j6 < nms.length := by show j6 < 2; omega
      have hp6 : SqL K H6 p3 (nms.map V.str) := SqL.of (by rw [e6 p3 np3.1 np3.2]; exact upd_same)
      refine ⟨p3, _, _, .str nms[j6], rfl, rfl, hp6, atI_nat (by rw [List.getElem?_map, List.getElem?_eq_getElem hj6]; rfl), ?_⟩
      have nok := nms_ok _ (List.getElem_mem hj6)
      generalize nms[j6] = nm at nok
      have hD6 : H6 D = some (.lst (ls.map V.str)) := by
        rw [e6 D nDa.1 nDa.2]; exact same_upd n3 _ _ hD5
      refine ⟨_, rfl, _, rfl, a, c, 3, rfl, s6, by decide, by decide, fun v7 H7 v70 v73 e7 s7 => ?_⟩
      have m7 : Mv a c H H7 := m6.trans (Mv.take s6 s7 e7)
      have hD7 : H7 D = some (.lst (ls.map V.str)) := by rw [e7 D nDa.1 nDa.2]; exact hD6
      refine ⟨rfl, rfl, fun x dx nx ndx ne => ?_⟩
      have sb : Same H7 (L2.upd (L2.upd H7 dx (.own x)) x (.ins cP dx [])) := fun b u e => by rw [upd_ne (ne_of_none e nx), upd_ne (ne_of_none e ndx)]; exact e
      refine ⟨x, dx, D, nm, pf, v7, ls, rfl, upd_same, sb _ _ hD7, by omega, fun L A F H' R' hn' k' nL nA => ⟨rfl, ?_⟩⟩
      have nxa := s7.ne nx
      have nLa := s7.ne (sb.free nL)
      have nAa := s7.ne (sb.free nA)
      have kk : ∀ b u, H7 b = some u → H' b = some u := fun b u e => k'.keep b u (ne_of_none e nx) (sb _ _ e)
      refine q ⟨x, dx, L, A, nm, pf, ls⟩ F H' R' ⟨by show ls.length ≤ 3; omega, hls, nok, pok⟩ ⟨nxa, nLa, nAa⟩ (s7.same kk) (m7.trans ⟨fun b u _ _ e => kk b u e, fun b z => sb.free (k'.free b z)⟩)
end
end LW
namespace LW
open PySem PySem.Spec PyProof.Rows L2 GxR
def tail2 (p : Psh) : List (Str × Str) := match p.pf with
  | none => []
  | some q => [("bundle", p.bun q)]
def blobs (p : Psh) : List (Str × Str) := (p.ls.map (fun t => (("layer" : Str), t)) ++ [(("image" : Str), p.img)]) ++ tail2 p
def TupK (H H' : Hp) : Prop := ∀ b xs, H b = some (.tup xs) → H' b = some (.tup xs)
theorem Prs.tk {K : PySem.W.Frag} {H H' : Hp} {ts : List V} {es : List (Str × Str)} (h : Prs K H ts es) (g : TupK H H') : Prs K H' ts es := by
  induction h with
  | nil => exact .nil
  | cons r _ ih =>
    obtain ⟨t, e, ht⟩ := r
    exact .cons ⟨t, e, g _ _ ht⟩ ih
theorem Prs.app {K : PySem.W.Frag} {H : Hp} {ts ts' : List V} {es es' : List (Str × Str)} (h : Prs K H ts es) (h' : Prs K H ts' es') : Prs K H (ts ++ ts') (es ++ es') := by
  induction h with
  | nil => exact h'
  | cons r _ ih => exact .cons r ih
theorem Prs.one {K : PySem.W.Frag} {H : Hp} {t : Addr} {x y : Str} (h : H t = some (.tup [.str x, .str y])) : Prs K H [.ref t] [(x, y)] := .cons ⟨t, rfl, h⟩ .nil
theorem tk_same {H H' : Hp} (s : Same H H') : TupK H H' := fun b xs e => s b _ e
theorem tk_lst {H : Hp} {l : Addr} {xs ys : List V} (h : H l = some (.lst xs)) : TupK H (L2.upd H l (.lst ys)) := fun b zs e => by
  rw [upd_ne (show b ≠ l from ne_of e h (by intro z; cases z))]; exact e
theorem TupK.trans {H H1 H2 : Hp} (h : TupK H H1) (g : TupK H1 H2) : TupK H H2 := fun b xs e => g b xs (h b xs e)
abbrev s_law_blobs : Stmt := topS 21
abbrev N_law_blobs : List Str := ["pusher", "image", "blobs", "text"]
abbrev P_law_blobs : List Str := ["pusher"]
theorem sc_law_blobs : FnScope N_law_blobs P_law_blobs (defScope s_law_blobs) := ⟨rfl, rfl, rfl, by decide +kernel, rfl, by decide +kernel, by decide +kernel⟩
def sp_law_blobs (cP : Addr) : Sp := fun vs H Q _ => ∃ (p : Psh) (Fl : Fl), vs = [.ref p.o] ∧ PuAt cP p Fl H ∧ POk p ∧ ∀ (l : Addr) (ts : List V) (H' : Hp), Same H H' → H l = none → H' l = some (.lst ts) → (∀ K, Prs K H' ts (blobs p)) → Q (.ref l) H'
section
variable {P : Program} {w : World} {K : PySem.W.Frag} {mg : Str → Option Value} {base : Heap} {cP : Addr}
theorem ok_law_blobs {f : Addr} {fd : FuncData} (F : Fun K "_law_blobs" "_law_blobs" s_law_blobs f fd) (T : Tx K mg cP)
    (C_address_of : Cal P w K mg base CX0 1 "address_of" P_address_of spAddr)
    (C_bundle_text : Cal P w K mg base CX0 2 "bundle_text" P_bundle_text (spBundle K))
    (C_image_text : Cal P w K mg base CX0 2 "image_text" P_image_text (spImage K)) : FnOk P w K mg base CX0 3 f fd P_law_blobs (sp_law_blobs cP) := by
  refine F.ok sc_law_blobs (fun vs H Q E h => ?_) (fun cdv A outer s H vs Q E hr h => ?_)
  · obtain ⟨_, _, rfl, _⟩ := h
    rfl
  · obtain ⟨p, Fl, rfl, hp, ok, q⟩ := h
    have nd := sc_law_blobs.nd
    refine ⟨_, pss_cons (ps_set (i := 1) nd rfl (Or.inl rfl) (pe_cal C_image_text hr (pa_cons (pe_lc (own := [("text", 3)]) (g := gName 3) (tt := tYes) rfl nd (pi_list (pe_fld (pv 0) rfl)) (blkOk_by (N := N_law_blobs) (sc := defScope s_law_blobs) (by decide +kernel)) (fun _ _ _ _ _ => (pg_name (i := 3) nd rfl (Or.inl rfl))) (fun _ _ _ _ _ => pts_nil) (fun _ _ _ _ _ => (pe_cal C_address_of hr (pa_cons pe_str (pa_cons (pv 3) pa_nil))))) pa_nil)))
  (pss_cons (ps_set (i := 2) nd rfl (Or.inl rfl) (pe_op op_cat (pe_lc (own := [("text", 3)]) (g := gName 3) (tt := tYes) rfl nd (pi_list (pe_fld (pv 0) rfl)) (blkOk_by (N := N_law_blobs) (sc := defScope s_law_blobs) (by decide +kernel)) (fun _ _ _ _ _ => (pg_name (i := 3) nd rfl (Or.inl rfl))) (fun _ _ _ _ _ => pts_nil) (fun _ _ _ _ _ => (pe_tup (pa_cons pe_str (pa_cons (pv 3) pa_nil))))) (pe_lst (pa_cons (pe_tup (pa_cons pe_str (pa_cons (pv 1) pa_nil))) pa_nil))))
  (pss_cons (ps_if (pt_cmpR op_notN (pe_fld (pv 0) rfl) pe_non (nomark _))
    (pss_one (ps_expr (pe_bm PySem.F.plainAttrs_list PySem.F.slot_list_append PySem.F.type_list_append mt_append (pv 2) (pa_cons (pe_tup (pa_cons pe_str (pa_cons (pe_cal C_bundle_text hr (pa_cons (pe_lst (pa_cons (pe_tup (pa_cons (pe_fld (pv 0) rfl) (pa_cons (pe_cal C_address_of hr (pa_cons pe_str (pa_cons (pv 1) pa_nil))) pa_nil))) pa_nil)) pa_nil)) pa_nil))) pa_nil))))
    (pss_nil))
  (pss_one (ps_ret (pv 2))))), ?_⟩

    have h3 := ok.len
    refine ⟨_, rfl, p.o, cP, p.dx, _, _, rfl, hp.ob, T.clP, T.nlayers, rfl, p.L, rfl, ⟨_, SqL.of hp.hL⟩, fun D nD => ?_⟩
    show ∃ W : Nat → Nat → Hp → Prop, _
    refine lc_list (K := K) (a := p.L) (xs := p.ls.map V.str) (fun i H' => Same H H' ∧ H' D = some (.lst (((p.ls.take i).map (adOf 0)).map V.str))) ⟨same_upd nD, upd_same⟩ (fun i H' _ h => SqL.of (h.1 _ _ hp.hL)) ?_ ?_
    · rintro i x H' hx' ⟨s', hA⟩
      rw [List.getElem?_map] at hx'
      cases ei : p.ls[i]? with
      | none => rw [ei] at hx'; cases hx'
      | some t =>
        rw [ei] at hx'
        cases hx'
        have hi : i < p.ls.length := (List.getElem?_eq_some_iff.mp ei).1
        refine ⟨rfl, tyes ⟨_, rfl, "layer", t, 0, rfl, rfl, by decide, _, hA, ?_, ?_, ?_⟩⟩
        · rw [List.length_map, List.length_map, List.length_take]
          exact Nat.lt_of_le_of_lt (show min i p.ls.length ≤ 3 by omega) (by decide)
        · exact fun b v e => by
            by_cases hb : b = D
            · rw [hb, nD] at e; cases e
            · rw [upd_ne hb]; exact s' b v e
        · rw [upd_same, List.take_add_one, ei, List.map_append, List.map_append]; rfl
    rintro H2 ⟨s2, hD⟩
    rw [List.length_map, List.take_length] at hD
    refine ⟨D, p.ls.map (adOf 0), rfl, SqL.of hD, by rw [List.length_map]; omega, fun x hx => ?_, fun H3 s3 => ?_⟩
    · obtain ⟨t, _, rfl⟩ := List.mem_map.mp hx
      rw [adOf_len]; decide
    have s03 := s2.trans s3
    have hp3 := hp.same s03
    refine ⟨_, rfl, p.o, cP, p.dx, _, _, rfl, hp3.ob, T.clP, T.nlayers, rfl, p.L, rfl, ⟨_, SqL.of hp3.hL⟩, fun D2 nD2 => ?_⟩
    show ∃ W : Nat → Nat → Hp → Prop, _
    refine lc_list (K := K) (a := p.L) (xs := p.ls.map V.str) (fun i H' => Same H3 H' ∧ ∃ ts : List V, H' D2 = some (.lst ts) ∧ ts.length = i ∧ ∀ K, Prs K H' ts ((p.ls.take i).map fun t => (("layer" : Str), t))) ⟨same_upd nD2, [], upd_same, rfl, fun _ => .nil⟩ (fun i H' _ h => SqL.of (h.1 _ _ hp3.hL)) ?_ ?_
    · rintro i x H' hx' ⟨s', ts, hA, lt, hP⟩
      rw [List.getElem?_map] at hx'
      cases ei : p.ls[i]? with
      | none => rw [ei] at hx'; cases hx'
      | some t =>
        rw [ei] at hx'
        cases hx'
        have hi : i < p.ls.length := (List.getElem?_eq_some_iff.mp ei).1
        refine ⟨rfl, tyes ⟨_, rfl, szl, fun t1 n1 => ?_⟩⟩
        have c1 := same_upd n1 (o := .tup [.str "layer", .str t])
        have hA1 := c1 _ _ hA
        refine ⟨_, hA1, ?_, ?_, ts ++ [.ref t1], upd_same, by rw [List.length_append, lt]; rfl, fun K => ?_⟩
        · rw [lt]
          exact Nat.lt_of_le_of_lt (show i ≤ 3 by omega) (by decide)
        · exact fun b v e => by
            by_cases hb : b = D2
            · rw [hb, nD2] at e; cases e
            · rw [upd_ne hb]; exact c1 _ _ (s' b v e)
        · rw [List.take_add_one, ei, List.map_append]
          exact (((hP K).tk (tk_same c1)).tk (tk_lst hA1)).app (.one (tk_lst hA1 _ _ upd_same))
    rintro H4 ⟨s4, ts, hA, lt, hP⟩
    rw [List.length_map] at lt
    have hP' : ∀ K, Prs K H4 ts (p.ls.map fun t => (("layer" : Str), t)) := fun K => by have := hP K; rw [List.length_map, List.take_length] at this; exact this
    refine ⟨_, rfl, szl, fun t1 n1 => ⟨szl, fun l1 n2 => ?_⟩⟩
    have c1 := same_upd n1 (o := .tup [.str "image", .str (textOf (word false :: p.ls.map (adOf 0)))])
    have c2 := same_upd n2 (o := .lst [.ref t1])
    refine ⟨D2, l1, ts, _, rfl, rfl, c2 _ _ (c1 _ _ hA), upd_same, Nat.le_trans (show ts.length + 1 ≤ 5 by omega) (by decide), fun l n3 => ?_⟩
    have c3 := same_upd n3 (o := .lst (ts ++ [.ref t1]))
    have hPi : ∀ K, Prs K _ (ts ++ [.ref t1]) (p.ls.map (fun t => (("layer" : Str), t)) ++ [(("image" : Str), p.img)]) := fun K => ((hP' K).tk (tk_same ((c1.trans c2).trans c3))).app (.one ((c2.trans c3) t1 (.tup [.str "image", .str (textOf (word false :: p.ls.map (adOf 0)))]) upd_same))
    have s05 : Same H _ := s03.trans (s4.trans ((c1.trans c2).trans c3))
    have nl0 : H l = none := (s03.trans (s4.trans (c1.trans c2))).free n3
    have hp5 := hp.same s05
    have hl5 := upd_same (H := L2.upd (L2.upd H4 t1 (.tup [.str "image", .str (textOf (word false :: p.ls.map (adOf 0)))])) l1 (.lst [.ref t1])) (a := l) (o := .lst (ts ++ [.ref t1]))
    revert hPi s05 hp5 hl5
    generalize L2.upd (L2.upd (L2.upd H4 t1 (.tup [.str "image", .str (textOf (word false :: p.ls.map (adOf 0)))])) l1 (.lst [.ref t1])) l (.lst (ts ++ [.ref t1])) = H5
    intro hPi s05 hp5 hl5
    refine ⟨_, rfl, p.o, cP, p.dx, _, _, rfl, hp5.ob, T.clP, T.nplatform, rfl, rfl, _, rfl, ?_⟩
    cases hpf : p.pf with
    | none =>
      refine iteF ⟨_, rfl, q l _ H5 s05 nl0 hl5 fun K => ?_⟩
      unfold blobs tail2
      rw [hpf, List.append_nil]; exact hPi K
    | some z =>
      obtain ⟨z20, zok⟩ := ok.pf z hpf
      refine iteT ⟨_, rfl, .inl ⟨rfl, _, SqL.of hl5⟩, _, rfl, p.o, cP, p.dx, _, _, rfl, hp5.ob, T.clP, T.nplatform, rfl, _, rfl, "image", p.img, 1, rfl, rfl, by decide, szl, fun t2 n4 => ⟨szl, fun l2 n5 => ?_⟩⟩
      have ht := same_upd n5 (o := .lst [.ref t2]) t2 (.tup [pfV p.pf, .str (adOf 1 p.img)]) upd_same
      have d1 : Same H5 _ := same_upd n4 (o := .tup [pfV p.pf, .str (adOf 1 p.img)])
      have d2 := d1.trans (same_upd n5 (o := .lst [.ref t2]))
      rw [hpf] at ht d1 d2 ⊢
      refine ⟨l2, [.ref t2], [(z, adOf 1 p.img)], rfl, SqL.of upd_same, .cons ⟨t2, rfl, ht⟩ .nil, (by show (1 : Nat) ≤ 100; decide), fun x hx => ?_, fun H6 s6 => ⟨szl, fun t3 n6 => ?_⟩⟩
      · rw [List.mem_singleton.mp hx]
        exact ⟨by show z.length ≤ 100; omega, by show (adOf 1 p.img).length ≤ 100; rw [adOf_len]; decide⟩
      have d3 := same_upd n6 (o := .tup [.str "bundle", .str (p.bun z)])
      have d03 : Same H5 _ := (d2.trans s6).trans d3
      have hl7 := d03 _ _ hl5
      refine ⟨l, _, _, rfl, rfl, hl7, ?_, ?_⟩
      · rw [List.length_append, lt]
        exact Nat.lt_of_le_of_lt (show p.ls.length + 1 ≤ 5 by omega) (by decide)
      refine ⟨_, rfl, q l _ _ (fun b v e => ?_) nl0 upd_same fun K => ?_⟩
      · rw [upd_ne (ne_of_none e nl0)]
        exact d03 _ _ (s05 _ _ e)
      · unfold blobs tail2
        rw [hpf]
        exact (((hPi K).tk (tk_same d03)).tk (tk_lst hl7)).app (.one (tk_lst hl7 t3 [.str "bundle", .str (p.bun z)] upd_same))
end
end LW
namespace LW
open PySem PySem.Spec PyProof.Rows L2 GxR
def stN : Stp → Str
  | .opn => "open"
  | .has => "has"
  | .start => "start"
  | .part => "part"
  | .finish => "finish"
  | .put b => word b
  | .name => "name"
  | .close => "close"
  | .done => "done"
def mdl (m : Ms) : List (Key × V) := [(.inr "step", .str (stN m.st)), (.inr "claim", .int m.cl), (.inr "upload", .int m.up), (.inr "at", .int (m.at_ : Int)), (.inr "place", .int (m.pl : Int))]
theorem g_step (m : Ms) : valV (mdl m) (.inr "step") = some (.str (stN m.st)) := by rfl
theorem g_claim (m : Ms) : valV (mdl m) (.inr "claim") = some (.int m.cl) := by rfl
theorem g_upload (m : Ms) : valV (mdl m) (.inr "upload") = some (.int m.up) := by rfl
theorem g_at (m : Ms) : valV (mdl m) (.inr "at") = some (.int (m.at_ : Int)) := by rfl
theorem g_place (m : Ms) : valV (mdl m) (.inr "place") = some (.int (m.pl : Int)) := by rfl
theorem p_claim (m : Ms) (n : Int) : putK (mdl m) (.inr "claim") (.int n) = mdl { m with cl := n } := by rfl
theorem p_upload (m : Ms) (n : Int) : putK (mdl m) (.inr "upload") (.int n) = mdl { m with up := n } := by rfl
theorem p_at (m : Ms) (n : Nat) : putK (mdl m) (.inr "at") (.int (n : Int)) = mdl { m with at_ := n } := by rfl
theorem p_step (m : Ms) (s : Stp) : putK (mdl m) (.inr "step") (.str (stN s)) = mdl { m with st := s } := by rfl
theorem p_place (m : Ms) (n : Nat) : putK (mdl m) (.inr "place") (.int (n : Int)) = mdl { m with pl := n } := by rfl
theorem dg_step {H : Hp} {d : Addr} {m : Ms} (h : H d = some (.dK (mdl m))) : DGet H d (.str "step") (some (.str (stN m.st))) := by rw [← g_step]; exact DGet.k (k := .inr "step") h
theorem dg_claim {H : Hp} {d : Addr} {m : Ms} (h : H d = some (.dK (mdl m))) : DGet H d (.str "claim") (some (.int m.cl)) := by rw [← g_claim]; exact DGet.k (k := .inr "claim") h
theorem dg_upload {H : Hp} {d : Addr} {m : Ms} (h : H d = some (.dK (mdl m))) : DGet H d (.str "upload") (some (.int m.up)) := by rw [← g_upload]; exact DGet.k (k := .inr "upload") h
theorem dg_at {H : Hp} {d : Addr} {m : Ms} (h : H d = some (.dK (mdl m))) : DGet H d (.str "at") (some (.int (m.at_ : Int))) := by rw [← g_at]; exact DGet.k (k := .inr "at") h
theorem dg_place {H : Hp} {d : Addr} {m : Ms} (h : H d = some (.dK (mdl m))) : DGet H d (.str "place") (some (.int (m.pl : Int))) := by rw [← g_place]; exact DGet.k (k := .inr "place") h
theorem mdl5 (m : Ms) : (mdl m).length < sizeLine := by show 5 < sizeLine; decide
def lastB (p : Psh) : Str × Str := match p.pf with
  | none => ("image", p.img)
  | some q => ("bundle", p.bun q)
theorem blobs_pos (p : Psh) : 0 < (blobs p).length := by
  unfold blobs
  rw [List.length_append, List.length_append]
  show 0 < _ + 1 + _
  omega
theorem blobs_last (p : Psh) : (blobs p)[(blobs p).length - 1]? = some (lastB p) := by
  unfold blobs tail2 lastB
  cases p.pf with
  | none => simp
  | some q => simp
theorem blobs_len (p : Psh) (h : POk p) : (blobs p).length ≤ 5 := by
  have := h.len
  unfold blobs tail2
  cases p.pf <;> simp <;> omega
abbrev s_law_target : Stmt := topS 22
abbrev N_law_target : List Str := ["pusher", "blobs"]
abbrev P_law_target : List Str := ["pusher"]
theorem sc_law_target : FnScope N_law_target P_law_target (defScope s_law_target) := ⟨rfl, rfl, rfl, by decide +kernel, rfl, by decide +kernel, by decide +kernel⟩
def sp_law_target (cP : Addr) : Sp := fun vs H Q _ => ∃ (p : Psh) (Fl : Fl), vs = [.ref p.o] ∧ PuAt cP p Fl H ∧ POk p ∧ ∀ H', Same H H' → Q (.str p.tgt) H'
abbrev s_law_layer : Stmt := topS 23
abbrev N_law_layer : List Str := ["pusher", "model"]
abbrev P_law_layer : List Str := ["pusher", "model"]
theorem sc_law_layer : FnScope N_law_layer P_law_layer (defScope s_law_layer) := ⟨rfl, rfl, rfl, by decide +kernel, rfl, by decide +kernel, by decide +kernel⟩
def sp_law_layer (cP : Addr) : Sp := fun vs H Q _ => ∃ (p : Psh) (Fl : Fl) (m : Ms) (d : Addr), vs = [.ref p.o, .ref d] ∧ PuAt cP p Fl H ∧ H d = some (.dK (mdl m)) ∧ m.pl < p.ls.length ∧ Q (.str (p.la m.pl)) H
abbrev s_law_place : Stmt := topS 25
abbrev N_law_place : List Str := ["pusher", "place"]
abbrev P_law_place : List Str := ["pusher", "place"]
theorem sc_law_place : FnScope N_law_place P_law_place (defScope s_law_place) := ⟨rfl, rfl, rfl, by decide +kernel, rfl, by decide +kernel, by decide +kernel⟩
def sp_law_place (cP : Addr) : Sp := fun vs H Q _ => ∃ (p : Psh) (Fl : Fl) (m : Ms) (i : Nat), vs = [.ref p.o, .int (i : Int)] ∧ PuAt cP p Fl H ∧ ∀ t H', Same H H' → H t = none → H' t = some (.tup [.str (stN (place p m i).st), .int ((place p m i).pl : Int)]) → Q (.ref t) H'
section
variable {P : Program} {w : World} {K : PySem.W.Frag} {mg : Str → Option Value} {base : Heap} {cP : Addr}
theorem ok_law_target {f : Addr} {fd : FuncData} (F : Fun K "_law_target" "_law_target" s_law_target f fd) (T : Tx K mg cP)
    (C__law_blobs : Cal P w K mg base CX0 3 "_law_blobs" P_law_blobs (sp_law_blobs cP))
    (C_address_of : Cal P w K mg base CX0 1 "address_of" P_address_of spAddr) : FnOk P w K mg base CX0 4 f fd P_law_target (sp_law_target cP) := by
  refine F.ok sc_law_target (fun vs H Q E h => ?_) (fun cdv A outer s H vs Q E hr h => ?_)
  · obtain ⟨_, _, rfl, _⟩ := h
    rfl
  · obtain ⟨p, Fl, rfl, hp, ok, q⟩ := h
    have nd := sc_law_target.nd
    refine ⟨_, pss_cons (ps_set (i := 1) nd rfl (Or.inl rfl) (pe_cal C__law_blobs hr (pa_cons (pv 0) pa_nil)))
  (pss_one (ps_ret (pe_cal C_address_of hr (pa_cons (pe_ix ix_tup (pe_ix ix_list (pv 1) (pe_op op_sub (pe_callB call_len_seq (by rfl) T.len (by decide +kernel) (pa_cons (pv 1) pa_nil)) pe_int) (fun _ _ => rfl)) pe_int (fun _ _ => rfl)) (pa_cons (pe_ix ix_tup (pe_ix ix_list (pv 1) (pe_op op_sub (pe_callB call_len_seq (by rfl) T.len (by decide +kernel) (pa_cons (pv 1) pa_nil)) pe_int) (fun _ _ => rfl)) pe_int (fun _ _ => rfl)) pa_nil))))), ?_⟩

    refine ⟨_, rfl, p, Fl, rfl, hp, ok, fun l ts H1 s1 nl hl hP => ?_⟩
    have lt := (hP K).len
    have hpos := blobs_pos p
    obtain ⟨v, hv⟩ : ∃ v, ts[ts.length - 1]? = some v := ⟨_, List.getElem?_eq_getElem (by omega)⟩
    obtain ⟨e, t, he, rfl, ht⟩ := (hP K).get hv
    rw [lt, blobs_last] at he
    cases he
    have hat : atI ts ((ts.length : Int) - 1) = some (.ref t) := by
      rw [show ((ts.length : Int) - 1) = ((ts.length - 1 : Nat) : Int) by omega]; exact atI_nat hv
    refine ⟨_, rfl, _, rfl, l, _, rfl, .inl (SqL.of hl), _, _, rfl, rfl, l, _, _, .ref t, rfl, rfl, SqL.of hl, hat, t, _, 0, .str (lastB p).1, rfl, rfl, SqT.of ht, atI_nat (j := 0) rfl, _, rfl, _, rfl, l, _, rfl, .inl (SqL.of hl), _, _, rfl, rfl, l, _, _, .ref t, rfl, rfl, SqL.of hl, hat, t, _, 1, .str (lastB p).2, rfl, rfl, SqT.of ht, atI_nat (j := 1) rfl, ?_⟩
    unfold lastB
    unfold Psh.tgt at q
    cases hpf : p.pf with
    | none =>
      rw [hpf] at q
      exact ⟨"image", p.img, 1, rfl, rfl, by decide, q H1 s1⟩
    | some z =>
      rw [hpf] at q
      exact ⟨"bundle", p.bun z, 2, rfl, rfl, by decide, q H1 s1⟩
theorem ok_law_layer {f : Addr} {fd : FuncData} (F : Fun K "_law_layer" "_law_layer" s_law_layer f fd) (T : Tx K mg cP)
    (C_address_of : Cal P w K mg base CX0 1 "address_of" P_address_of spAddr) : FnOk P w K mg base CX0 2 f fd P_law_layer (sp_law_layer cP) := by
  refine F.ok sc_law_layer (fun vs H Q E h => ?_) (fun cdv A outer s H vs Q E hr h => ?_)
  · obtain ⟨_, _, _, _, rfl, _⟩ := h
    rfl
  · obtain ⟨p, Fl, m, d, rfl, hp, hd, hpl, q⟩ := h
    have nd := sc_law_layer.nd
    have hu := hu_of hr
    refine ⟨_, pss_one (ps_ret (pe_cal C_address_of hr (pa_cons pe_str (pa_cons (pe_ix ix_list (pe_fld (pv 0) rfl) (pe_dget hu (pv 1) pe_str (fun _ _ => rfl)) (fun _ _ => rfl)) pa_nil)))), ?_⟩

    exact ⟨_, rfl, p.o, cP, p.dx, _, _, rfl, hp.ob, T.clP, T.nlayers, rfl, _, rfl, d, _, rfl, dg_place hd, p.L, _, _, .str (p.lay m.pl), rfl, rfl, SqL.of hp.hL, atI_nat (lay_at hpl).1, "layer", p.lay m.pl, 0, rfl, rfl, by decide, q⟩
theorem ok_law_place {f : Addr} {fd : FuncData} (F : Fun K "_law_place" "_law_place" s_law_place f fd) (T : Tx K mg cP) : FnOk P w K mg base CX0 1 f fd P_law_place (sp_law_place cP) := by
  refine F.ok sc_law_place (fun vs H Q E h => ?_) (fun cdv A outer s H vs Q E hr h => ?_)
  · obtain ⟨_, _, _, _, rfl, _⟩ := h
    rfl
  · obtain ⟨p, Fl, m, i, rfl, hp, q⟩ := h
    have nd := sc_law_place.nd
    refine ⟨_, pss_cons (ps_if (pt_cmpR op_lt (pv 1) (pe_callB call_len_seq (by rfl) T.len (by decide +kernel) (pa_cons (pe_fld (pv 0) rfl) pa_nil)) (nomark _))
    (pss_one (ps_ret (pe_tup (pa_cons pe_str (pa_cons (pv 1) pa_nil)))))
    (pss_nil))
  (pss_one (ps_ret (pe_tup (pa_cons pe_str (pa_cons (pv 1) pa_nil))))), ?_⟩

    refine ⟨_, rfl, _, rfl, p.o, cP, p.dx, _, _, rfl, hp.ob, T.clP, T.nlayers, rfl, p.L, _, rfl, .inl (SqL.of hp.hL), _, _, rfl, rfl, _, rfl, ?_⟩
    rw [List.length_map]
    unfold place at q
    refine ite2 (fun e => ?_) (fun e => ?_)
    · rw [if_pos (by have := of_decide_eq_true e; omega)] at q
      exact ⟨_, rfl, szl, fun t nt => q t _ (same_upd nt) nt upd_same⟩
    · rw [if_neg (by have := of_decide_eq_false (Bool.eq_false_iff.mpr e); omega)] at q
      exact ⟨_, rfl, szl, fun t nt => q t _ (same_upd nt) nt upd_same⟩
end
end LW
namespace LW
open PySem PySem.Spec PyProof.Rows L2 GxR
def resW : Option Ms → Str
  | none => ""
  | some m' => stN m'.st
def resP : Option Ms → Int
  | none => 0
  | some m' => (m'.pl : Int)
def mdA (m : Ms) : Option Ms → Ms
  | none => m
  | some m' => { m' with st := m.st, pl := m.pl }
def spStep (cP : Addr) (S : Stp → Prop) (nx : Psh → Ms → Rp → Option Ms) : Sp := fun vs H Q _ => ∃ (p : Psh) (Fl : Fl) (m : Ms) (d rr : Addr) (r : Rp), vs = [.ref p.o, .ref d, .ref rr] ∧ PuAt cP p Fl H ∧ POk p ∧ Wf p m ∧ S m.st ∧ H d = some (.dK (mdl m)) ∧ H rr = some (.tup (r.keys.map kV)) ∧ r.ok ∧
  ∀ t H', H' t = some (.tup [.str (resW (nx p m r)), .int (resP (nx p m r))]) → H' d = some (.dK (mdl (mdA m (nx p m r)))) → Kp (fun b => b = d) H H' → H t = none → Q (.ref t) H'
theorem mdA_place (p : Psh) (m m0 : Ms) (i : Nat) : mdA m0 (some (place p m i)) = { m with st := m0.st, pl := m0.pl } := by
  unfold place
  split <;> rfl
def haveUp (m : Ms) : Rp → Bool
  | .have_ n _ => decide (n = m.up)
  | _ => false
theorem haveUp_iff {m : Ms} {r : Rp} (h : haveUp m r = true) : ∃ k, r = .have_ m.up k := by
  cases r with
  | have_ n k => exact ⟨k, by rw [of_decide_eq_true h]⟩
  | _ => exact nomatch h
theorem word_have {r : Rp} (h : r.word = "have") : ∃ n k, r = .have_ n k := by
  have hi : r.ix = 3 := Decidable.byContradiction fun z => Rp.word_ne (r := r) (r' := .have_ 0 0) z h
  cases r with
  | have_ n k => exact ⟨n, k, rfl⟩
  | _ => simp [Rp.ix] at hi
theorem and_w {c1 : Prop} [Decidable c1] {b : Bool} {U A B : Prop} (hU : c1 → (if b = true then A else B) → U) (hA : c1 → b = true → A) (hB : ¬ (c1 ∧ b = true) → B) : if decide c1 = true then U else (if false = true then A else B) := by
  by_cases h1 : c1
  · rw [if_pos (decide_eq_true h1)]
    refine hU h1 ?_
    cases b with
    | true => rw [if_pos rfl]; exact hA h1 rfl
    | false => rw [if_neg Bool.false_ne_true]; exact hB fun z => nomatch z.2
  · rw [if_neg (by rw [decide_eq_false h1]; exact Bool.false_ne_true), if_neg Bool.false_ne_true]; exact hB fun z => h1 z.1
theorem PuAt.dk {C : Addr} {p : Psh} {F : Fl} {H : Hp} {d : Addr} {kvs kvs' : List (Key × V)} (h : PuAt C p F H) (hd : H d = some (.dK kvs)) : PuAt C p F (L2.upd H d (.dK kvs')) :=
  ⟨by rw [upd_ne (ne_of h.ob hd (by intro z; cases z))]; exact h.ob, by rw [upd_ne (ne_of h.hL hd (by intro z; cases z))]; exact h.hL, by rw [upd_ne (ne_of h.hA hd (by intro z; cases z))]; exact h.hA⟩
theorem kp_dk {H : Hp} {d : Addr} {kvs kvs' : List (Key × V)} (hd : H d = some (.dK kvs)) : Kp (fun b => b = d) H (L2.upd H d (.dK kvs')) := (Kp.refl _ H).put rfl (by rw [hd]; exact fun z => nomatch z)
theorem la_ok (p : Psh) (i : Nat) : PyData.strOk (p.la i) = true := adOf_ok _ _
theorem lay_sz {p : Psh} (ok : POk p) {i : Nat} (h : i < p.ls.length) : (p.lay i).length ≤ sizeLine := by
  have e : p.ls[i]? = some (p.lay i) := by
    unfold Psh.lay
    rw [List.getD_eq_getElem?_getD, List.getElem?_eq_getElem h]; rfl
  exact Nat.le_trans (ok.txt _ (List.mem_of_getElem? e)).1 (by decide)
theorem len0 {t : Str} : t.length = 0 ↔ t = "" := by
  constructor
  · intro h
    cases t with
    | mk xs =>
      have : xs = #[] := Array.eq_empty_of_size_eq_zero h
      rw [this]; rfl
  · rintro rfl; rfl
abbrev s_law_layer_step : Stmt := topS 26
abbrev N_law_layer_step : List Str := ["pusher", "model", "reply", "step", "address"]
abbrev P_law_layer_step : List Str := ["pusher", "model", "reply"]
theorem sc_law_layer_step : FnScope N_law_layer_step P_law_layer_step (defScope s_law_layer_step) := ⟨rfl, rfl, rfl, by decide +kernel, rfl, by decide +kernel, by decide +kernel⟩
def sp_law_layer_step (cP : Addr) : Sp := fun vs H Q _ => spStep cP (fun s => layS s = true) nextIn vs H Q (fun _ _ _ => True)
section
variable {P : Program} {w : World} {K : PySem.W.Frag} {mg : Str → Option Value} {base : Heap} {cP : Addr}
theorem ok_law_layer_step {f : Addr} {fd : FuncData} (F : Fun K "_law_layer_step" "_law_layer_step" s_law_layer_step f fd) (T : Tx K mg cP)
    (C__law_layer : Cal P w K mg base CX0 2 "_law_layer" P_law_layer (sp_law_layer cP))
    (C__law_place : Cal P w K mg base CX0 1 "_law_place" P_law_place (sp_law_place cP)) : FnOk P w K mg base CX0 3 f fd P_law_layer_step (sp_law_layer_step cP) := by
  refine F.ok sc_law_layer_step (fun vs H Q E h => ?_) (fun cdv A outer s H vs Q E hr h => ?_)
  · obtain ⟨_, _, _, _, _, _, rfl, _⟩ := h
    rfl
  · obtain ⟨p, Fl, m, d, rr, r, rfl, hp, ok, wf, hs⟩ := h
    have nd := sc_law_layer_step.nd
    have hu := hu_of hr
    refine ⟨_, pss_cons (ps_set (i := 3) nd rfl (Or.inl rfl) (pe_dget hu (pv 1) pe_str (fun _ _ => rfl)))
  (pss_cons (ps_set (i := 4) nd rfl (Or.inl rfl) (pe_cal C__law_layer hr (pa_cons (pv 0) (pa_cons (pv 1) pa_nil))))
  (pss_cons (ps_if (PW.pt (pw_and (pt_cmpR op_eq (pv 3) pe_str (nomark _)) (pw_and1 (pt_cmpR op_eq (pe_ix ix_tup (pv 2) pe_int (fun _ _ => rfl)) pe_str (nomark _)))))
    (pss_cons (ps_dput hu (pv 1) pe_str (pe_ix ix_tup (pv 2) pe_int (fun _ _ => rfl)) rfl)
  (pss_cons (ps_dput hu (pv 1) pe_str pe_int rfl)
  (pss_one (ps_ret (pe_ix ix_list (pe_lst (pa_cons (pe_tup (pa_cons pe_str (pa_cons (pe_dget hu (pv 1) pe_str (fun _ _ => rfl)) pa_nil))) (pa_cons (pe_tup (pa_cons pe_str (pa_cons (pe_dget hu (pv 1) pe_str (fun _ _ => rfl)) pa_nil))) pa_nil))) (pe_callTy call_int1 (by rfl) T.int (by decide +kernel) (pa_cons (pe_cmpR op_eq (pe_ix ix_list (pe_fld (pv 0) rfl) (pe_dget hu (pv 1) pe_str (fun _ _ => rfl)) (fun _ _ => rfl)) pe_str (nomark _)) pa_nil)) (fun _ _ => rfl))))))
    (pss_nil))
  (pss_cons (ps_if (PW.pt (pw_and (pt_cmpR op_eq (pv 3) pe_str (nomark _)) (pw_and (pt_cmpR op_eq (pe_ix ix_tup (pv 2) pe_int (fun _ _ => rfl)) pe_str (nomark _)) (pw_and1 (pt_cmpR op_eq (pe_ix ix_tup (pv 2) pe_int (fun _ _ => rfl)) (pe_dget hu (pv 1) pe_str (fun _ _ => rfl)) (nomark _))))))
    (pss_cons (ps_dput hu (pv 1) pe_str (pe_ix ix_tup (pv 2) pe_int (fun _ _ => rfl)) rfl)
  (pss_one (ps_ret (pe_ix ix_list (pe_lst (pa_cons (pe_tup (pa_cons pe_str (pa_cons (pe_dget hu (pv 1) pe_str (fun _ _ => rfl)) pa_nil))) (pa_cons (pe_tup (pa_cons pe_str (pa_cons (pe_dget hu (pv 1) pe_str (fun _ _ => rfl)) pa_nil))) pa_nil))) (pe_callTy call_int1 (by rfl) T.int (by decide +kernel) (pa_cons (pe_cmpR op_ge (pe_ix ix_tup (pv 2) pe_int (fun _ _ => rfl)) (pe_callB call_len_str (by rfl) T.len (by decide +kernel) (pa_cons (pe_ix ix_list (pe_fld (pv 0) rfl) (pe_dget hu (pv 1) pe_str (fun _ _ => rfl)) (fun _ _ => rfl)) pa_nil)) (nomark _)) pa_nil)) (fun _ _ => rfl)))))
    (pss_nil))
  (pss_cons (ps_if (PW.pt (pw_and (pt_cmpR op_in_seq (pv 3) (pe_lst (pa_cons pe_str (pa_cons pe_str pa_nil))) (by rfl)) (pw_and1 (pt_cmpR (op_eqD hr.units) (pv 2) (pe_tup (pa_cons pe_str (pa_cons (pe_dget hu (pv 1) pe_str (fun _ _ => rfl)) pa_nil))) (nomark _)))))
    (pss_one (ps_ret (pe_tup (pa_cons pe_str (pa_cons (pe_dget hu (pv 1) pe_str (fun _ _ => rfl)) pa_nil)))))
    (pss_nil))
  (pss_cons (ps_if (PW.pt (pw_and (pt_cmpR op_in_seq (pv 3) (pe_lst (pa_cons pe_str (pa_cons pe_str pa_nil))) (by rfl)) (pw_and1 (pt_cmpR (op_eqD hr.units) (pv 2) (pe_tup (pa_cons pe_str (pa_cons (pv 4) pa_nil))) (nomark _)))))
    (pss_one (ps_ret (pe_cal C__law_place hr (pa_cons (pv 0) (pa_cons (pe_op op_add (pe_dget hu (pv 1) pe_str (fun _ _ => rfl)) pe_int) pa_nil)))))
    (pss_nil))
  (pss_cons (ps_if (PW.pt (pw_or (PW.pt (pw_and (pt_cmpR op_eq (pv 3) pe_str (nomark _)) (pw_and1 (pt_cmpR (op_eqD hr.units) (pv 2) (pe_tup (pa_cons pe_str (pa_cons (pv 4) pa_nil))) (nomark _))))) (pw_or1 (PW.pt (pw_and (pt_cmpR op_eq (pv 3) pe_str (nomark _)) (pw_and1 (pt_cmpR (op_eqD hr.units) (pv 2) (pe_tup (pa_cons pe_str (pa_cons (pv 4) pa_nil))) (nomark _))))))))
    (pss_one (ps_ret (pe_tup (pa_cons pe_str (pa_cons (pe_dget hu (pv 1) pe_str (fun _ _ => rfl)) pa_nil)))))
    (pss_nil))
  (pss_one (ps_ret (pe_tup (pa_cons pe_str (pa_cons pe_int pa_nil))))))))))), ?_⟩

    obtain ⟨hSt, hd, hrr, rok, q⟩ := hs
    have hpl := wf.pl hSt
    have la := la_ok p m.pl
    refine ⟨_, rfl, d, _, rfl, dg_step hd, _, rfl, _, rfl, p, Fl, m, d, rfl, hp, hd, hpl, ?_⟩
    cases hst : m.st with
    | has =>
      refine ⟨_, rfl, rfl, _, rfl, ifF_s (by decide +kernel) (iteF ?_)⟩
      refine ⟨_, rfl, rfl, _, rfl, ifF_s (by decide +kernel) (iteF ?_)⟩
      refine ⟨_, rfl, szl, fun l0 k0 => ⟨l0, _, rfl, .inl (SqL.of upd_same), rfl, rfl, _, rfl, ?_⟩⟩
      have z0 : Same H _ := Same.trans (fun _ _ e => e : Same H H) (same_upd k0 (o := .lst [.str "part", .str "finish"]))
      rw [if_neg Bool.false_ne_true, show inV (V.str (stN Stp.has)) [.str "part", .str "finish"] = false from by decide +kernel]
      refine iteF (iteF ?_)
      refine ⟨_, rfl, szl, fun l1 k1 => ⟨l1, _, rfl, .inl (SqL.of upd_same), rfl, rfl, _, rfl, ?_⟩⟩
      have z1 : Same H _ := Same.trans z0 (same_upd k1 (o := .lst [.str "has", .str "finish"]))
      rw [if_neg Bool.false_ne_true, show inV (V.str (stN Stp.has)) [.str "has", .str "finish"] = true from by decide +kernel]
      refine iteT ⟨_, rfl, _, rfl, szl, fun l2 k2 => ⟨_, _, dp_tup (same_upd k2 _ _ (z1 _ _ hrr)), dp_tup (ks := (Rp.kept (p.la m.pl)).keys) upd_same, shaped_keys rok, shaped_keys (Rp.ok_of (ok_s la)), _, rfl, ?_⟩⟩
      have z2 : Same H _ := Same.trans z1 (same_upd k2 (o := .tup ((Rp.kept (p.la m.pl)).keys.map kV)))
      rw [eqv_rp]
      by_cases e1 : r = .kept (p.la m.pl)
      · rw [decide_eq_true e1]
        refine iteT ?_
        have eN : nextIn p m r = some (place p m (m.pl + 1)) := by unfold nextIn; rw [hst]; exact if_pos e1
        rw [eN, mdA_place] at q
        exact ⟨_, rfl, _, rfl, d, _, rfl, dg_place (z2 _ _ hd), _, _, rfl, rfl, p, Fl, m, m.pl + 1, rfl, hp.same z2, fun t H' s' nt ht => q t H' ht (s' _ _ (z2 _ _ hd)) (Kp.same (Same.trans z2 s')) (Same.free z2 nt)⟩
      rw [decide_eq_false e1]
      refine iteF ⟨_, rfl, rfl, _, rfl, ifT_s ⟨_, rfl, _, rfl, szl, fun l3 k3 => ⟨_, _, dp_tup (same_upd k3 _ _ (z2 _ _ hrr)), dp_tup (ks := (Rp.lacks (p.la m.pl)).keys) upd_same, shaped_keys rok, shaped_keys (Rp.ok_of (ok_s la)), _, rfl, ?_⟩⟩⟩
      have z3 : Same H _ := Same.trans z2 (same_upd k3 (o := .tup ((Rp.lacks (p.la m.pl)).keys.map kV)))
      rw [eqv_rp]
      by_cases e2 : r = .lacks (p.la m.pl)
      · rw [decide_eq_true e2]
        refine iteT (iteT ?_)
        have eN : nextIn p m r = some { m with st := .start } := by unfold nextIn; rw [hst]; exact (if_neg e1).trans (if_pos e2)
        rw [eN] at q
        refine ⟨_, rfl, d, _, rfl, dg_place (z3 _ _ hd), szl, fun l4 k4 => ?_⟩
        have z4 : Same H _ := Same.trans z3 (same_upd k4 (o := .tup [.str "start", .int (m.pl : Int)]))
        exact q _ _ upd_same (z4 _ _ hd) (Kp.same z4) (Same.free z3 k4)
      rw [decide_eq_false e2]
      refine iteF ⟨_, rfl, rfl, _, rfl, ifF_s (by decide +kernel) (iteF ?_)⟩
      have eN : nextIn p m r = none := by unfold nextIn; rw [hst]; exact (if_neg e1).trans (if_neg e2)
      rw [eN] at q
      refine ⟨szl, fun l4 k4 => ?_⟩
      have z4 : Same H _ := Same.trans z3 (same_upd k4 (o := .tup [.str "", .int 0]))
      exact q _ _ upd_same (z4 _ _ hd) (Kp.same z4) ((z3).free k4)
    | start =>
      refine ⟨_, rfl, rfl, _, rfl, ifT_s ⟨_, rfl, rr, _, 0, _, rfl, rfl, SqT.of hrr, r.w0, rfl, _, rfl, ?_⟩⟩
      cases r with
      | upload n =>
        have ed : ∀ b : Prop, b = b := fun _ => rfl
        refine ifT_s ⟨_, rfl, rr, _, 1, .int n, rfl, rfl, SqT.of hrr, atI_nat (j := 1) rfl, _, rfl, d, _, rfl, DPut.k (k := .inr "upload") hd (mdl5 m), ?_⟩
        rw [p_upload]
        refine ⟨_, rfl, d, _, rfl, DPut.k (k := .inr "at") upd_same (mdl5 _), ?_⟩
        rw [show putK (mdl { m with up := n }) (.inr "at") (.int 0) = mdl { m with up := n, at_ := 0 } from p_at _ 0]
        have hd1 : (L2.upd H d (.dK (mdl { m with up := n }))) d = some (.dK (mdl { m with up := n })) := upd_same
        have hp2 : PuAt cP p Fl (L2.upd (L2.upd H d (.dK (mdl { m with up := n }))) d (.dK (mdl { m with up := n, at_ := 0 }))) := (hp.dk hd).dk hd1
        have kp2 := (kp_dk (kvs' := mdl { m with up := n }) hd).trans (kp_dk (kvs' := mdl { m with up := n, at_ := 0 }) hd1)
        have hd2 : (L2.upd (L2.upd H d (.dK (mdl { m with up := n }))) d (.dK (mdl { m with up := n, at_ := 0 }))) d = some (.dK (mdl { m with up := n, at_ := 0 })) := upd_same
        generalize L2.upd (L2.upd H d (.dK (mdl { m with up := n }))) d (.dK (mdl { m with up := n, at_ := 0 })) = H2 at hp2 kp2 hd2
        refine ⟨_, rfl, d, _, rfl, dg_place hd2, szl, fun t1 n1 => ⟨_, rfl, d, _, rfl, dg_place (same_upd n1 _ _ hd2), szl, fun t2 n2 => ⟨szl, fun l3 n3 => ?_⟩⟩⟩
        have c1 := same_upd n1 (o := .tup [.str "part", .int (m.pl : Int)])
        have c2 := same_upd n2 (o := .tup [.str "finish", .int (m.pl : Int)])
        have c3 := same_upd n3 (o := .lst [.ref t1, .ref t2])
        have c13 := (c1.trans c2).trans c3
        have g1 := (c2.trans c3) t1 (.tup [.str "part", .int (m.pl : Int)]) upd_same
        have g2 := c3 t2 (.tup [.str "finish", .int (m.pl : Int)]) upd_same
        have hp3 := hp2.same c13
        have eN : nextIn p m (.upload n) = some (askP p { m with up := n } 0) := by unfold nextIn; rw [hst]
        rw [eN] at q
        refine ⟨_, rfl, p.o, cP, p.dx, _, _, rfl, hp3.ob, T.clP, T.nlayers, rfl, _, rfl, d, _, rfl, dg_place (c13 _ _ hd2), p.L, _, _, .str (p.lay m.pl), rfl, rfl, SqL.of hp3.hL, atI_nat (lay_at hpl).1, rfl, .inr ⟨_, rfl, ?_⟩⟩
        have el : (askP p { m with up := n } 0).st = if (0 : Nat) < (p.lay m.pl).length then .part else .finish := rfl
        by_cases e : p.lay m.pl = ""
        · rw [decide_eq_true (show V.str (p.lay m.pl) = V.str "" by rw [e])]
          have e0 : ¬ (0 : Nat) < (p.lay m.pl).length := by rw [len0.mpr e]; omega
          rw [if_neg e0] at el
          refine ⟨l3, _, 1, .ref t2, rfl, rfl, SqL.of upd_same, atI_nat (j := 1) rfl, q t2 _ ?_ (c13 _ _ hd2) (kp2.trans (Kp.same c13)) (kp2.free _ (c1.free n2))⟩
          show _ = some (HO.tup [.str (stN (askP p { m with up := n } 0).st), .int (m.pl : Int)])
          rw [el]; exact g2
        · rw [decide_eq_false (show ¬ V.str (p.lay m.pl) = V.str "" from fun z => e (by injection z))]
          have e0 : (0 : Nat) < (p.lay m.pl).length := Nat.pos_of_ne_zero fun z => e (len0.mp z)
          rw [if_pos e0] at el
          refine ⟨l3, _, 0, .ref t1, rfl, rfl, SqL.of upd_same, atI_nat (j := 0) rfl, q t1 _ ?_ (c13 _ _ hd2) (kp2.trans (Kp.same c13)) (kp2.free _ n1)⟩
          show _ = some (HO.tup [.str (stN (askP p { m with up := n } 0).st), .int (m.pl : Int)])
          rw [el]; exact g1
      | _ =>
        refine ifF_s (Rp.word_ne (r' := .upload 0) (by simp [Rp.ix])) ?_
        refine ⟨_, rfl, rfl, _, rfl, ifF_s (by decide +kernel) (iteF ?_)⟩
        refine ⟨_, rfl, szl, fun l0 k0 => ⟨l0, _, rfl, .inl (SqL.of upd_same), rfl, rfl, _, rfl, ?_⟩⟩
        have z0 : Same H _ := Same.trans (fun _ _ e => e : Same H H) (same_upd k0 (o := .lst [.str "part", .str "finish"]))
        rw [if_neg Bool.false_ne_true, show inV (V.str (stN Stp.start)) [.str "part", .str "finish"] = false from by decide +kernel]
        refine iteF (iteF ?_)
        refine ⟨_, rfl, szl, fun l1 k1 => ⟨l1, _, rfl, .inl (SqL.of upd_same), rfl, rfl, _, rfl, ?_⟩⟩
        have z1 : Same H _ := Same.trans z0 (same_upd k1 (o := .lst [.str "has", .str "finish"]))
        rw [if_neg Bool.false_ne_true, show inV (V.str (stN Stp.start)) [.str "has", .str "finish"] = false from by decide +kernel]
        refine iteF (iteF ?_)
        refine ⟨_, rfl, rfl, _, rfl, ifF_s (by decide +kernel) (iteF ⟨_, rfl, rfl, _, rfl, ifF_s (by decide +kernel) (iteF ?_)⟩)⟩
        unfold nextIn at q
        rw [hst] at q
        refine ⟨szl, fun l2 k2 => ?_⟩
        have z2 : Same H _ := Same.trans z1 (same_upd k2 (o := .tup [.str "", .int 0]))
        exact q _ _ upd_same (z2 _ _ hd) (Kp.same z2) (Same.free z1 k2)
    | part =>
      refine ⟨_, rfl, rfl, _, rfl, ifF_s (by decide +kernel) (iteF ?_)⟩
      refine ⟨_, rfl, rfl, _, rfl, ifT_s ⟨_, rfl, rr, _, 0, _, rfl, rfl, SqT.of hrr, r.w0, rfl, _, rfl, ?_⟩⟩
      rw [dec_str]
      refine and_w (b := haveUp m r) (fun c h => ?_) (fun c e => ?_) (fun nh => ?_)
      · obtain ⟨n, k, rfl⟩ := word_have c
        refine ⟨_, rfl, rr, _, 1, .int n, rfl, rfl, SqT.of hrr, atI_nat (j := 1) rfl, _, rfl, d, _, rfl, dg_upload hd, rfl, _, rfl, ?_⟩
        rw [show decide (V.int n = V.int m.up) = haveUp m (.have_ n k) from decide_eq_decide.mpr ⟨fun z => by injection z, fun z => by rw [z]⟩]
        exact h
      · obtain ⟨k, rfl⟩ := haveUp_iff e
        refine ⟨_, rfl, rr, _, 2, .int (k : Int), rfl, rfl, SqT.of hrr, atI_nat (j := 2) rfl, _, rfl, d, _, rfl, DPut.k (k := .inr "at") hd (mdl5 m), ?_⟩
        rw [p_at]
        have hp2 : PuAt cP p Fl (L2.upd H d (.dK (mdl { m with at_ := k }))) := hp.dk hd
        have kp2 := kp_dk (kvs' := mdl { m with at_ := k }) hd
        have hr2 : (L2.upd H d (.dK (mdl { m with at_ := k }))) rr = some (.tup ((Rp.have_ m.up k).keys.map kV)) := by rw [upd_ne (ne_of hrr hd (by intro z; cases z))]; exact hrr
        have hd2 : (L2.upd H d (.dK (mdl { m with at_ := k }))) d = some (.dK (mdl { m with at_ := k })) := upd_same
        generalize L2.upd H d (.dK (mdl { m with at_ := k })) = H2 at hp2 kp2 hd2 hr2
        refine ⟨_, rfl, d, _, rfl, dg_place hd2, szl, fun t1 n1 => ⟨_, rfl, d, _, rfl, dg_place (same_upd n1 _ _ hd2), szl, fun t2 n2 => ⟨szl, fun l3 n3 => ?_⟩⟩⟩
        have c1 := same_upd n1 (o := .tup [.str "part", .int (m.pl : Int)])
        have c2 := same_upd n2 (o := .tup [.str "finish", .int (m.pl : Int)])
        have c3 := same_upd n3 (o := .lst [.ref t1, .ref t2])
        have c13 := (c1.trans c2).trans c3
        have g1 := (c2.trans c3) t1 (.tup [.str "part", .int (m.pl : Int)]) upd_same
        have g2 := c3 t2 (.tup [.str "finish", .int (m.pl : Int)]) upd_same
        have hp3 := hp2.same c13
        have eN : nextIn p m (.have_ m.up k) = some (askP p m k) := by unfold nextIn; rw [hst]; exact if_pos rfl
        rw [eN] at q
        refine ⟨_, rfl, rr, _, 2, .int (k : Int), rfl, rfl, SqT.of (c13 _ _ hr2), atI_nat (j := 2) rfl, _, rfl, p.o, cP, p.dx, _, _, rfl, hp3.ob, T.clP, T.nlayers, rfl, _, rfl, d, _, rfl, dg_place (c13 _ _ hd2), p.L, _, _, .str (p.lay m.pl), rfl, rfl, SqL.of hp3.hL, atI_nat (lay_at hpl).1, _, rfl, lay_sz ok hpl, _, _, rfl, rfl, .inr ⟨_, rfl, ?_⟩⟩
        have el : (askP p m k).st = if k < (p.lay m.pl).length then .part else .finish := rfl
        by_cases e : k < (p.lay m.pl).length
        · rw [show decide ((k : Int) ≥ ((p.lay m.pl).length : Int)) = false from decide_eq_false (by omega)]
          rw [if_pos e] at el
          refine ⟨l3, _, 0, .ref t1, rfl, rfl, SqL.of upd_same, atI_nat (j := 0) rfl, q t1 _ ?_ (c13 _ _ hd2) (kp2.trans (Kp.same c13)) (kp2.free _ n1)⟩
          show _ = some (HO.tup [.str (stN (askP p m k).st), .int (m.pl : Int)])
          rw [el]; exact g1
        · rw [show decide ((k : Int) ≥ ((p.lay m.pl).length : Int)) = true from decide_eq_true (by omega)]
          rw [if_neg e] at el
          refine ⟨l3, _, 1, .ref t2, rfl, rfl, SqL.of upd_same, atI_nat (j := 1) rfl, q t2 _ ?_ (c13 _ _ hd2) (kp2.trans (Kp.same c13)) (kp2.free _ (c1.free n2))⟩
          show _ = some (HO.tup [.str (stN (askP p m k).st), .int (m.pl : Int)])
          rw [el]; exact g2
      · skip
        refine ⟨_, rfl, szl, fun l0 k0 => ⟨l0, _, rfl, .inl (SqL.of upd_same), rfl, rfl, _, rfl, ?_⟩⟩
        have z0 : Same H _ := Same.trans (fun _ _ e => e : Same H H) (same_upd k0 (o := .lst [.str "part", .str "finish"]))
        rw [if_neg Bool.false_ne_true, show inV (V.str (stN Stp.part)) [.str "part", .str "finish"] = true from by decide +kernel]
        refine iteT ⟨_, rfl, _, rfl, d, _, rfl, dg_upload (z0 _ _ hd), szl, fun l1 k1 => ⟨_, _, dp_tup (same_upd k1 _ _ (z0 _ _ hrr)), dp_tup (ks := (Rp.gone m.up).keys) upd_same, shaped_keys rok, shaped_keys (Rp.ok_of (ok_i)), _, rfl, ?_⟩⟩
        have z1 : Same H _ := Same.trans z0 (same_upd k1 (o := .tup ((Rp.gone m.up).keys.map kV)))
        rw [eqv_rp]
        by_cases e3 : r = .gone m.up
        · rw [decide_eq_true e3]
          refine iteT ?_
          have eN : nextIn p m r = some { m with st := .has } := by unfold nextIn; rw [hst]; rw [e3]; exact if_pos rfl
          rw [eN] at q
          refine ⟨_, rfl, d, _, rfl, dg_place (z1 _ _ hd), szl, fun l2 k2 => ?_⟩
          have z2 : Same H _ := Same.trans z1 (same_upd k2 (o := .tup [.str "has", .int (m.pl : Int)]))
          exact q _ _ upd_same (z2 _ _ hd) (Kp.same z2) (Same.free z1 k2)
        rw [decide_eq_false e3]
        refine iteF ?_
        refine ⟨_, rfl, szl, fun l2 k2 => ⟨l2, _, rfl, .inl (SqL.of upd_same), rfl, rfl, _, rfl, ?_⟩⟩
        have z2 : Same H _ := Same.trans z1 (same_upd k2 (o := .lst [.str "has", .str "finish"]))
        rw [if_neg Bool.false_ne_true, show inV (V.str (stN Stp.part)) [.str "has", .str "finish"] = false from by decide +kernel]
        refine iteF (iteF ?_)
        refine ⟨_, rfl, rfl, _, rfl, ifF_s (by decide +kernel) (iteF ⟨_, rfl, rfl, _, rfl, ifF_s (by decide +kernel) (iteF ?_)⟩)⟩
        have eN : nextIn p m r = none := by
          unfold nextIn
          rw [hst]
          cases r with
          | have_ n k => exact if_neg (fun z => nh ⟨rfl, decide_eq_true z⟩)
          | gone n => exact if_neg (fun z => e3 (by rw [z]))
          | _ => rfl
        rw [eN] at q
        refine ⟨szl, fun l3 k3 => ?_⟩
        have z3 : Same H _ := Same.trans z2 (same_upd k3 (o := .tup [.str "", .int 0]))
        exact q _ _ upd_same (z3 _ _ hd) (Kp.same z3) (Same.free z2 k3)
    | finish =>
      refine ⟨_, rfl, rfl, _, rfl, ifF_s (by decide +kernel) (iteF ?_)⟩
      refine ⟨_, rfl, rfl, _, rfl, ifF_s (by decide +kernel) (iteF ?_)⟩
      refine ⟨_, rfl, szl, fun l0 k0 => ⟨l0, _, rfl, .inl (SqL.of upd_same), rfl, rfl, _, rfl, ?_⟩⟩
      have z0 : Same H _ := Same.trans (fun _ _ e => e : Same H H) (same_upd k0 (o := .lst [.str "part", .str "finish"]))
      rw [if_neg Bool.false_ne_true, show inV (V.str (stN Stp.finish)) [.str "part", .str "finish"] = true from by decide +kernel]
      refine iteT ⟨_, rfl, _, rfl, d, _, rfl, dg_upload (z0 _ _ hd), szl, fun l1 k1 => ⟨_, _, dp_tup (same_upd k1 _ _ (z0 _ _ hrr)), dp_tup (ks := (Rp.gone m.up).keys) upd_same, shaped_keys rok, shaped_keys (Rp.ok_of (ok_i)), _, rfl, ?_⟩⟩
      have z1 : Same H _ := Same.trans z0 (same_upd k1 (o := .tup ((Rp.gone m.up).keys.map kV)))
      rw [eqv_rp]
      by_cases e3 : r = .gone m.up
      · rw [decide_eq_true e3]
        refine iteT ?_
        have eN : nextIn p m r = some { m with st := .has } := by unfold nextIn; rw [hst]; rw [e3]; exact (if_neg (fun z => nomatch z)).trans ((if_neg (fun z => nomatch z)).trans (if_pos rfl))
        rw [eN] at q
        refine ⟨_, rfl, d, _, rfl, dg_place (z1 _ _ hd), szl, fun l2 k2 => ?_⟩
        have z2 : Same H _ := Same.trans z1 (same_upd k2 (o := .tup [.str "has", .int (m.pl : Int)]))
        exact q _ _ upd_same (z2 _ _ hd) (Kp.same z2) (Same.free z1 k2)
      rw [decide_eq_false e3]
      refine iteF ?_
      refine ⟨_, rfl, szl, fun l2 k2 => ⟨l2, _, rfl, .inl (SqL.of upd_same), rfl, rfl, _, rfl, ?_⟩⟩
      have z2 : Same H _ := Same.trans z1 (same_upd k2 (o := .lst [.str "has", .str "finish"]))
      rw [if_neg Bool.false_ne_true, show inV (V.str (stN Stp.finish)) [.str "has", .str "finish"] = true from by decide +kernel]
      refine iteT ⟨_, rfl, _, rfl, szl, fun l3 k3 => ⟨_, _, dp_tup (same_upd k3 _ _ (z2 _ _ hrr)), dp_tup (ks := (Rp.kept (p.la m.pl)).keys) upd_same, shaped_keys rok, shaped_keys (Rp.ok_of (ok_s la)), _, rfl, ?_⟩⟩
      have z3 : Same H _ := Same.trans z2 (same_upd k3 (o := .tup ((Rp.kept (p.la m.pl)).keys.map kV)))
      rw [eqv_rp]
      by_cases e1 : r = .kept (p.la m.pl)
      · rw [decide_eq_true e1]
        refine iteT ?_
        have eN : nextIn p m r = some (place p m (m.pl + 1)) := by unfold nextIn; rw [hst]; exact if_pos e1
        rw [eN, mdA_place] at q
        exact ⟨_, rfl, _, rfl, d, _, rfl, dg_place (z3 _ _ hd), _, _, rfl, rfl, p, Fl, m, m.pl + 1, rfl, hp.same z3, fun t H' s' nt ht => q t H' ht (s' _ _ (z3 _ _ hd)) (Kp.same (Same.trans z3 s')) (Same.free z3 nt)⟩
      rw [decide_eq_false e1]
      refine iteF ⟨_, rfl, rfl, _, rfl, ifF_s (by decide +kernel) (iteF ⟨_, rfl, rfl, _, rfl, ifT_s ⟨_, rfl, _, rfl, szl, fun l4 k4 => ⟨_, _, dp_tup (same_upd k4 _ _ (z3 _ _ hrr)), dp_tup (ks := (Rp.wrong (p.la m.pl)).keys) upd_same, shaped_keys rok, shaped_keys (Rp.ok_of (ok_s la)), _, rfl, ?_⟩⟩⟩)⟩
      have z4 : Same H _ := Same.trans z3 (same_upd k4 (o := .tup ((Rp.wrong (p.la m.pl)).keys.map kV)))
      rw [eqv_rp]
      by_cases e2 : r = .wrong (p.la m.pl)
      · rw [decide_eq_true e2]
        refine iteT ?_
        have eN : nextIn p m r = some { m with st := .start } := by unfold nextIn; rw [hst]; exact (if_neg e1).trans (if_pos e2)
        rw [eN] at q
        refine ⟨_, rfl, d, _, rfl, dg_place (z4 _ _ hd), szl, fun l5 k5 => ?_⟩
        have z5 : Same H _ := Same.trans z4 (same_upd k5 (o := .tup [.str "start", .int (m.pl : Int)]))
        exact q _ _ upd_same (z5 _ _ hd) (Kp.same z5) (Same.free z4 k5)
      rw [decide_eq_false e2]
      refine iteF ?_
      have eN : nextIn p m r = none := by unfold nextIn; rw [hst]; exact (if_neg e1).trans ((if_neg e2).trans (if_neg e3))
      rw [eN] at q
      refine ⟨szl, fun l5 k5 => ?_⟩
      have z5 : Same H _ := Same.trans z4 (same_upd k5 (o := .tup [.str "", .int 0]))
      exact q _ _ upd_same (z5 _ _ hd) (Kp.same z5) ((z4).free k5)
    | _ => rw [hst] at hSt; exact nomatch hSt
end
end LW
namespace LW
open PySem PySem.Spec PyProof.Rows L2 GxR
theorem sel_no {w : Str} (h : ("layer" : Str) ≠ w) (ls : List Str) : (ls.map (fun t => (("layer" : Str), t))).filter (fun e => decide (e.1 = w)) = [] := by
  rw [List.filter_eq_nil_iff]
  intro e he
  obtain ⟨t, _, rfl⟩ := List.mem_map.mp he
  exact fun z => h (of_decide_eq_true z)
theorem sel_txt {p : Psh} {b : Bool} (h : b = true → p.pf.isSome = true) : ((blobs p).filter (fun e => decide (e.1 = word b))).map (·.2) = [p.txt b] := by
  unfold blobs tail2
  rw [List.filter_append, List.filter_append, sel_no (by cases b <;> decide +kernel), List.nil_append]
  cases b with
  | false =>
    rw [show ([(("image" : Str), p.img)].filter (fun e => decide (e.1 = word false))) = [(("image" : Str), p.img)] from by
      rw [List.filter_cons]; exact if_pos (decide_eq_true rfl)]
    cases hq : p.pf with
    | none => rfl
    | some q =>
      rw [show ([(("bundle" : Str), p.bun q)].filter (fun e => decide (e.1 = word false))) = [] from by
        rw [List.filter_cons, if_neg (fun z => absurd (of_decide_eq_true z) (by decide +kernel : ¬ ("bundle" : Str) = word false))]; rfl]
      rfl
  | true =>
    rw [show ([(("image" : Str), p.img)].filter (fun e => decide (e.1 = word true))) = [] from by
      rw [List.filter_cons, if_neg (fun z => absurd (of_decide_eq_true z) (by decide +kernel : ¬ ("image" : Str) = word true))]; rfl]
    cases hq : p.pf with
    | none => rw [hq] at h; exact absurd (h rfl) (by decide)
    | some q =>
      rw [show ([(("bundle" : Str), p.bun q)].filter (fun e => decide (e.1 = word true))) = [(("bundle" : Str), p.bun q)] from by
        rw [List.filter_cons]; exact if_pos (decide_eq_true rfl)]
      show [p.bun q] = [p.bun (p.pf.getD "")]
      rw [hq]; rfl
def sel (p : Psh) (w : Str) (i : Nat) : List Str := (((blobs p).take i).filter (fun e => decide (e.1 = w))).map (·.2)
theorem sel_le (p : Psh) (w : Str) (i : Nat) : (sel p w i).length ≤ i := by
  unfold sel
  rw [List.length_map]
  exact Nat.le_trans (List.length_filter_le _ _) (by rw [List.length_take]; omega)
theorem sel_yes {p : Psh} {w : Str} {i : Nat} {e : Str × Str} (h : (blobs p)[i]? = some e) (hw : e.1 = w) : sel p w (i + 1) = sel p w i ++ [e.2] := by
  unfold sel
  rw [List.take_add_one, h, List.filter_append, List.map_append]
  show _ ++ (([e].filter _).map _) = _
  rw [List.filter_cons, if_pos (decide_eq_true hw)]; rfl
theorem sel_skip {p : Psh} {w : Str} {i : Nat} {e : Str × Str} (h : (blobs p)[i]? = some e) (hw : e.1 ≠ w) : sel p w (i + 1) = sel p w i := by
  unfold sel
  rw [List.take_add_one, h, List.filter_append, List.map_append]
  show _ ++ (([e].filter _).map _) = _
  rw [List.filter_cons, if_neg (fun z => hw (of_decide_eq_true z))]
  exact List.append_nil _
abbrev s_law_end_step : Stmt := topS 27
abbrev N_law_end_step : List Str := ["pusher", "model", "reply", "step", "text", "blob"]
abbrev P_law_end_step : List Str := ["pusher", "model", "reply"]
theorem sc_law_end_step : FnScope N_law_end_step P_law_end_step (defScope s_law_end_step) := ⟨rfl, rfl, rfl, by decide +kernel, rfl, by decide +kernel, by decide +kernel⟩
def sp_law_end_step (cP : Addr) : Sp := fun vs H Q _ => spStep cP (fun s => s = .name ∨ ∃ b, s = .put b) nextIn vs H Q (fun _ _ _ => True)
section
variable {P : Program} {w : World} {K : PySem.W.Frag} {mg : Str → Option Value} {base : Heap} {cP : Addr}
theorem ok_law_end_step {f : Addr} {fd : FuncData} (F : Fun K "_law_end_step" "_law_end_step" s_law_end_step f fd) (T : Tx K mg cP)
    (C__law_blobs : Cal P w K mg base CX0 3 "_law_blobs" P_law_blobs (sp_law_blobs cP))
    (C__law_place : Cal P w K mg base CX0 1 "_law_place" P_law_place (sp_law_place cP))
    (C__law_target : Cal P w K mg base CX0 4 "_law_target" P_law_target (sp_law_target cP))
    (C_address_of : Cal P w K mg base CX0 1 "address_of" P_address_of spAddr) : FnOk P w K mg base CX0 5 f fd P_law_end_step (sp_law_end_step cP) := by
  refine F.ok sc_law_end_step (fun vs H Q E h => ?_) (fun cdv A outer s H vs Q E hr h => ?_)
  · obtain ⟨_, _, _, _, _, _, rfl, _⟩ := h
    rfl
  · obtain ⟨p, Fl, m, d, rr, r, rfl, hp, ok, wf, hs⟩ := h
    have nd := sc_law_end_step.nd
    have hu := hu_of hr
    refine ⟨_, pss_cons (ps_set (i := 3) nd rfl (Or.inr rfl) (pe_dget hu (pv 1) pe_str (fun _ _ => rfl)))
  (pss_cons (ps_if (pt_cmpR op_eq (pv 3) pe_str (nomark _))
    (pss_cons (ps_if (pt_cmpR (op_eqD hr.units) (pv 2) (pe_tup (pa_cons pe_str (pa_cons (pe_fld (pv 0) rfl) (pa_cons (pe_cal C__law_target hr (pa_cons (pv 0) pa_nil)) pa_nil)))) (nomark _))
    (pss_one (ps_ret (pe_tup (pa_cons pe_str (pa_cons pe_int pa_nil)))))
    (pss_nil))
  (pss_cons (ps_if (pt_cmpR (op_eqD hr.units) (pv 2) (pe_tup (pa_cons pe_str (pa_cons (pe_cal C__law_target hr (pa_cons (pv 0) pa_nil)) pa_nil))) (nomark _))
    (pss_one (ps_ret (pe_cal C__law_place hr (pa_cons (pv 0) (pa_cons pe_int pa_nil)))))
    (pss_nil))
  (pss_one (ps_ret (pe_tup (pa_cons pe_str (pa_cons pe_int pa_nil)))))))
    (pss_nil))
  (pss_cons (ps_set (i := 4) nd rfl (Or.inl rfl) (pe_ix ix_list (pe_lc (own := [("blob", 5)]) (g := gName 5)  rfl nd (pi_list (pe_cal C__law_blobs hr (pa_cons (pv 0) pa_nil))) (blkOk_by (N := N_law_end_step) (sc := defScope s_law_end_step) (by decide +kernel)) (fun _ _ _ _ _ => (pg_name (i := 5) nd rfl (Or.inl rfl))) (fun _ _ _ _ _ => (pts_one (pt_cmpR op_eq (pe_ix (show IxR _ (rIxT K) from ix_tup) (pv 5) pe_int (fun _ _ => rfl)) (pv 3) (nomark _)))) (fun _ _ _ _ _ => (pe_ix (show IxR _ (rIxT K) from ix_tup) (pv 5) pe_int (fun _ _ => rfl)))) pe_int (fun _ _ => rfl)))
  (pss_cons (ps_if (pt_cmpR op_eq (pe_ix ix_tup (pv 2) pe_int (fun _ _ => rfl)) pe_str (nomark _))
    (pss_one (ps_ret (pe_cal C__law_place hr (pa_cons (pv 0) (pa_cons pe_int pa_nil)))))
    (pss_nil))
  (pss_cons (ps_if (PW.pt (pw_or (pt_cmpR op_eq (pe_ix ix_tup (pv 2) pe_int (fun _ _ => rfl)) pe_str (nomark _)) (pw_or1 (PW.pt (pw_and (pt_cmpR op_eq (pe_ix ix_tup (pv 2) pe_int (fun _ _ => rfl)) pe_str (nomark _)) (pw_and1 (pt_cmpR op_ne (pe_ix ix_tup (pv 2) pe_int (fun _ _ => rfl)) (pe_cal C_address_of hr (pa_cons (pv 3) (pa_cons (pv 4) pa_nil))) (nomark _))))))))
    (pss_one (ps_ret (pe_tup (pa_cons (pv 3) (pa_cons pe_int pa_nil)))))
    (pss_nil))
  (pss_cons (ps_if (pt_cmpR op_ne (pe_ix ix_tup (pv 2) pe_int (fun _ _ => rfl)) pe_str (nomark _))
    (pss_one (ps_ret (pe_tup (pa_cons pe_str (pa_cons pe_int pa_nil)))))
    (pss_nil))
  (pss_cons (ps_if (PW.pt (pw_and (pt_cmpR op_eq (pv 3) pe_str (nomark _)) (pw_and1 (pt_cmpR op_notN (pe_fld (pv 0) rfl) pe_non (nomark _)))))
    (pss_one (ps_ret (pe_tup (pa_cons pe_str (pa_cons pe_int pa_nil)))))
    (pss_nil))
  (pss_one (ps_ret (pe_tup (pa_cons pe_str (pa_cons pe_int pa_nil))))))))))), ?_⟩

    obtain ⟨hSt, hd, hrr, rok, q⟩ := hs
    have tg : PyData.strOk p.tgt = true := by
      unfold Psh.tgt
      split <;> exact adOf_ok _ _
    refine ⟨_, rfl, d, _, rfl, dg_step hd, _, rfl, rfl, _, rfl, ?_⟩
    cases hst : m.st with
    | name =>
      refine ifT_s ⟨_, rfl, _, rfl, p.o, cP, p.dx, _, _, rfl, hp.ob, T.clP, T.nname, rfl, _, rfl, p, Fl, rfl, hp, ok, fun H1 s1 => ⟨szl, fun t1 n1 => ⟨_, _, dp_tup (same_upd n1 _ _ (s1 _ _ hrr)), dp_tup (ks := (Rp.named p.nm p.tgt).keys) upd_same, shaped_keys rok, shaped_keys (Rp.ok_of (ok_ss ok.nm tg)), _, rfl, ?_⟩⟩⟩
      rw [eqv_rp]
      have y1 : Same H _ := s1.trans (same_upd n1 (o := .tup ((Rp.named p.nm p.tgt).keys.map kV)))
      by_cases e : r = .named p.nm p.tgt
      · rw [decide_eq_true e]
        refine iteT ?_
        have eN : nextIn p m r = some { m with st := .close, pl := 0 } := by unfold nextIn; rw [hst]; exact if_pos e
        rw [eN] at q
        refine ⟨szl, fun l0 k0 => ?_⟩
        have z0 : Same H _ := Same.trans y1 (same_upd k0 (o := .tup [.str "close", .int 0]))
        exact q _ _ upd_same (z0 _ _ hd) (Kp.same z0) (Same.free y1 k0)
      rw [decide_eq_false e]
      refine iteF ⟨_, rfl, _, rfl, p, Fl, rfl, hp.same y1, ok, fun H3 s3 => ⟨szl, fun t2 n2 => ⟨_, _, dp_tup (same_upd n2 _ _ (s3 _ _ (y1 _ _ hrr))), dp_tup (ks := (Rp.lacks p.tgt).keys) upd_same, shaped_keys rok, shaped_keys (Rp.ok_of (ok_s tg)), _, rfl, ?_⟩⟩⟩
      rw [eqv_rp]
      have y2 : Same H _ := (y1.trans s3).trans (same_upd n2 (o := .tup ((Rp.lacks p.tgt).keys.map kV)))
      by_cases e2 : r = .lacks p.tgt
      · rw [decide_eq_true e2]
        refine iteT ?_
        have eN : nextIn p m r = some (place p m 0) := by unfold nextIn; rw [hst]; exact (if_neg e).trans (if_pos e2)
        rw [eN, mdA_place] at q
        exact ⟨_, rfl, p, Fl, m, 0, rfl, hp.same y2, fun t H' s' nt ht => q t H' ht (s' _ _ (y2 _ _ hd)) (Kp.same (Same.trans y2 s')) (Same.free y2 nt)⟩
      rw [decide_eq_false e2]
      refine iteF ?_
      have eN : nextIn p m r = none := by unfold nextIn; rw [hst]; exact (if_neg e).trans (if_neg e2)
      rw [eN] at q
      refine ⟨szl, fun l0 k0 => ?_⟩
      have z0 : Same H _ := Same.trans y2 (same_upd k0 (o := .tup [.str "", .int 0]))
      exact q _ _ upd_same (z0 _ _ hd) (Kp.same z0) (Same.free y2 k0)
    | put b =>
      have hbn : word b ≠ "name" := by cases b <;> decide +kernel
      refine ifF_s hbn ⟨_, rfl, p, Fl, rfl, hp, ok, fun l ts H1 s1 nl hl hP => ⟨l, rfl, ⟨_, SqL.of hl⟩, fun D nD => ?_⟩⟩
      have sb : Same H _ := Same.trans (fun _ _ e => e : Same H H) s1
      show ∃ W : Nat → Nat → Hp → Prop, _
      refine lc_list (K := K) (a := l) (xs := ts) (fun i H' => Same H1 H' ∧ H' D = some (.lst ((sel p (stN (Stp.put b)) i).map V.str))) ⟨same_upd nD, upd_same⟩ (fun i H' _ h => SqL.of (h.1 _ _ hl)) ?_ ?_
      · rintro i x H' hx' ⟨s', hA⟩
        obtain ⟨e, t, he, rfl, ht⟩ := (hP K).get hx'
        have hi : i < (blobs p).length := (List.getElem?_eq_some_iff.mp he).1
        have hb5 := blobs_len p ok
        have ht' := s' _ _ ht
        refine ⟨rfl, _, rfl, t, _, 0, .str e.1, rfl, rfl, SqT.of ht', atI_nat (j := 0) rfl, _, rfl, rfl, _, rfl, ?_⟩
        rw [dec_str]
        by_cases hw : e.1 = (stN (Stp.put b))
        · rw [decide_eq_true hw]
          refine iteT ⟨_, rfl, t, _, 1, .str e.2, rfl, rfl, SqT.of ht', atI_nat (j := 1) rfl, _, hA, ?_, ?_, ?_⟩
          · rw [List.length_map]
            exact Nat.lt_of_le_of_lt (show (sel p (stN (Stp.put b)) i).length ≤ 5 by have := sel_le p (stN (Stp.put b)) i; omega) (by decide)
          · exact fun b v e => by
              by_cases hb : b = D
              · rw [hb, nD] at e; cases e
              · rw [upd_ne hb]; exact s' b v e
          · rw [upd_same, sel_yes he hw, List.map_append]; rfl
        · rw [decide_eq_false hw]
          refine iteF ⟨s', ?_⟩
          rw [sel_skip he hw]; exact hA
      rintro H2 ⟨s2, hD⟩
      have lts := (hP K).len
      have et : sel p (stN (Stp.put b)) ts.length = [p.txt b] := by
        unfold sel
        rw [lts, List.take_of_length_le (Nat.le_refl _)]
        exact sel_txt (fun z => wf.bun (by rw [hst, z]))
      rw [et] at hD
      have sc : Same H _ := sb.trans s2
      refine ⟨D, _, 0, .str (p.txt b), rfl, rfl, SqL.of hD, atI_nat (j := 0) rfl, ?_⟩
      have wk := word_kind b
      cases r with
      | lacks x =>
        refine ⟨_, rfl, rr, _, 0, _, rfl, rfl, SqT.of (sc _ _ hrr), Rp.w0 _, rfl, _, rfl, ifT_s ?_⟩
        have eN : nextIn p m (.lacks x) = some (place p m 0) := by unfold nextIn; rw [hst]
        rw [eN, mdA_place] at q
        exact ⟨_, rfl, p, Fl, m, 0, rfl, hp.same sc, fun t H' s' nt ht => q t H' ht (s' _ _ (sc _ _ hd)) (Kp.same (Same.trans sc s')) (Same.free sc nt)⟩
      | malformed =>
        refine ⟨_, rfl, rr, _, 0, _, rfl, rfl, SqT.of (sc _ _ hrr), Rp.w0 _, rfl, _, rfl, ifF_s (by decide +kernel) ⟨_, rfl, rr, _, 0, _, rfl, rfl, SqT.of (sc _ _ hrr), Rp.w0 _, rfl, _, rfl, ifT_s (iteT ?_)⟩⟩
        have eN : nextIn p m .malformed = some { m with pl := 0 } := by unfold nextIn; rw [hst]
        rw [eN] at q
        refine ⟨_, rfl, szl, fun l0 k0 => ?_⟩
        have z0 : Same H _ := Same.trans sc (same_upd k0 (o := .tup [.str (word b), .int 0]))
        exact q _ _ (by rw [show resW (some { m with pl := 0 }) = stN (Stp.put b) from by (show stN m.st = _; rw [hst])]; exact upd_same) (z0 _ _ hd) (Kp.same z0) (Same.free sc k0)
      | kept x =>
        refine ⟨_, rfl, rr, _, 0, _, rfl, rfl, SqT.of (sc _ _ hrr), Rp.w0 _, rfl, _, rfl, ifF_s (Rp.word_ne (r' := .lacks "") (by simp [Rp.ix])) ⟨_, rfl, rr, _, 0, _, rfl, rfl, SqT.of (sc _ _ hrr), Rp.w0 _, rfl, _, rfl, ifF_s (Rp.word_ne (r' := .malformed) (by simp [Rp.ix])) ⟨_, rfl, rr, _, 0, _, rfl, rfl, SqT.of (sc _ _ hrr), Rp.w0 _, rfl, _, rfl, ifT_s ⟨_, rfl, rr, _, 1, .str x, rfl, rfl, SqT.of (sc _ _ hrr), atI_nat (j := 1) rfl, _, rfl, _, rfl, word b, p.txt b, if b then 2 else 1, rfl, wk.1, wk.2, rfl, _, rfl, ?_⟩⟩⟩⟩
        rw [show (!decide (V.str x = V.str (hexS (addrNum (if b then 2 else 1) (p.txt b).cps.toList)))) = decide (x ≠ p.ta b) from neq_str _ _]
        by_cases e : x = p.ta b
        · rw [decide_eq_false (fun z => z e)]
          refine iteF ⟨_, rfl, rr, _, 0, _, rfl, rfl, SqT.of (sc _ _ hrr), Rp.w0 _, rfl, _, rfl, ?_⟩
          rw [neq_str]
          refine ite2 (fun z => absurd rfl (of_decide_eq_true z)) (fun _ => ?_)
          have eN : nextIn p m (.kept x) = some (behind p m b) := by unfold nextIn; rw [hst]; exact if_pos e
          rw [eN] at q
          unfold behind at q
          cases b with
          | true =>
            rw [if_neg (fun z => nomatch z.1)] at q
            refine ⟨_, rfl, rfl, _, rfl, ifF_s (by decide +kernel) (iteF ⟨szl, fun l9 k9 => ?_⟩)⟩
            have z9 : Same H _ := Same.trans sc (same_upd k9 (o := .tup [.str "name", .int 0]))
            exact q _ _ upd_same (z9 _ _ hd) (Kp.same z9) (Same.free sc k9)
          | false =>
            refine ⟨_, rfl, rfl, _, rfl, ifT_s ⟨_, rfl, p.o, cP, p.dx, _, _, rfl, (hp.same sc).ob, T.clP, T.nplatform, rfl, rfl, _, rfl, ?_⟩⟩
            cases hpf : p.pf with
            | none =>
              rw [hpf, if_neg (fun z => nomatch z.2)] at q
              refine iteF ⟨szl, fun l9 k9 => ?_⟩
              have z9 : Same H _ := Same.trans sc (same_upd k9 (o := .tup [.str "name", .int 0]))
              exact q _ _ upd_same (z9 _ _ hd) (Kp.same z9) (Same.free sc k9)
            | some z =>
              rw [hpf, if_pos ⟨rfl, rfl⟩] at q
              refine iteT ⟨szl, fun l9 k9 => ?_⟩
              have z9 : Same H _ := Same.trans sc (same_upd k9 (o := .tup [.str "bundle", .int 0]))
              exact q _ _ upd_same (z9 _ _ hd) (Kp.same z9) (Same.free sc k9)
        · rw [decide_eq_true e]
          refine iteT ?_
          have eN : nextIn p m (.kept x) = some { m with pl := 0 } := by unfold nextIn; rw [hst]; exact if_neg e
          rw [eN] at q
          refine ⟨_, rfl, szl, fun l0 k0 => ?_⟩
          have z0 : Same H _ := Same.trans sc (same_upd k0 (o := .tup [.str (word b), .int 0]))
          exact q _ _ (by rw [show resW (some { m with pl := 0 }) = stN (Stp.put b) from by (show stN m.st = _; rw [hst])]; exact upd_same) (z0 _ _ hd) (Kp.same z0) (Same.free sc k0)
      | _ =>
        refine ⟨_, rfl, rr, _, 0, _, rfl, rfl, SqT.of (sc _ _ hrr), Rp.w0 _, rfl, _, rfl, ifF_s (Rp.word_ne (r' := .lacks "") (by simp [Rp.ix])) ⟨_, rfl, rr, _, 0, _, rfl, rfl, SqT.of (sc _ _ hrr), Rp.w0 _, rfl, _, rfl, ifF_s (Rp.word_ne (r' := .malformed) (by simp [Rp.ix])) ⟨_, rfl, rr, _, 0, _, rfl, rfl, SqT.of (sc _ _ hrr), Rp.w0 _, rfl, _, rfl, ifF_s (Rp.word_ne (r' := .kept "") (by simp [Rp.ix])) (iteF ⟨_, rfl, rr, _, 0, _, rfl, rfl, SqT.of (sc _ _ hrr), Rp.w0 _, rfl, _, rfl, ?_⟩)⟩⟩⟩
        rw [neq_str]
        refine ite2 (fun _ => ?_) (fun z => absurd (decide_eq_true (Rp.word_ne (r' := .kept "") (by simp [Rp.ix]))) z)
        unfold nextIn at q
        rw [hst] at q
        refine ⟨szl, fun l9 k9 => ?_⟩
        have z9 : Same H _ := Same.trans sc (same_upd k9 (o := .tup [.str "", .int 0]))
        exact q _ _ upd_same (z9 _ _ hd) (Kp.same z9) (Same.free sc k9)
    | _ => rw [hst] at hSt; rcases hSt with z | ⟨b, z⟩ <;> cases z
end
end LW
namespace LW
open PySem PySem.Spec PyProof.Rows L2 GxR
theorem not_in3 {s : Stp} (h : s ≠ .done) : (!inV (V.str (stN s)) [.str "open", .str "part", .str "close"]) = under s := by
  cases s <;> first | decide +kernel | exact absurd rfl h | (rename_i b; cases b <;> decide +kernel)
theorem in_end (b : Bool) : inV (V.str (stN (.put b))) [.str "image", .str "bundle", .str "name"] = true := by cases b <;> decide +kernel
theorem in_two (b : Bool) : inV (V.str (stN (.put b))) [.str "image", .str "bundle"] = true := by cases b <;> decide +kernel
theorem in_sc (b : Bool) : inV (V.str (stN (.put b))) [.str "start", .str "close"] = false := by cases b <;> decide +kernel
theorem put_ne (b : Bool) : ∀ x ∈ (["open", "close", "has", "part", "finish", "name"] : List Str), stN (.put b) ≠ x := by cases b <;> decide +kernel
abbrev s_law_next : Stmt := topS 28
abbrev N_law_next : List Str := ["pusher", "model", "reply", "step"]
abbrev P_law_next : List Str := ["pusher", "model", "reply"]
theorem sc_law_next : FnScope N_law_next P_law_next (defScope s_law_next) := ⟨rfl, rfl, rfl, by decide +kernel, rfl, by decide +kernel, by decide +kernel⟩
def sp_law_next (cP : Addr) : Sp := fun vs H Q _ => spStep cP (fun s => s ≠ .done) next vs H Q (fun _ _ _ => True)
section
variable {P : Program} {w : World} {K : PySem.W.Frag} {mg : Str → Option Value} {base : Heap} {cP : Addr}
theorem ok_law_next {f : Addr} {fd : FuncData} (F : Fun K "_law_next" "_law_next" s_law_next f fd) (T : Tx K mg cP)
    (C__law_end_step : Cal P w K mg base CX0 5 "_law_end_step" P_law_end_step (sp_law_end_step cP))
    (C__law_layer_step : Cal P w K mg base CX0 3 "_law_layer_step" P_law_layer_step (sp_law_layer_step cP))
    (C__law_place : Cal P w K mg base CX0 1 "_law_place" P_law_place (sp_law_place cP)) : FnOk P w K mg base CX0 6 f fd P_law_next (sp_law_next cP) := by
  refine F.ok sc_law_next (fun vs H Q E h => ?_) (fun cdv A outer s H vs Q E hr h => ?_)
  · obtain ⟨_, _, _, _, _, _, rfl, _⟩ := h
    rfl
  · obtain ⟨p, Fl, m, d, rr, r, rfl, hp, ok, wf, hs⟩ := h
    have nd := sc_law_next.nd
    have hu := hu_of hr
    refine ⟨_, pss_cons (ps_set (i := 3) nd rfl (Or.inl rfl) (pe_dget hu (pv 1) pe_str (fun _ _ => rfl)))
  (C8.pss_cut (ps_if (PW.pt (pw_and (pt_cmpR op_notIn_seq (pv 3) (pe_lst (pa_cons pe_str (pa_cons pe_str (pa_cons pe_str pa_nil)))) (by rfl)) (pw_and1 (pt_cmpR (op_eqD hr.units) (pv 2) (pe_tup (pa_cons pe_str (pa_cons (pe_dget hu (pv 1) pe_str (fun _ _ => rfl)) pa_nil))) (nomark _)))))
    (pss_one (ps_ret (pe_tup (pa_cons pe_str (pa_cons pe_int pa_nil)))))
    (pss_nil))
  (pss_cons (ps_if (pt_cmpR op_eq (pv 3) pe_str (nomark _))
    (pss_cons (ps_if (pt_cmpR op_ne (pe_ix ix_tup (pv 2) pe_int (fun _ _ => rfl)) pe_str (nomark _))
    (pss_one (ps_ret (pe_tup (pa_cons pe_str (pa_cons pe_int pa_nil)))))
    (pss_nil))
  (pss_cons (ps_dput hu (pv 1) pe_str (pe_ix ix_tup (pv 2) pe_int (fun _ _ => rfl)) rfl)
  (pss_one (ps_ret (pe_cal C__law_place hr (pa_cons (pv 0) (pa_cons pe_int pa_nil)))))))
    (pss_nil))
  (pss_cons (ps_if (pt_cmpR op_eq (pv 3) pe_str (nomark _))
    (pss_one (ps_ret (pe_ix ix_list (pe_lst (pa_cons (pe_tup (pa_cons pe_str (pa_cons pe_int pa_nil))) (pa_cons (pe_tup (pa_cons pe_str (pa_cons pe_int pa_nil))) pa_nil))) (pe_callTy call_int1 (by rfl) T.int (by decide +kernel) (pa_cons (pe_cmpR (op_eqD hr.units) (pv 2) (pe_tup (pa_cons pe_str (pa_cons (pe_dget hu (pv 1) pe_str (fun _ _ => rfl)) pa_nil))) (nomark _)) pa_nil)) (fun _ _ => rfl))))
    (pss_nil))
  (pss_cons (ps_if (pt_cmpR op_in_seq (pv 3) (pe_lst (pa_cons pe_str (pa_cons pe_str (pa_cons pe_str pa_nil)))) (by rfl))
    (pss_one (ps_ret (pe_cal C__law_end_step hr (pa_cons (pv 0) (pa_cons (pv 1) (pa_cons (pv 2) pa_nil))))))
    (pss_nil))
  (pss_one (ps_ret (pe_cal C__law_layer_step hr (pa_cons (pv 0) (pa_cons (pv 1) (pa_cons (pv 2) pa_nil)))))))))), ?_⟩

    obtain ⟨hSt, hd, hrr, rok, q⟩ := hs
    refine ⟨_, rfl, d, _, rfl, dg_step hd, ?_⟩
    refine ⟨fun σ' H1 => σ' = [some (.ref p.o), some (.ref d), some (.ref rr), some (.str (stN m.st))] ∧ Same H H1 ∧ next p m r = nextIn p m r, ?_, ?_⟩
    · refine ⟨_, rfl, szl, fun l0 k0 => ⟨l0, _, rfl, .inl (SqL.of upd_same), rfl, rfl, _, rfl, ?_⟩⟩
      have z0 : Same H _ := same_upd k0 (o := .lst [.str "open", .str "part", .str "close"])
      rw [if_pos rfl, not_in3 hSt]
      by_cases hun : under m.st = true
      · rw [hun]
        refine iteT ⟨_, rfl, _, rfl, d, _, rfl, dg_claim (z0 _ _ hd), szl, fun l1 k1 => ⟨_, _, dp_tup (same_upd k1 _ _ (z0 _ _ hrr)), dp_tup (ks := (Rp.lapsed m.cl).keys) upd_same, shaped_keys rok, shaped_keys (Rp.ok_of ok_i), _, rfl, ?_⟩⟩
        rw [eqv_rp]
        have z1 : Same H _ := z0.trans (same_upd k1 (o := .tup ((Rp.lapsed m.cl).keys.map kV)))
        by_cases e : r = .lapsed m.cl
        · rw [decide_eq_true e]
          have eN : next p m r = some { m with st := .opn, pl := 0 } := by unfold next; exact if_pos ⟨hun, e⟩
          rw [eN] at q
          refine iteT ⟨szl, fun l2 k2 => ?_⟩
          have z2 : Same H _ := z1.trans (same_upd k2 (o := .tup [.str "open", .int 0]))
          exact q _ _ upd_same (z2 _ _ hd) (Kp.same z2) (z1.free k2)
        · rw [decide_eq_false e]
          exact iteF ⟨rfl, z1, by unfold next; exact if_neg (fun z => e z.2)⟩
      · rw [Bool.eq_false_iff.mpr hun]
        exact iteF (iteF ⟨rfl, z0, by unfold next; exact if_neg (fun z => hun z.1)⟩)
    · rintro σ' H1 ⟨rfl, s1, hnx⟩
      rw [hnx] at q
      have hd1 := s1 _ _ hd
      have hr1 := s1 _ _ hrr
      have hp1 := hp.same s1
      have q' : ∀ t H', H' t = some (.tup [.str (resW (nextIn p m r)), .int (resP (nextIn p m r))]) → H' d = some (.dK (mdl (mdA m (nextIn p m r)))) → Kp (fun b => b = d) H1 H' → H1 t = none → Q (.ref t) H' := fun t H' a b k n => q t H' a b ((Kp.same s1).trans k) (s1.free n)
      refine ⟨_, rfl, rfl, _, rfl, ?_⟩
      cases hst : m.st with
      | done => exact absurd hst hSt
      | opn =>
        refine ifT_s ⟨_, rfl, rr, _, 0, _, rfl, rfl, SqT.of hr1, r.w0, rfl, _, rfl, ?_⟩
        rw [neq_str]
        cases r with
        | claim n =>
          refine ite2 (fun z => absurd rfl (of_decide_eq_true z)) (fun _ => ?_)
          refine ⟨_, rfl, rr, _, 1, .int n, rfl, rfl, SqT.of hr1, atI_nat (j := 1) rfl, _, rfl, d, _, rfl, DPut.k (k := .inr "claim") hd1 (mdl5 m), ?_⟩
          rw [p_claim]
          have eN : nextIn p m (.claim n) = some (place p { m with cl := n } 0) := by unfold nextIn; rw [hst]
          rw [eN, mdA_place] at q'
          have hd2 : (L2.upd H1 d (.dK (mdl { m with cl := n }))) d = some (.dK (mdl { m with cl := n })) := upd_same
          have kp2 := kp_dk (kvs' := mdl { m with cl := n }) hd1
          exact ⟨_, rfl, p, Fl, { m with cl := n }, 0, rfl, hp1.dk hd1, fun t H' s' nt ht => q' t H' ht (s' _ _ hd2) (kp2.trans (Kp.same s')) (kp2.free _ nt)⟩
        | _ =>
          refine ite2 (fun _ => ?_) (fun z => absurd (decide_eq_true (Rp.word_ne (r' := .claim 0) (by simp [Rp.ix]))) z)
          unfold nextIn at q'
          rw [hst] at q'
          refine ⟨szl, fun l2 k2 => ?_⟩
          have z2 : Same H1 _ := same_upd k2 (o := .tup [.str "", .int 0])
          exact q' _ _ upd_same (z2 _ _ hd1) (Kp.same z2) k2
      | close =>
        refine ifF_s (by decide +kernel) ⟨_, rfl, rfl, _, rfl, ifT_s ⟨szl, fun t1 n1 => ⟨szl, fun t2 n2 => ⟨szl, fun l3 n3 => ?_⟩⟩⟩⟩
        have c1 := same_upd n1 (o := .tup [.str "", .int 0])
        have c2 := same_upd n2 (o := .tup [.str "done", .int 0])
        have c3 := same_upd n3 (o := .lst [.ref t1, .ref t2])
        have c13 := (c1.trans c2).trans c3
        refine ⟨_, rfl, _, rfl, d, _, rfl, dg_claim (c13 _ _ hd1), szl, fun l4 n4 => ⟨_, _, dp_tup (same_upd n4 _ _ (c13 _ _ hr1)), dp_tup (ks := (Rp.closed m.cl).keys) upd_same, shaped_keys rok, shaped_keys (Rp.ok_of ok_i), .inr ⟨_, rfl, ?_⟩⟩⟩
        rw [eqv_rp]
        have c4 := same_upd n4 (o := .tup ((Rp.closed m.cl).keys.map kV))
        have c14 := c13.trans c4
        have g1 := ((c2.trans c3).trans c4) t1 (.tup [.str "", .int 0]) upd_same
        have g2 := (c3.trans c4) t2 (.tup [.str "done", .int 0]) upd_same
        have g3 := c4 l3 (.lst [.ref t1, .ref t2]) upd_same
        by_cases e : r = .closed m.cl
        · rw [decide_eq_true e]
          have eN : nextIn p m r = some { m with st := .done, pl := 0 } := by unfold nextIn; rw [hst]; exact if_pos e
          rw [eN] at q'
          exact ⟨l3, _, 1, .ref t2, rfl, rfl, SqL.of g3, atI_nat (j := 1) rfl, q' t2 _ g2 (c14 _ _ hd1) (Kp.same c14) (c1.free n2)⟩
        · rw [decide_eq_false e]
          have eN : nextIn p m r = none := by unfold nextIn; rw [hst]; exact if_neg e
          rw [eN] at q'
          exact ⟨l3, _, 0, .ref t1, rfl, rfl, SqL.of g3, atI_nat (j := 0) rfl, q' t1 _ g1 (c14 _ _ hd1) (Kp.same c14) n1⟩
      | has =>
        refine ifF_s (by decide +kernel) ⟨_, rfl, rfl, _, rfl, ifF_s (by decide +kernel) ⟨_, rfl, szl, fun l2 k2 => ⟨l2, _, rfl, .inl (SqL.of upd_same), rfl, rfl, _, rfl, ?_⟩⟩⟩
        have z2 : Same H1 _ := same_upd k2 (o := .lst [.str "image", .str "bundle", .str "name"])
        rw [if_neg Bool.false_ne_true, show inV (V.str (stN Stp.has)) [.str "image", .str "bundle", .str "name"] = false from by decide +kernel]
        exact iteF ⟨_, rfl, _, rfl, _, rfl, p, Fl, m, d, rr, r, rfl, hp1.same z2, ok, wf, (by rw [hst]; rfl), z2 _ _ hd1, z2 _ _ hr1, rok, fun t H' a b k n => q' t H' a b ((Kp.same z2).trans k) (z2.free n)⟩
      | start =>
        refine ifF_s (by decide +kernel) ⟨_, rfl, rfl, _, rfl, ifF_s (by decide +kernel) ⟨_, rfl, szl, fun l2 k2 => ⟨l2, _, rfl, .inl (SqL.of upd_same), rfl, rfl, _, rfl, ?_⟩⟩⟩
        have z2 : Same H1 _ := same_upd k2 (o := .lst [.str "image", .str "bundle", .str "name"])
        rw [if_neg Bool.false_ne_true, show inV (V.str (stN Stp.start)) [.str "image", .str "bundle", .str "name"] = false from by decide +kernel]
        exact iteF ⟨_, rfl, _, rfl, _, rfl, p, Fl, m, d, rr, r, rfl, hp1.same z2, ok, wf, (by rw [hst]; rfl), z2 _ _ hd1, z2 _ _ hr1, rok, fun t H' a b k n => q' t H' a b ((Kp.same z2).trans k) (z2.free n)⟩
      | part =>
        refine ifF_s (by decide +kernel) ⟨_, rfl, rfl, _, rfl, ifF_s (by decide +kernel) ⟨_, rfl, szl, fun l2 k2 => ⟨l2, _, rfl, .inl (SqL.of upd_same), rfl, rfl, _, rfl, ?_⟩⟩⟩
        have z2 : Same H1 _ := same_upd k2 (o := .lst [.str "image", .str "bundle", .str "name"])
        rw [if_neg Bool.false_ne_true, show inV (V.str (stN Stp.part)) [.str "image", .str "bundle", .str "name"] = false from by decide +kernel]
        exact iteF ⟨_, rfl, _, rfl, _, rfl, p, Fl, m, d, rr, r, rfl, hp1.same z2, ok, wf, (by rw [hst]; rfl), z2 _ _ hd1, z2 _ _ hr1, rok, fun t H' a b k n => q' t H' a b ((Kp.same z2).trans k) (z2.free n)⟩
      | finish =>
        refine ifF_s (by decide +kernel) ⟨_, rfl, rfl, _, rfl, ifF_s (by decide +kernel) ⟨_, rfl, szl, fun l2 k2 => ⟨l2, _, rfl, .inl (SqL.of upd_same), rfl, rfl, _, rfl, ?_⟩⟩⟩
        have z2 : Same H1 _ := same_upd k2 (o := .lst [.str "image", .str "bundle", .str "name"])
        rw [if_neg Bool.false_ne_true, show inV (V.str (stN Stp.finish)) [.str "image", .str "bundle", .str "name"] = false from by decide +kernel]
        exact iteF ⟨_, rfl, _, rfl, _, rfl, p, Fl, m, d, rr, r, rfl, hp1.same z2, ok, wf, (by rw [hst]; rfl), z2 _ _ hd1, z2 _ _ hr1, rok, fun t H' a b k n => q' t H' a b ((Kp.same z2).trans k) (z2.free n)⟩
      | name =>
        refine ifF_s (by decide +kernel) ⟨_, rfl, rfl, _, rfl, ifF_s (by decide +kernel) ⟨_, rfl, szl, fun l2 k2 => ⟨l2, _, rfl, .inl (SqL.of upd_same), rfl, rfl, _, rfl, ?_⟩⟩⟩
        have z2 : Same H1 _ := same_upd k2 (o := .lst [.str "image", .str "bundle", .str "name"])
        rw [if_neg Bool.false_ne_true, show inV (V.str (stN Stp.name)) [.str "image", .str "bundle", .str "name"] = true from by decide +kernel]
        exact iteT ⟨_, rfl, _, rfl, _, rfl, p, Fl, m, d, rr, r, rfl, hp1.same z2, ok, wf, (.inl hst), z2 _ _ hd1, z2 _ _ hr1, rok, fun t H' a b k n => q' t H' a b ((Kp.same z2).trans k) (z2.free n)⟩
      | put b =>
        refine ifF_s (put_ne b _ (by decide)) ⟨_, rfl, rfl, _, rfl, ifF_s (put_ne b _ (by decide)) ⟨_, rfl, szl, fun l2 k2 => ⟨l2, _, rfl, .inl (SqL.of upd_same), rfl, rfl, _, rfl, ?_⟩⟩⟩
        have z2 : Same H1 _ := same_upd k2 (o := .lst [.str "image", .str "bundle", .str "name"])
        rw [if_neg Bool.false_ne_true, in_end b]
        exact iteT ⟨_, rfl, _, rfl, _, rfl, p, Fl, m, d, rr, r, rfl, hp1.same z2, ok, wf, (.inr ⟨b, hst⟩), z2 _ _ hd1, z2 _ _ hr1, rok, fun t H' a b k n => q' t H' a b ((Kp.same z2).trans k) (z2.free n)⟩
end
end LW
namespace LW
open PySem PySem.Spec PyProof.Rows L2 GxR
abbrev s_law_request : Stmt := topS 24
abbrev N_law_request : List Str := ["pusher", "model", "step", "claim", "text", "blobs", "blob"]
abbrev P_law_request : List Str := ["pusher", "model"]
theorem sc_law_request : FnScope N_law_request P_law_request (defScope s_law_request) := ⟨rfl, rfl, rfl, by decide +kernel, rfl, by decide +kernel, by decide +kernel⟩
def sp_law_request (cP : Addr) : Sp := fun vs H Q _ => ∃ (p : Psh) (Fl : Fl) (m : Ms) (d : Addr), vs = [.ref p.o, .ref d] ∧ PuAt cP p Fl H ∧ POk p ∧ Wf p m ∧ m.st ≠ .done ∧ H d = some (.dK (mdl m)) ∧ ∀ t H', Same H H' → H' t = some (.tup ((rqk p m).map kV)) → Q (.ref t) H'
section
variable {P : Program} {w : World} {K : PySem.W.Frag} {mg : Str → Option Value} {base : Heap} {cP : Addr}
theorem ok_law_request {f : Addr} {fd : FuncData} (F : Fun K "_law_request" "_law_request" s_law_request f fd) (T : Tx K mg cP)
    (C__law_blobs : Cal P w K mg base CX0 3 "_law_blobs" P_law_blobs (sp_law_blobs cP))
    (C__law_layer : Cal P w K mg base CX0 2 "_law_layer" P_law_layer (sp_law_layer cP))
    (C__law_target : Cal P w K mg base CX0 4 "_law_target" P_law_target (sp_law_target cP)) : FnOk P w K mg base CX0 5 f fd P_law_request (sp_law_request cP) := by
  refine F.ok sc_law_request (fun vs H Q E h => ?_) (fun cdv A outer s H vs Q E hr h => ?_)
  · obtain ⟨_, _, _, _, rfl, _⟩ := h
    rfl
  · obtain ⟨p, Fl, m, d, rfl, hp, ok, wf, hs⟩ := h
    have nd := sc_law_request.nd
    have hu := hu_of hr
    refine ⟨_, pss_cons (ps_set (i := 2) nd rfl (Or.inr rfl) (pe_dget hu (pv 1) pe_str (fun _ _ => rfl)))
  (pss_cons (ps_set (i := 3) nd rfl (Or.inl rfl) (pe_dget hu (pv 1) pe_str (fun _ _ => rfl)))
  (pss_cons (ps_if (pt_cmpR op_eq (pv 2) pe_str (nomark _))
    (pss_one (ps_ret (pe_tup (pa_cons pe_str pa_nil))))
    (pss_nil))
  (pss_cons (ps_if (pt_cmpR op_in_seq (pv 2) (pe_lst (pa_cons pe_str (pa_cons pe_str pa_nil))) (by rfl))
    (pss_one (ps_ret (pe_tup (pa_cons (pv 2) (pa_cons (pv 3) pa_nil)))))
    (pss_nil))
  (pss_cons (ps_if (pt_cmpR op_eq (pv 2) pe_str (nomark _))
    (pss_one (ps_ret (pe_tup (pa_cons pe_str (pa_cons (pv 3) (pa_cons (pe_cal C__law_layer hr (pa_cons (pv 0) (pa_cons (pv 1) pa_nil))) pa_nil))))))
    (pss_nil))
  (pss_cons (ps_if (pt_cmpR op_eq (pv 2) pe_str (nomark _))
    (pss_cons (ps_set (i := 4) nd rfl (Or.inl rfl) (pe_ix ix_list (pe_fld (pv 0) rfl) (pe_dget hu (pv 1) pe_str (fun _ _ => rfl)) (fun _ _ => rfl)))
  (pss_one (ps_ret (pe_tup (pa_cons pe_str (pa_cons (pe_dget hu (pv 1) pe_str (fun _ _ => rfl)) (pa_cons (pe_dget hu (pv 1) pe_str (fun _ _ => rfl)) (pa_cons (pe_slice sl_str (pv 4) (po_some (pe_dget hu (pv 1) pe_str (fun _ _ => rfl))) (po_some (pe_op op_add (pe_dget hu (pv 1) pe_str (fun _ _ => rfl)) pe_int))) pa_nil))))))))
    (pss_nil))
  (pss_cons (ps_if (pt_cmpR op_eq (pv 2) pe_str (nomark _))
    (pss_one (ps_ret (pe_tup (pa_cons pe_str (pa_cons (pe_dget hu (pv 1) pe_str (fun _ _ => rfl)) (pa_cons (pv 3) (pa_cons pe_str (pa_cons (pe_cal C__law_layer hr (pa_cons (pv 0) (pa_cons (pv 1) pa_nil))) pa_nil))))))))
    (pss_nil))
  (pss_cons (ps_set (i := 5) nd rfl (Or.inl rfl) (pe_cal C__law_blobs hr (pa_cons (pv 0) pa_nil)))
  (pss_cons (ps_if (pt_cmpR op_in_seq (pv 2) (pe_lst (pa_cons pe_str (pa_cons pe_str pa_nil))) (by rfl))
    (pss_cons (ps_set (i := 4) nd rfl (Or.inl rfl) (pe_ix ix_list (pe_lc (own := [("blob", 6)]) (g := gName 6)  rfl nd (pi_list (pv 5)) (blkOk_by (N := N_law_request) (sc := defScope s_law_request) (by decide +kernel)) (fun _ _ _ _ _ => (pg_name (i := 6) nd rfl (Or.inl rfl))) (fun _ _ _ _ _ => (pts_one (pt_cmpR op_eq (pe_ix (show IxR _ (rIxT K) from ix_tup) (pv 6) pe_int (fun _ _ => rfl)) (pv 2) (nomark _)))) (fun _ _ _ _ _ => (pe_ix (show IxR _ (rIxT K) from ix_tup) (pv 6) pe_int (fun _ _ => rfl)))) pe_int (fun _ _ => rfl)))
  (pss_one (ps_ret (pe_tup (pa_cons pe_str (pa_cons (pv 3) (pa_cons (pv 2) (pa_cons (pv 4) pa_nil))))))))
    (pss_nil))
  (pss_one (ps_ret (pe_tup (pa_cons pe_str (pa_cons (pv 3) (pa_cons (pe_fld (pv 0) rfl) (pa_cons (pe_cal C__law_target hr (pa_cons (pv 0) pa_nil)) pa_nil))))))))))))))), ?_⟩

    obtain ⟨hSt, hd, q⟩ := hs
    have s0 : Same H H := fun _ _ e => e
    refine ⟨_, rfl, d, _, rfl, dg_step hd, _, rfl, d, _, rfl, dg_claim hd, _, rfl, rfl, _, rfl, ?_⟩
    unfold rqk at q
    cases hst : m.st with
    | done => exact absurd hst hSt
    | opn =>
        rw [hst] at q
        exact ifT_s ⟨szl, fun t nt => q t _ (same_upd nt) upd_same⟩
    | start =>
        rw [hst] at q
        refine ifF_s (by decide +kernel) ?_
        refine ⟨_, rfl, szl, fun l0 k0 => ⟨l0, _, rfl, .inl (SqL.of upd_same), rfl, rfl, _, rfl, ?_⟩⟩
        have z0 : Same H _ := same_upd k0 (o := .lst [.str "start", .str "close"])
        rw [if_neg Bool.false_ne_true, show inV (V.str (stN Stp.start)) [.str "start", .str "close"] = true from by decide +kernel]
        exact iteT ⟨_, rfl, _, rfl, szl, fun t nt => q t _ (z0.trans (same_upd nt)) upd_same⟩
    | close =>
        rw [hst] at q
        refine ifF_s (by decide +kernel) ?_
        refine ⟨_, rfl, szl, fun l0 k0 => ⟨l0, _, rfl, .inl (SqL.of upd_same), rfl, rfl, _, rfl, ?_⟩⟩
        have z0 : Same H _ := same_upd k0 (o := .lst [.str "start", .str "close"])
        rw [if_neg Bool.false_ne_true, show inV (V.str (stN Stp.close)) [.str "start", .str "close"] = true from by decide +kernel]
        exact iteT ⟨_, rfl, _, rfl, szl, fun t nt => q t _ (z0.trans (same_upd nt)) upd_same⟩
    | has =>
        rw [hst] at q
        refine ifF_s (by decide +kernel) ?_
        refine ⟨_, rfl, szl, fun l0 k0 => ⟨l0, _, rfl, .inl (SqL.of upd_same), rfl, rfl, _, rfl, ?_⟩⟩
        have z0 : Same H _ := same_upd k0 (o := .lst [.str "start", .str "close"])
        rw [if_neg Bool.false_ne_true, show inV (V.str (stN Stp.has)) [.str "start", .str "close"] = false from by decide +kernel]
        exact iteF ⟨_, rfl, rfl, _, rfl, ifT_s ⟨_, rfl, _, rfl, _, rfl, p, Fl, m, d, rfl, hp.same z0, z0 _ _ hd, wf.pl (by rw [hst]; rfl), szl, fun t nt => q t _ (z0.trans (same_upd nt)) upd_same⟩⟩
    | part =>
        rw [hst] at q
        refine ifF_s (by decide +kernel) ?_
        refine ⟨_, rfl, szl, fun l0 k0 => ⟨l0, _, rfl, .inl (SqL.of upd_same), rfl, rfl, _, rfl, ?_⟩⟩
        have z0 : Same H _ := same_upd k0 (o := .lst [.str "start", .str "close"])
        rw [if_neg Bool.false_ne_true, show inV (V.str (stN Stp.part)) [.str "start", .str "close"] = false from by decide +kernel]
        have hpl := wf.pl (by rw [hst]; rfl)
        have hp0 := hp.same z0
        refine iteF ⟨_, rfl, rfl, _, rfl, ifF_s (by decide +kernel) ⟨_, rfl, rfl, _, rfl, ifT_s ⟨_, rfl, p.o, cP, p.dx, _, _, rfl, hp0.ob, T.clP, T.nlayers, rfl, _, rfl, d, _, rfl, dg_place (z0 _ _ hd), p.L, _, _, .str (p.lay m.pl), rfl, rfl, SqL.of hp0.hL, atI_nat (lay_at hpl).1, ?_⟩⟩⟩
        exact ⟨_, rfl, d, _, rfl, dg_upload (z0 _ _ hd), _, rfl, d, _, rfl, dg_at (z0 _ _ hd), _, rfl, _, rfl, d, _, rfl, dg_at (z0 _ _ hd), _, rfl, _, rfl, d, _, rfl, dg_at (z0 _ _ hd), _, _, rfl, rfl, _, rfl, p.lay m.pl, rfl, lay_sz ok hpl, szl, fun t nt => q t _ (z0.trans (same_upd nt)) upd_same⟩
    | finish =>
        rw [hst] at q
        refine ifF_s (by decide +kernel) ?_
        refine ⟨_, rfl, szl, fun l0 k0 => ⟨l0, _, rfl, .inl (SqL.of upd_same), rfl, rfl, _, rfl, ?_⟩⟩
        have z0 : Same H _ := same_upd k0 (o := .lst [.str "start", .str "close"])
        rw [if_neg Bool.false_ne_true, show inV (V.str (stN Stp.finish)) [.str "start", .str "close"] = false from by decide +kernel]
        exact iteF ⟨_, rfl, rfl, _, rfl, ifF_s (by decide +kernel) ⟨_, rfl, rfl, _, rfl, ifF_s (by decide +kernel) ⟨_, rfl, rfl, _, rfl, ifT_s ⟨_, rfl, d, _, rfl, dg_upload (z0 _ _ hd), _, rfl, _, rfl, _, rfl, p, Fl, m, d, rfl, hp.same z0, z0 _ _ hd, wf.pl (by rw [hst]; rfl), szl, fun t nt => q t _ (z0.trans (same_upd nt)) upd_same⟩⟩⟩⟩
    | name =>
        rw [hst] at q
        refine ifF_s (by decide +kernel) ?_
        refine ⟨_, rfl, szl, fun l0 k0 => ⟨l0, _, rfl, .inl (SqL.of upd_same), rfl, rfl, _, rfl, ?_⟩⟩
        have z0 : Same H _ := same_upd k0 (o := .lst [.str "start", .str "close"])
        rw [if_neg Bool.false_ne_true, show inV (V.str (stN Stp.name)) [.str "start", .str "close"] = false from by decide +kernel]
        refine iteF ⟨_, rfl, rfl, _, rfl, ifF_s (by decide +kernel) ⟨_, rfl, rfl, _, rfl, ifF_s (by decide +kernel) ⟨_, rfl, rfl, _, rfl, ifF_s (by decide +kernel) ⟨_, rfl, p, Fl, rfl, hp.same z0, ok, fun l ts H1 s1 nl hl hP => ⟨_, rfl, szl, fun l2 k2 => ⟨l2, _, rfl, .inl (SqL.of upd_same), rfl, rfl, _, rfl, ?_⟩⟩⟩⟩⟩⟩
        have z2 : Same H _ := (z0.trans s1).trans (same_upd k2 (o := .lst [.str "image", .str "bundle"]))
        rw [if_neg Bool.false_ne_true, show inV (V.str (stN Stp.name)) [.str "image", .str "bundle"] = false from by decide +kernel]
        exact iteF ⟨_, rfl, _, rfl, p.o, cP, p.dx, _, _, rfl, (hp.same z2).ob, T.clP, T.nname, rfl, _, rfl, p, Fl, rfl, hp.same z2, ok, fun H3 s3 => ⟨szl, fun t nt => q t _ ((z2.trans s3).trans (same_upd nt)) upd_same⟩⟩
    | put b =>
        rw [hst] at q
        refine ifF_s (put_ne b _ (by decide)) ?_
        refine ⟨_, rfl, szl, fun l0 k0 => ⟨l0, _, rfl, .inl (SqL.of upd_same), rfl, rfl, _, rfl, ?_⟩⟩
        have z0 : Same H _ := same_upd k0 (o := .lst [.str "start", .str "close"])
        rw [if_neg Bool.false_ne_true, show inV (V.str (stN (Stp.put b))) [.str "start", .str "close"] = false from in_sc b]
        refine iteF ⟨_, rfl, rfl, _, rfl, ifF_s (put_ne b _ (by decide)) ⟨_, rfl, rfl, _, rfl, ifF_s (put_ne b _ (by decide)) ⟨_, rfl, rfl, _, rfl, ifF_s (put_ne b _ (by decide)) ⟨_, rfl, p, Fl, rfl, hp.same z0, ok, fun l ts H1 s1 nl hl hP => ⟨_, rfl, szl, fun l2 k2 => ⟨l2, _, rfl, .inl (SqL.of upd_same), rfl, rfl, _, rfl, ?_⟩⟩⟩⟩⟩⟩
        have z2 : Same H _ := (z0.trans s1).trans (same_upd k2 (o := .lst [.str "image", .str "bundle"]))
        have hl2 := same_upd k2 (o := .lst [.str "image", .str "bundle"]) _ _ hl
        have hP2 : ∀ K, Prs K _ ts (blobs p) := fun K => (hP K).tk (tk_same (same_upd k2 (o := .lst [.str "image", .str "bundle"])))
        rw [if_neg Bool.false_ne_true, in_two b]
        revert z2 hl2 hP2
        generalize L2.upd H1 l2 (.lst [.str "image", .str "bundle"]) = H2
        intro z2 hl2 hP2
        refine iteT ⟨_, rfl, l, rfl, ⟨_, SqL.of hl2⟩, fun D nD => ?_⟩
        have sb : Same H _ := z2
        show ∃ W : Nat → Nat → Hp → Prop, _
        refine lc_list (K := K) (a := l) (xs := ts) (fun i H' => Same H2 H' ∧ H' D = some (.lst ((sel p (stN (Stp.put b)) i).map V.str))) ⟨same_upd nD, upd_same⟩ (fun i H' _ h => SqL.of (h.1 _ _ hl2)) ?_ ?_
        · rintro i x H' hx' ⟨s', hA⟩
          obtain ⟨e, t, he, rfl, ht⟩ := (hP2 K).get hx'
          have hi : i < (blobs p).length := (List.getElem?_eq_some_iff.mp he).1
          have hb5 := blobs_len p ok
          have ht' := s' _ _ ht
          refine ⟨rfl, _, rfl, t, _, 0, .str e.1, rfl, rfl, SqT.of ht', atI_nat (j := 0) rfl, _, rfl, rfl, _, rfl, ?_⟩
          rw [dec_str]
          by_cases hw : e.1 = (stN (Stp.put b))
          · rw [decide_eq_true hw]
            refine iteT ⟨_, rfl, t, _, 1, .str e.2, rfl, rfl, SqT.of ht', atI_nat (j := 1) rfl, _, hA, ?_, ?_, ?_⟩
            · rw [List.length_map]
              exact Nat.lt_of_le_of_lt (show (sel p (stN (Stp.put b)) i).length ≤ 5 by have := sel_le p (stN (Stp.put b)) i; omega) (by decide)
            · exact fun b v e => by
                by_cases hb : b = D
                · rw [hb, nD] at e; cases e
                · rw [upd_ne hb]; exact s' b v e
            · rw [upd_same, sel_yes he hw, List.map_append]; rfl
          · rw [decide_eq_false hw]
            refine iteF ⟨s', ?_⟩
            rw [sel_skip he hw]; exact hA
        rintro H3 ⟨s2, hD⟩
        have lts := (hP2 K).len
        have et : sel p (stN (Stp.put b)) ts.length = [p.txt b] := by
          unfold sel
          rw [lts, List.take_of_length_le (Nat.le_refl _)]
          exact sel_txt (fun z => wf.bun (by rw [hst, z]))
        rw [et] at hD
        have sc : Same H _ := sb.trans s2
        refine ⟨D, _, 0, .str (p.txt b), rfl, rfl, SqL.of hD, atI_nat (j := 0) rfl, ?_⟩
        exact ⟨_, rfl, _, rfl, _, rfl, szl, fun t nt => q t _ (sc.trans (same_upd nt)) upd_same⟩
end
end LW
namespace LW
open PySem PySem.Spec PyProof.Rows L2 GxR
theorem SL.ne_tupl {H : Hp} {a c l : Addr} {xs : List V} (s : SL H a c) (h : H l = some (.tup xs)) : l ≠ a ∧ l ≠ c := by
  obtain ⟨n, cs, h1, h2, _⟩ := s
  exact ⟨ne_of h h1 (by intro z; cases z), ne_of h h2 (by intro z; cases z)⟩
theorem SL.ne_dk {H : Hp} {a c l : Addr} {kvs : List (Key × V)} (s : SL H a c) (h : H l = some (.dK kvs)) : l ≠ a ∧ l ≠ c := by
  obtain ⟨n, cs, h1, h2, _⟩ := s
  exact ⟨ne_of h h1 (by intro z; cases z), ne_of h h2 (by intro z; cases z)⟩
theorem PuAt.m {C a c : Addr} {p : Psh} {F : Fl} {H H' : Hp} (h : PuAt C p F H) (n : PN p a c) (s : Mv a c H H') : PuAt C p F H' := h.mv n.o n.L n.A s
def zs4 : List Int := [0, 0, 0, 1]
theorem in_hf {s : Stp} (h : inV (V.str (stN s)) [.str "has", .str "finish"] = true) : layS s = true := by
  cases s <;> first | rfl | exact absurd h (by decide +kernel) | (rename_i b; cases b <;> exact absurd h (by decide +kernel))
theorem in_ib {s : Stp} (h : inV (V.str (stN s)) [.str "image", .str "bundle"] = true) : ∃ b, s = .put b := by
  cases s <;> first | exact ⟨_, rfl⟩ | exact absurd h (by decide +kernel)
/-- the state while a reply is drawn -/
def RJ (H : Hp) (a c : Addr) (p : Psh) (d : Addr) (kd : Int) (w0 : Str) (cl up : Int) (σ : L2.St) (Hc : Hp) : Prop :=
  ∃ ad : Str, σ = [some (.ref a), some (.ref p.o), some (.ref d), some (.int kd), some (.str w0), some (.int cl), some (.int up), some (.str ad), none, none, none] ∧ PyData.strOk ad = true ∧ Mv a c H Hc ∧ SL Hc a c
def fitD (t1 t2 t3 t4 t5 t6 t7 t8 t9 : Addr) : List (Key × V) := [(.inr "open", .ref t1), (.inr "has", .ref t2), (.inr "start", .ref t3), (.inr "part", .ref t4), (.inr "finish", .ref t5), (.inr "image", .ref t6), (.inr "bundle", .ref t7), (.inr "name", .ref t8), (.inr "close", .ref t9)]
theorem tk_dk {H : Hp} {D : Addr} {kvs kvs' : List (Key × V)} (h : H D = some (.dK kvs)) : TupK H (L2.upd H D (.dK kvs')) := fun b zs e => by
  rw [upd_ne (show b ≠ D from ne_of e h (by intro z; cases z))]; exact e
theorem sl_dk' {H : Hp} {a c D : Addr} {kvs kvs' : List (Key × V)} (s : SL H a c) (h : H D = some (.dK kvs)) : SL (L2.upd H D (.dK kvs')) a c := s.eq (upd_ne (s.ne_dk h).1.symm) (upd_ne (s.ne_dk h).2.symm)
def fitT (t1 t2 t3 t4 t5 t6 t7 t8 t9 : Addr) : Stp → Addr
  | .opn => t1
  | .has => t2
  | .start => t3
  | .part => t4
  | .finish => t5
  | .put false => t6
  | .put true => t7
  | .name => t8
  | .close => t9
  | .done => t1
theorem fit_get (t1 t2 t3 t4 t5 t6 t7 t8 t9 : Addr) {s : Stp} (h : s ≠ .done) : valV (fitD t1 t2 t3 t4 t5 t6 t7 t8 t9) (.inr (stN s)) = some (.ref (fitT t1 t2 t3 t4 t5 t6 t7 t8 t9 s)) := by
  cases s <;> first | rfl | exact absurd rfl h | (rename_i b; cases b <;> rfl)
def fitR (v1 v3 up cl : Int) (k : Nat) (nm ad : Str) : Stp → Rp
  | .opn => .claim v1
  | .has => .kept ad
  | .start => .upload v3
  | .part => .have_ up k
  | .finish => .kept ad
  | .put _ => .kept ad
  | .name => .named nm ad
  | .close => .closed cl
  | .done => .malformed
theorem fit_ok {v1 v3 up cl : Int} {k : Nat} {nm ad : Str} (h1 : PyData.strOk nm = true) (h2 : PyData.strOk ad = true) (s : Stp) : (fitR v1 v3 up cl k nm ad s).ok := by
  refine Rp.ok_of ?_
  cases s
  · exact ok_i
  · exact ok_s h2
  · exact ok_i
  · intro x hx
    rcases List.mem_cons.mp hx with rfl | hx
    · exact True.intro
    · rw [List.mem_singleton.mp hx]; exact True.intro
  · exact ok_s h2
  · exact ok_s h2
  · exact ok_ss h1 h2
  · exact ok_i
  · exact fun x hx => nomatch hx
theorem fit_k {v1 v3 up cl : Int} {k : Nat} {nm ad : Str} (h : k ≤ 9) {s : Stp} {n : Int} {j : Nat} (e : fitR v1 v3 up cl k nm ad s = .have_ n j) : j ≤ 9 := by
  cases s <;> first | (injection e with _ e2; omega) | exact nomatch e
theorem upd_hp {H : Hp} {D : Addr} {kvs kvs' : List (Key × V)} (h : H D = some (.dK kvs)) : (L2.upd H D (.dK kvs')) D = some (.dK kvs') := upd_same
theorem upd_tup {H : Hp} {t : Addr} {ks : List Key} (n : H t = none) : (L2.upd H t (.tup (ks.map kV))) t = some (.tup (ks.map kV)) := upd_same
theorem upd_lst {H : Hp} {t : Addr} {xs : List V} (n : H t = none) : (L2.upd H t (.lst xs)) t = some (.lst xs) := upd_same
abbrev s_law_reply : Stmt := topS 29
abbrev N_law_reply : List Str := ["state", "pusher", "model", "kind", "step", "claim", "upload", "address", "fitting", "others", "blob"]
abbrev P_law_reply : List Str := ["state", "pusher", "model"]
theorem sc_law_reply : FnScope N_law_reply P_law_reply (defScope s_law_reply) := ⟨rfl, rfl, rfl, by decide +kernel, rfl, by decide +kernel, by decide +kernel⟩
def sp_law_reply (cP : Addr) : Sp := fun vs H Q _ => ∃ (a c : Addr) (p : Psh) (Fl : Fl) (m : Ms) (d : Addr), vs = [.ref a, .ref p.o, .ref d] ∧ SL H a c ∧ PN p a c ∧ PuAt cP p Fl H ∧ POk p ∧ Wf p m ∧ m.st ≠ .done ∧ H d = some (.dK (mdl m)) ∧ ∀ (rr : Addr) (r : Rp) H', H' rr = some (.tup (r.keys.map kV)) → r.ok → (∀ n k, r = .have_ n k → k ≤ 9) → SL H' a c → Mv a c H H' → Q (.ref rr) H'
section
variable {P : Program} {w : World} {K : PySem.W.Frag} {mg : Str → Option Value} {base : Heap} {cP : Addr}
theorem ok_law_reply {f : Addr} {fd : FuncData} (F : Fun K "_law_reply" "_law_reply" s_law_reply f fd) (T : Tx K mg cP)
    (C__law_blobs : Cal P w K mg base CX0 3 "_law_blobs" P_law_blobs (sp_law_blobs cP))
    (C__law_layer : Cal P w K mg base CX0 2 "_law_layer" P_law_layer (sp_law_layer cP))
    (C__law_take : Cal P w K mg base CX0 1 "_law_take" P_law_take spTake)
    (C__law_target : Cal P w K mg base CX0 4 "_law_target" P_law_target (sp_law_target cP))
    (C_address_of : Cal P w K mg base CX0 1 "address_of" P_address_of spAddr) : FnOk P w K mg base CX0 5 f fd P_law_reply (sp_law_reply cP) := by
  refine F.ok sc_law_reply (fun vs H Q E h => ?_) (fun cdv A outer s H vs Q E hr h => ?_)
  · obtain ⟨_, _, _, _, _, _, rfl, _⟩ := h
    rfl
  · obtain ⟨a, c, p, Fl, m, d, rfl, s0, pn, hp, ok, wf, hs⟩ := h
    have nd := sc_law_reply.nd
    have hu := hu_of hr
    refine ⟨_, pss_cons (ps_set (i := 3) nd rfl (Or.inl rfl) (pe_cal C__law_take hr (pa_cons (pv 0) (pa_cons pe_int pa_nil))))
  (pss_cons (ps_set (i := 4) nd rfl (Or.inr rfl) (pe_dget hu (pv 2) pe_str (fun _ _ => rfl)))
  (pss_cons (ps_set (i := 5) nd rfl (Or.inl rfl) (pe_op op_add (pe_dget hu (pv 2) pe_str (fun _ _ => rfl)) (pe_ix ix_list (pe_lst (pa_cons pe_int (pa_cons pe_int (pa_cons pe_int (pa_cons pe_int pa_nil))))) (pe_cal C__law_take hr (pa_cons (pv 0) (pa_cons pe_int pa_nil))) (fun _ _ => rfl))))
  (pss_cons (ps_set (i := 6) nd rfl (Or.inl rfl) (pe_op op_add (pe_dget hu (pv 2) pe_str (fun _ _ => rfl)) (pe_ix ix_list (pe_lst (pa_cons pe_int (pa_cons pe_int (pa_cons pe_int (pa_cons pe_int pa_nil))))) (pe_cal C__law_take hr (pa_cons (pv 0) (pa_cons pe_int pa_nil))) (fun _ _ => rfl))))
  (pss_cons (ps_set (i := 7) nd rfl (Or.inl rfl) pe_str)
  (C8.pss_cut (ps_if (PW.pt (pw_and (pt_cmpR op_in_seq (pv 4) (pe_lst (pa_cons pe_str (pa_cons pe_str pa_nil))) (by rfl)) (pw_and1 (pt_cmpR op_gt (pe_cal C__law_take hr (pa_cons (pv 0) (pa_cons pe_int pa_nil))) pe_int (nomark _)))))
    (pss_one (ps_set (i := 7) nd rfl (Or.inl rfl) (pe_cal C__law_layer hr (pa_cons (pv 1) (pa_cons (pv 2) pa_nil)))))
    (pss_nil))
  (C8.pss_cut (ps_if (PW.pt (pw_and (pt_cmpR op_in_seq (pv 4) (pe_lst (pa_cons pe_str (pa_cons pe_str pa_nil))) (by rfl)) (pw_and1 (pt_cmpR op_gt (pe_cal C__law_take hr (pa_cons (pv 0) (pa_cons pe_int pa_nil))) pe_int (nomark _)))))
    (pss_one (ps_set (i := 7) nd rfl (Or.inl rfl) (pe_cal C_address_of hr (pa_cons (pv 4) (pa_cons (pe_ix ix_list (pe_lc (own := [("blob", 10)]) (g := gName 10)  rfl nd (pi_list (pe_cal C__law_blobs hr (pa_cons (pv 1) pa_nil))) (blkOk_by (N := N_law_reply) (sc := defScope s_law_reply) (by decide +kernel)) (fun _ _ _ _ _ => (pg_name (i := 10) nd rfl (Or.inl rfl))) (fun _ _ _ _ _ => (pts_one (pt_cmpR op_eq (pe_ix (show IxR _ (rIxT K) from ix_tup) (pv 10) pe_int (fun _ _ => rfl)) (pv 4) (nomark _)))) (fun _ _ _ _ _ => (pe_ix (show IxR _ (rIxT K) from ix_tup) (pv 10) pe_int (fun _ _ => rfl)))) pe_int (fun _ _ => rfl)) pa_nil)))))
    (pss_nil))
  (C8.pss_cut (ps_if (PW.pt (pw_and (pt_cmpR op_eq (pv 4) pe_str (nomark _)) (pw_and1 (pt_cmpR op_gt (pe_cal C__law_take hr (pa_cons (pv 0) (pa_cons pe_int pa_nil))) pe_int (nomark _)))))
    (pss_one (ps_set (i := 7) nd rfl (Or.inl rfl) (pe_cal C__law_target hr (pa_cons (pv 1) pa_nil))))
    (pss_nil))
  (pss_cons (ps_set (i := 8) nd rfl (Or.inl rfl) (pe_disp (pps_cons pe_str (pe_tup (pa_cons pe_str (pa_cons (pe_op op_add pe_int (pe_cal C__law_take hr (pa_cons (pv 0) (pa_cons pe_int pa_nil)))) pa_nil))) (pps_cons pe_str (pe_tup (pa_cons pe_str (pa_cons (pv 7) pa_nil))) (pps_cons pe_str (pe_tup (pa_cons pe_str (pa_cons (pe_op op_add pe_int (pe_cal C__law_take hr (pa_cons (pv 0) (pa_cons pe_int pa_nil)))) pa_nil))) pps_nil))) (by rfl) (by rfl) (fun z => by cases z) (by decide)))
  (pss_cons (ps_dput hu (pv 8) pe_str (pe_tup (pa_cons pe_str (pa_cons (pv 6) (pa_cons (pe_callB (call_min2 rfl) (by rfl) T.min (by decide +kernel) (pa_cons (pe_op op_sub (pe_op op_add (pe_dget hu (pv 2) pe_str (fun _ _ => rfl)) pe_int) (pe_cal C__law_take hr (pa_cons (pv 0) (pa_cons pe_int pa_nil)))) (pa_cons pe_int pa_nil))) pa_nil)))) rfl)
  (pss_cons (ps_dput hu (pv 8) pe_str (pe_tup (pa_cons pe_str (pa_cons (pv 7) pa_nil))) rfl)
  (pss_cons (ps_dput hu (pv 8) pe_str (pe_tup (pa_cons pe_str (pa_cons (pv 7) pa_nil))) rfl)
  (pss_cons (ps_dput hu (pv 8) pe_str (pe_tup (pa_cons pe_str (pa_cons (pv 7) pa_nil))) rfl)
  (pss_cons (ps_dput hu (pv 8) pe_str (pe_tup (pa_cons pe_str (pa_cons (pe_fld (pv 1) rfl) (pa_cons (pv 7) pa_nil)))) rfl)
  (pss_cons (ps_dput hu (pv 8) pe_str (pe_tup (pa_cons pe_str (pa_cons (pv 5) pa_nil))) rfl)
  (pss_cons (ps_if (pt_cmpR op_lt (pv 3) pe_int (nomark _))
    (pss_one (ps_ret (pe_dget2 hu (pv 8) (pv 4) (pe_tup (pa_cons pe_str pa_nil)) ⟨rfl, rfl, rfl, rfl⟩)))
    (pss_nil))
  (pss_cons (ps_set (i := 9) nd rfl (Or.inl rfl) (pe_lst (pa_cons (pe_tup (pa_cons pe_str (pa_cons (pv 7) pa_nil))) (pa_cons (pe_tup (pa_cons pe_str (pa_cons (pv 6) pa_nil))) (pa_cons (pe_tup (pa_cons pe_str (pa_cons (pv 7) pa_nil))) (pa_cons (pe_tup (pa_cons pe_str (pa_cons (pv 5) pa_nil))) (pa_cons (pe_tup (pa_cons pe_str pa_nil)) pa_nil)))))))
  (pss_cons (ps_set (i := 9) nd rfl (Or.inl rfl) (pe_op op_cat (pv 9) (pe_lst (pa_cons (pe_tup (pa_cons pe_str (pa_cons (pv 7) pa_nil))) (pa_cons (pe_tup (pa_cons pe_str (pa_cons (pv 7) pa_nil))) (pa_cons (pe_tup (pa_cons pe_str (pa_cons pe_str (pa_cons (pv 7) pa_nil)))) pa_nil))))))
  (pss_one (ps_ret (pe_ix ix_list (pv 9) (pe_op op_sub (pv 3) pe_int) (fun _ _ => rfl))))))))))))))))))))), ?_⟩

    obtain ⟨hSt, hd, q⟩ := hs
    have nd2 := SL.ne_dk s0 hd
    refine ⟨_, rfl, a, c, 20, rfl, s0, by decide, by decide, fun kd Ha k0 k20 ea sa => ?_⟩
    have mv0 := Mv.trans (Mv.refl a c H) (Mv.take s0 sa ea)
    refine ⟨_, rfl, d, _, rfl, dg_step (Mv.keep mv0 _ _ nd2.1 nd2.2 hd), ?_⟩
    refine ⟨_, rfl, d, _, rfl, dg_claim (Mv.keep mv0 _ _ nd2.1 nd2.2 hd), szl, fun l1 n1 => ?_⟩
    have hq1 := SL.ne sa n1
    have u1 := same_upd n1 (o := .lst (zs4.map V.int))
    have sl1 := SL.same sa u1
    have mv1 := Mv.trans mv0 (Mv.same u1)
    refine ⟨_, rfl, a, c, 4, rfl, sl1, by decide, by decide, fun v1 H1 v10 v14 e1 s1 => ?_⟩
    have mv2 := Mv.trans mv1 (Mv.take sl1 s1 e1)
    obtain ⟨j1, rfl, hj1⟩ := nat_of v10 v14
    have hjl1 : j1 < zs4.length := by show j1 < 4; omega
    refine ⟨l1, zs4.map V.int, _, .int zs4[j1], rfl, rfl, SqL.of ((e1 _ hq1.1 hq1.2).trans upd_same), atI_nat (by rw [List.getElem?_map, List.getElem?_eq_getElem hjl1]; rfl), _, _, rfl, rfl, ?_⟩
    refine ⟨_, rfl, d, _, rfl, dg_upload (Mv.keep mv2 _ _ nd2.1 nd2.2 hd), szl, fun l2 n2 => ?_⟩
    have hq2 := SL.ne s1 n2
    have u3 := same_upd n2 (o := .lst (zs4.map V.int))
    have sl3 := SL.same s1 u3
    have mv3 := Mv.trans mv2 (Mv.same u3)
    refine ⟨_, rfl, a, c, 4, rfl, sl3, by decide, by decide, fun v2 H2 v20 v24 e2 s2 => ?_⟩
    have mv4 := Mv.trans mv3 (Mv.take sl3 s2 e2)
    obtain ⟨j2, rfl, hj2⟩ := nat_of v20 v24
    have hjl2 : j2 < zs4.length := by show j2 < 4; omega
    refine ⟨l2, zs4.map V.int, _, .int zs4[j2], rfl, rfl, SqL.of ((e2 _ hq2.1 hq2.2).trans upd_same), atI_nat (by rw [List.getElem?_map, List.getElem?_eq_getElem hjl2]; rfl), _, _, rfl, rfl, ?_⟩
    obtain ⟨w0, hw0⟩ : ∃ w0, w0 = stN m.st := ⟨_, rfl⟩
    rw [← hw0]
    refine ⟨RJ H a c p d kd w0 (m.cl + zs4[j1]) (m.up + zs4[j2]), ?_, ?_⟩
    · have had : PyData.strOk "0123456789abcdef" = true := by decide +kernel
      have sl := s2
      have mv := mv4
      obtain ⟨ad, ead⟩ : ∃ ad : Str, ad = "0123456789abcdef" := ⟨_, rfl⟩
      rw [← ead] at had ⊢
      refine ⟨_, rfl, szl, fun l n => ⟨l, _, rfl, .inl (SqL.of upd_same), rfl, rfl, _, rfl, ?_⟩⟩
      have u0 := same_upd n (o := .lst [.str "has", .str "finish"])
      have sl0 := SL.same sl u0
      have mv0 := Mv.trans mv (Mv.same u0)
      rw [if_neg Bool.false_ne_true]
      cases hin : inV (V.str w0) [.str "has", .str "finish"] with
      | false => exact iteF (iteF ⟨ad, rfl, had, mv0, sl0⟩)
      | true =>
        have hlay := in_hf (by rw [← hw0]; exact hin)
        refine iteT ⟨_, rfl, a, c, 6, rfl, sl0, by decide, by decide, fun v5 H5 v50 v56 e5 s5 => ⟨_, _, rfl, rfl, _, rfl, ite2 (fun _ => ?_) (fun _ => ?_)⟩⟩
        · have mv5 := Mv.trans mv0 (Mv.take sl0 s5 e5)
          exact ⟨_, rfl, _, rfl, p, Fl, m, d, rfl, hp.m pn mv5, mv5.keep _ _ nd2.1 nd2.2 hd, wf.pl hlay, _, rfl, la_ok _ _, mv5, s5⟩
        · exact ⟨ad, rfl, had, Mv.trans mv0 (Mv.take sl0 s5 e5), s5⟩
    rintro σ' Hx ⟨ad, rfl, had, mv, sl⟩
    refine ⟨RJ H a c p d kd w0 (m.cl + zs4[j1]) (m.up + zs4[j2]), ?_, ?_⟩
    · skip
      refine ⟨_, rfl, szl, fun l n => ⟨l, _, rfl, .inl (SqL.of upd_same), rfl, rfl, _, rfl, ?_⟩⟩
      have u0 := same_upd n (o := .lst [.str "image", .str "bundle"])
      have sl0 := SL.same sl u0
      have mv0 := Mv.trans mv (Mv.same u0)
      rw [if_neg Bool.false_ne_true]
      cases hin : inV (V.str w0) [.str "image", .str "bundle"] with
      | false => exact iteF (iteF ⟨ad, rfl, had, mv0, sl0⟩)
      | true =>
        obtain ⟨b, hb⟩ := in_ib (by rw [← hw0]; exact hin)
        have hwb : w0 = word b := by rw [hw0, hb]; rfl
        refine iteT ⟨_, rfl, a, c, 6, rfl, sl0, by decide, by decide, fun v5 H5 v50 v56 e5 s5 => ⟨_, _, rfl, rfl, _, rfl, ite2 (fun _ => ?_) (fun _ => ?_)⟩⟩
        · have mv5 := Mv.trans mv0 (Mv.take sl0 s5 e5)
          have hp5 := hp.m pn mv5
          have wk := word_kind b
          have i5 : Same H5 H5 := fun _ _ e => e
          refine ⟨_, rfl, _, rfl, p, Fl, rfl, hp5, ok, fun l ts H1 s1 nl hl hP => ⟨l, rfl, ⟨_, SqL.of hl⟩, fun D nD => ?_⟩⟩
          have sb : Same H5 _ := Same.trans i5 s1
          show ∃ W : Nat → Nat → Hp → Prop, _
          refine lc_list (K := K) (a := l) (xs := ts) (fun i H' => Same H1 H' ∧ H' D = some (.lst ((sel p w0 i).map V.str))) ⟨same_upd nD, upd_same⟩ (fun i H' _ h => SqL.of (h.1 _ _ hl)) ?_ ?_
          · rintro i x H' hx' ⟨s', hA⟩
            obtain ⟨e, t, he, rfl, ht⟩ := (hP K).get hx'
            have hi : i < (blobs p).length := (List.getElem?_eq_some_iff.mp he).1
            have hb5 := blobs_len p ok
            have ht' := s' _ _ ht
            refine ⟨rfl, _, rfl, t, _, 0, .str e.1, rfl, rfl, SqT.of ht', atI_nat (j := 0) rfl, _, rfl, rfl, _, rfl, ?_⟩
            rw [dec_str]
            by_cases hw : e.1 = w0
            · rw [decide_eq_true hw]
              refine iteT ⟨_, rfl, t, _, 1, .str e.2, rfl, rfl, SqT.of ht', atI_nat (j := 1) rfl, _, hA, ?_, ?_, ?_⟩
              · rw [List.length_map]
                exact Nat.lt_of_le_of_lt (show (sel p w0 i).length ≤ 5 by have := sel_le p w0 i; omega) (by decide)
              · exact fun b v e => by
                  by_cases hb : b = D
                  · rw [hb, nD] at e; cases e
                  · rw [upd_ne hb]; exact s' b v e
              · rw [upd_same, sel_yes he hw, List.map_append]; rfl
            · rw [decide_eq_false hw]
              refine iteF ⟨s', ?_⟩
              rw [sel_skip he hw]; exact hA
          rintro H2 ⟨s2, hD⟩
          have lts := (hP K).len
          have et : sel p w0 ts.length = [p.txt b] := by
            rw [hwb]
            unfold sel
            rw [lts, List.take_of_length_le (Nat.le_refl _)]
            exact sel_txt (fun z => wf.bun (by rw [hb, z]))
          rw [et] at hD
          have sc : Same H5 _ := sb.trans s2
          refine ⟨D, _, 0, .str (p.txt b), rfl, rfl, SqL.of hD, atI_nat (j := 0) rfl, ?_⟩
          exact ⟨word b, p.txt b, if b then 2 else 1, by rw [hwb]; rfl, wk.1, wk.2, _, rfl, adOf_ok _ _, mv5.trans (Mv.same sc), s5.same sc⟩
        · exact ⟨ad, rfl, had, Mv.trans mv0 (Mv.take sl0 s5 e5), s5⟩
    rintro σ' Hy ⟨ad, rfl, had, mv, sl⟩
    refine ⟨RJ H a c p d kd w0 (m.cl + zs4[j1]) (m.up + zs4[j2]), ?_, ?_⟩
    · skip
      refine ⟨_, rfl, rfl, _, rfl, ?_⟩
      rw [dec_str]
      by_cases hn : w0 = "name"
      · rw [decide_eq_true hn]
        refine iteT ⟨_, rfl, a, c, 6, rfl, sl, by decide, by decide, fun v5 H5 v50 v56 e5 s5 => ⟨_, _, rfl, rfl, _, rfl, ite2 (fun _ => ?_) (fun _ => ?_)⟩⟩
        · have mv5 := Mv.trans mv (Mv.take sl s5 e5)
          refine ⟨_, rfl, p, Fl, rfl, hp.m pn mv5, ok, fun H6 s6 => ⟨_, rfl, ?_, mv5.trans (Mv.same s6), s5.same s6⟩⟩
          unfold Psh.tgt
          split <;> exact adOf_ok _ _
        · exact ⟨ad, rfl, had, Mv.trans mv (Mv.take sl s5 e5), s5⟩
      · rw [decide_eq_false hn]
        exact iteF (iteF ⟨ad, rfl, had, mv, sl⟩)
    rintro σ' Hz ⟨ad, rfl, had, mv, sl⟩
    refine fun D nD => ?_
    have D0 := Mv.free mv D nD
    have u20 := same_upd nD (o := .dK [])
    have sl20 := SL.same sl u20
    have mv20 := Mv.trans mv (Mv.same u20)
    have hD : (L2.upd Hz D (.dK [])) D = some (.dK []) := upd_same
    refine ⟨_, rfl, a, c, 9, rfl, sl20, by decide, by decide, fun v1 H1 v10 v19 e1 s1 => ⟨_, _, rfl, rfl, szl, fun t1 n1 => ?_⟩⟩
    have hD := (e1 _ (SL.ne_dk sl20 hD).1 (SL.ne_dk sl20 hD).2).trans hD
    have mv21 := Mv.trans mv20 (Mv.take sl20 s1 e1)
    have u22 := same_upd n1 (o := .tup ((Rp.claim (1 + v1)).keys.map kV))
    have sl22 := SL.same s1 u22
    have mv22 := Mv.trans mv21 (Mv.same u22)
    have hD := u22 _ _ hD
    have f1 := upd_tup n1 (ks := (Rp.claim (1 + v1)).keys)
    refine ⟨_, rfl, szl, fun t2 n2 => ?_⟩
    have u23 := same_upd n2 (o := .tup ((Rp.kept ad).keys.map kV))
    have sl23 := SL.same sl22 u23
    have mv23 := Mv.trans mv22 (Mv.same u23)
    have hD := u23 _ _ hD
    have f1 := u23 _ _ f1
    have f2 := upd_tup n2 (ks := (Rp.kept ad).keys)
    refine ⟨_, rfl, a, c, 9, rfl, sl23, by decide, by decide, fun v3 H3 v30 v39 e3 s3 => ⟨_, _, rfl, rfl, szl, fun t3 n3 => ?_⟩⟩
    have hD := (e3 _ (SL.ne_dk sl23 hD).1 (SL.ne_dk sl23 hD).2).trans hD
    have f1 := (e3 _ (SL.ne_tupl sl23 f1).1 (SL.ne_tupl sl23 f1).2).trans f1
    have f2 := (e3 _ (SL.ne_tupl sl23 f2).1 (SL.ne_tupl sl23 f2).2).trans f2
    have mv24 := Mv.trans mv23 (Mv.take sl23 s3 e3)
    have u25 := same_upd n3 (o := .tup ((Rp.upload (1 + v3)).keys.map kV))
    have sl25 := SL.same s3 u25
    have mv25 := Mv.trans mv24 (Mv.same u25)
    have hD := u25 _ _ hD
    have f1 := u25 _ _ f1
    have f2 := u25 _ _ f2
    have f3 := upd_tup n3 (ks := (Rp.upload (1 + v3)).keys)
    refine ⟨hD, [(.inr "open", .ref t1), (.inr "has", .ref t2), (.inr "start", .ref t3)], rfl, (by show 3 ≤ 15; decide), ?_⟩
    rw [show mergeK [] ([(.inr "open", .ref t1), (.inr "has", .ref t2), (.inr "start", .ref t3)] : List (Key × V)) = ([(.inr "open", .ref t1), (.inr "has", .ref t2), (.inr "start", .ref t3)] : List (Key × V)) from rfl]
    have f1 := tk_dk (kvs' := [(.inr "open", .ref t1), (.inr "has", .ref t2), (.inr "start", .ref t3)]) hD _ _ f1
    have f2 := tk_dk (kvs' := [(.inr "open", .ref t1), (.inr "has", .ref t2), (.inr "start", .ref t3)]) hD _ _ f2
    have f3 := tk_dk (kvs' := [(.inr "open", .ref t1), (.inr "has", .ref t2), (.inr "start", .ref t3)]) hD _ _ f3
    have sl26 := sl_dk' (kvs' := [(.inr "open", .ref t1), (.inr "has", .ref t2), (.inr "start", .ref t3)]) sl25 hD
    have mv26 := Mv.new (p := D) (o := .dK [(.inr "open", .ref t1), (.inr "has", .ref t2), (.inr "start", .ref t3)]) mv25 D0
    have hD := upd_hp (kvs' := [(.inr "open", .ref t1), (.inr "has", .ref t2), (.inr "start", .ref t3)]) hD
    refine ⟨_, rfl, _, rfl, d, _, rfl, dg_at (Mv.keep mv26 _ _ nd2.1 nd2.2 hd), _, _, rfl, rfl, _, rfl, a, c, 2, rfl, sl26, by decide, by decide, fun v4 H4 v40 v42 e4 s4 => ⟨_, _, rfl, rfl, _, _, rfl, szl, fun t4 n4 => ?_⟩⟩
    have hD := (e4 _ (SL.ne_dk sl26 hD).1 (SL.ne_dk sl26 hD).2).trans hD
    have f1 := (e4 _ (SL.ne_tupl sl26 f1).1 (SL.ne_tupl sl26 f1).2).trans f1
    have f2 := (e4 _ (SL.ne_tupl sl26 f2).1 (SL.ne_tupl sl26 f2).2).trans f2
    have f3 := (e4 _ (SL.ne_tupl sl26 f3).1 (SL.ne_tupl sl26 f3).2).trans f3
    have mv27 := Mv.trans mv26 (Mv.take sl26 s4 e4)
    have hat := wf.at_
    obtain ⟨k4, hk4, hk49⟩ : ∃ k4 : Nat, (if (9 : Int) < (m.at_ : Int) + 4 - v4 then (9 : Int) else (m.at_ : Int) + 4 - v4) = (k4 : Int) ∧ k4 ≤ 9 := by
      by_cases h : (9 : Int) < (m.at_ : Int) + 4 - v4
      · exact ⟨9, by rw [if_pos h]; rfl, Nat.le_refl _⟩
      · exact ⟨((m.at_ : Int) + 4 - v4).toNat, by rw [if_neg h]; omega, by omega⟩
    dsimp only
    rw [hk4]
    have u28 := same_upd n4 (o := .tup ((Rp.have_ (m.up + zs4[j2]) k4).keys.map kV))
    have sl28 := SL.same s4 u28
    have mv28 := Mv.trans mv27 (Mv.same u28)
    have hD := u28 _ _ hD
    have f1 := u28 _ _ f1
    have f2 := u28 _ _ f2
    have f3 := u28 _ _ f3
    have f4 := upd_tup n4 (ks := (Rp.have_ (m.up + zs4[j2]) k4).keys)
    refine ⟨_, rfl, D, _, rfl, DPut.k (k := .inr "part") hD (by show 3 < sizeLine; decide), ?_⟩
    rw [show putK ([(.inr "open", .ref t1), (.inr "has", .ref t2), (.inr "start", .ref t3)] : List (Key × V)) (.inr "part") (.ref t4) = ([(.inr "open", .ref t1), (.inr "has", .ref t2), (.inr "start", .ref t3), (.inr "part", .ref t4)] : List (Key × V)) from rfl]
    have f1 := tk_dk (kvs' := [(.inr "open", .ref t1), (.inr "has", .ref t2), (.inr "start", .ref t3), (.inr "part", .ref t4)]) hD _ _ f1
    have f2 := tk_dk (kvs' := [(.inr "open", .ref t1), (.inr "has", .ref t2), (.inr "start", .ref t3), (.inr "part", .ref t4)]) hD _ _ f2
    have f3 := tk_dk (kvs' := [(.inr "open", .ref t1), (.inr "has", .ref t2), (.inr "start", .ref t3), (.inr "part", .ref t4)]) hD _ _ f3
    have f4 := tk_dk (kvs' := [(.inr "open", .ref t1), (.inr "has", .ref t2), (.inr "start", .ref t3), (.inr "part", .ref t4)]) hD _ _ f4
    have sl29 := sl_dk' (kvs' := [(.inr "open", .ref t1), (.inr "has", .ref t2), (.inr "start", .ref t3), (.inr "part", .ref t4)]) sl28 hD
    have mv29 := Mv.new (p := D) (o := .dK [(.inr "open", .ref t1), (.inr "has", .ref t2), (.inr "start", .ref t3), (.inr "part", .ref t4)]) mv28 D0
    have hD := upd_hp (kvs' := [(.inr "open", .ref t1), (.inr "has", .ref t2), (.inr "start", .ref t3), (.inr "part", .ref t4)]) hD
    refine ⟨_, rfl, szl, fun t5 n5 => ?_⟩
    have u30 := same_upd n5 (o := .tup ((Rp.kept ad).keys.map kV))
    have sl30 := SL.same sl29 u30
    have mv30 := Mv.trans mv29 (Mv.same u30)
    have hD := u30 _ _ hD
    have f1 := u30 _ _ f1
    have f2 := u30 _ _ f2
    have f3 := u30 _ _ f3
    have f4 := u30 _ _ f4
    have f5 := upd_tup n5 (ks := (Rp.kept ad).keys)
    refine ⟨_, rfl, D, _, rfl, DPut.k (k := .inr "finish") hD (by show 4 < sizeLine; decide), ?_⟩
    rw [show putK ([(.inr "open", .ref t1), (.inr "has", .ref t2), (.inr "start", .ref t3), (.inr "part", .ref t4)] : List (Key × V)) (.inr "finish") (.ref t5) = ([(.inr "open", .ref t1), (.inr "has", .ref t2), (.inr "start", .ref t3), (.inr "part", .ref t4), (.inr "finish", .ref t5)] : List (Key × V)) from rfl]
    have f1 := tk_dk (kvs' := [(.inr "open", .ref t1), (.inr "has", .ref t2), (.inr "start", .ref t3), (.inr "part", .ref t4), (.inr "finish", .ref t5)]) hD _ _ f1
    have f2 := tk_dk (kvs' := [(.inr "open", .ref t1), (.inr "has", .ref t2), (.inr "start", .ref t3), (.inr "part", .ref t4), (.inr "finish", .ref t5)]) hD _ _ f2
    have f3 := tk_dk (kvs' := [(.inr "open", .ref t1), (.inr "has", .ref t2), (.inr "start", .ref t3), (.inr "part", .ref t4), (.inr "finish", .ref t5)]) hD _ _ f3
    have f4 := tk_dk (kvs' := [(.inr "open", .ref t1), (.inr "has", .ref t2), (.inr "start", .ref t3), (.inr "part", .ref t4), (.inr "finish", .ref t5)]) hD _ _ f4
    have f5 := tk_dk (kvs' := [(.inr "open", .ref t1), (.inr "has", .ref t2), (.inr "start", .ref t3), (.inr "part", .ref t4), (.inr "finish", .ref t5)]) hD _ _ f5
    have sl31 := sl_dk' (kvs' := [(.inr "open", .ref t1), (.inr "has", .ref t2), (.inr "start", .ref t3), (.inr "part", .ref t4), (.inr "finish", .ref t5)]) sl30 hD
    have mv31 := Mv.new (p := D) (o := .dK [(.inr "open", .ref t1), (.inr "has", .ref t2), (.inr "start", .ref t3), (.inr "part", .ref t4), (.inr "finish", .ref t5)]) mv30 D0
    have hD := upd_hp (kvs' := [(.inr "open", .ref t1), (.inr "has", .ref t2), (.inr "start", .ref t3), (.inr "part", .ref t4), (.inr "finish", .ref t5)]) hD
    refine ⟨_, rfl, szl, fun t6 n6 => ?_⟩
    have u32 := same_upd n6 (o := .tup ((Rp.kept ad).keys.map kV))
    have sl32 := SL.same sl31 u32
    have mv32 := Mv.trans mv31 (Mv.same u32)
    have hD := u32 _ _ hD
    have f1 := u32 _ _ f1
    have f2 := u32 _ _ f2
    have f3 := u32 _ _ f3
    have f4 := u32 _ _ f4
    have f5 := u32 _ _ f5
    have f6 := upd_tup n6 (ks := (Rp.kept ad).keys)
    refine ⟨_, rfl, D, _, rfl, DPut.k (k := .inr "image") hD (by show 5 < sizeLine; decide), ?_⟩
    rw [show putK ([(.inr "open", .ref t1), (.inr "has", .ref t2), (.inr "start", .ref t3), (.inr "part", .ref t4), (.inr "finish", .ref t5)] : List (Key × V)) (.inr "image") (.ref t6) = ([(.inr "open", .ref t1), (.inr "has", .ref t2), (.inr "start", .ref t3), (.inr "part", .ref t4), (.inr "finish", .ref t5), (.inr "image", .ref t6)] : List (Key × V)) from rfl]
    have f1 := tk_dk (kvs' := [(.inr "open", .ref t1), (.inr "has", .ref t2), (.inr "start", .ref t3), (.inr "part", .ref t4), (.inr "finish", .ref t5), (.inr "image", .ref t6)]) hD _ _ f1
    have f2 := tk_dk (kvs' := [(.inr "open", .ref t1), (.inr "has", .ref t2), (.inr "start", .ref t3), (.inr "part", .ref t4), (.inr "finish", .ref t5), (.inr "image", .ref t6)]) hD _ _ f2
    have f3 := tk_dk (kvs' := [(.inr "open", .ref t1), (.inr "has", .ref t2), (.inr "start", .ref t3), (.inr "part", .ref t4), (.inr "finish", .ref t5), (.inr "image", .ref t6)]) hD _ _ f3
    have f4 := tk_dk (kvs' := [(.inr "open", .ref t1), (.inr "has", .ref t2), (.inr "start", .ref t3), (.inr "part", .ref t4), (.inr "finish", .ref t5), (.inr "image", .ref t6)]) hD _ _ f4
    have f5 := tk_dk (kvs' := [(.inr "open", .ref t1), (.inr "has", .ref t2), (.inr "start", .ref t3), (.inr "part", .ref t4), (.inr "finish", .ref t5), (.inr "image", .ref t6)]) hD _ _ f5
    have f6 := tk_dk (kvs' := [(.inr "open", .ref t1), (.inr "has", .ref t2), (.inr "start", .ref t3), (.inr "part", .ref t4), (.inr "finish", .ref t5), (.inr "image", .ref t6)]) hD _ _ f6
    have sl33 := sl_dk' (kvs' := [(.inr "open", .ref t1), (.inr "has", .ref t2), (.inr "start", .ref t3), (.inr "part", .ref t4), (.inr "finish", .ref t5), (.inr "image", .ref t6)]) sl32 hD
    have mv33 := Mv.new (p := D) (o := .dK [(.inr "open", .ref t1), (.inr "has", .ref t2), (.inr "start", .ref t3), (.inr "part", .ref t4), (.inr "finish", .ref t5), (.inr "image", .ref t6)]) mv32 D0
    have hD := upd_hp (kvs' := [(.inr "open", .ref t1), (.inr "has", .ref t2), (.inr "start", .ref t3), (.inr "part", .ref t4), (.inr "finish", .ref t5), (.inr "image", .ref t6)]) hD
    refine ⟨_, rfl, szl, fun t7 n7 => ?_⟩
    have u34 := same_upd n7 (o := .tup ((Rp.kept ad).keys.map kV))
    have sl34 := SL.same sl33 u34
    have mv34 := Mv.trans mv33 (Mv.same u34)
    have hD := u34 _ _ hD
    have f1 := u34 _ _ f1
    have f2 := u34 _ _ f2
    have f3 := u34 _ _ f3
    have f4 := u34 _ _ f4
    have f5 := u34 _ _ f5
    have f6 := u34 _ _ f6
    have f7 := upd_tup n7 (ks := (Rp.kept ad).keys)
    refine ⟨_, rfl, D, _, rfl, DPut.k (k := .inr "bundle") hD (by show 6 < sizeLine; decide), ?_⟩
    rw [show putK ([(.inr "open", .ref t1), (.inr "has", .ref t2), (.inr "start", .ref t3), (.inr "part", .ref t4), (.inr "finish", .ref t5), (.inr "image", .ref t6)] : List (Key × V)) (.inr "bundle") (.ref t7) = ([(.inr "open", .ref t1), (.inr "has", .ref t2), (.inr "start", .ref t3), (.inr "part", .ref t4), (.inr "finish", .ref t5), (.inr "image", .ref t6), (.inr "bundle", .ref t7)] : List (Key × V)) from rfl]
    have f1 := tk_dk (kvs' := [(.inr "open", .ref t1), (.inr "has", .ref t2), (.inr "start", .ref t3), (.inr "part", .ref t4), (.inr "finish", .ref t5), (.inr "image", .ref t6), (.inr "bundle", .ref t7)]) hD _ _ f1
    have f2 := tk_dk (kvs' := [(.inr "open", .ref t1), (.inr "has", .ref t2), (.inr "start", .ref t3), (.inr "part", .ref t4), (.inr "finish", .ref t5), (.inr "image", .ref t6), (.inr "bundle", .ref t7)]) hD _ _ f2
    have f3 := tk_dk (kvs' := [(.inr "open", .ref t1), (.inr "has", .ref t2), (.inr "start", .ref t3), (.inr "part", .ref t4), (.inr "finish", .ref t5), (.inr "image", .ref t6), (.inr "bundle", .ref t7)]) hD _ _ f3
    have f4 := tk_dk (kvs' := [(.inr "open", .ref t1), (.inr "has", .ref t2), (.inr "start", .ref t3), (.inr "part", .ref t4), (.inr "finish", .ref t5), (.inr "image", .ref t6), (.inr "bundle", .ref t7)]) hD _ _ f4
    have f5 := tk_dk (kvs' := [(.inr "open", .ref t1), (.inr "has", .ref t2), (.inr "start", .ref t3), (.inr "part", .ref t4), (.inr "finish", .ref t5), (.inr "image", .ref t6), (.inr "bundle", .ref t7)]) hD _ _ f5
    have f6 := tk_dk (kvs' := [(.inr "open", .ref t1), (.inr "has", .ref t2), (.inr "start", .ref t3), (.inr "part", .ref t4), (.inr "finish", .ref t5), (.inr "image", .ref t6), (.inr "bundle", .ref t7)]) hD _ _ f6
    have f7 := tk_dk (kvs' := [(.inr "open", .ref t1), (.inr "has", .ref t2), (.inr "start", .ref t3), (.inr "part", .ref t4), (.inr "finish", .ref t5), (.inr "image", .ref t6), (.inr "bundle", .ref t7)]) hD _ _ f7
    have sl35 := sl_dk' (kvs' := [(.inr "open", .ref t1), (.inr "has", .ref t2), (.inr "start", .ref t3), (.inr "part", .ref t4), (.inr "finish", .ref t5), (.inr "image", .ref t6), (.inr "bundle", .ref t7)]) sl34 hD
    have mv35 := Mv.new (p := D) (o := .dK [(.inr "open", .ref t1), (.inr "has", .ref t2), (.inr "start", .ref t3), (.inr "part", .ref t4), (.inr "finish", .ref t5), (.inr "image", .ref t6), (.inr "bundle", .ref t7)]) mv34 D0
    have hD := upd_hp (kvs' := [(.inr "open", .ref t1), (.inr "has", .ref t2), (.inr "start", .ref t3), (.inr "part", .ref t4), (.inr "finish", .ref t5), (.inr "image", .ref t6), (.inr "bundle", .ref t7)]) hD
    have hpn := hp.m pn mv35
    refine ⟨_, rfl, p.o, cP, p.dx, _, _, rfl, hpn.ob, T.clP, T.nname, rfl, _, rfl, szl, fun t8 n8 => ?_⟩
    have u36 := same_upd n8 (o := .tup ((Rp.named p.nm ad).keys.map kV))
    have sl36 := SL.same sl35 u36
    have mv36 := Mv.trans mv35 (Mv.same u36)
    have hD := u36 _ _ hD
    have f1 := u36 _ _ f1
    have f2 := u36 _ _ f2
    have f3 := u36 _ _ f3
    have f4 := u36 _ _ f4
    have f5 := u36 _ _ f5
    have f6 := u36 _ _ f6
    have f7 := u36 _ _ f7
    have f8 := upd_tup n8 (ks := (Rp.named p.nm ad).keys)
    refine ⟨_, rfl, D, _, rfl, DPut.k (k := .inr "name") hD (by show 7 < sizeLine; decide), ?_⟩
    rw [show putK ([(.inr "open", .ref t1), (.inr "has", .ref t2), (.inr "start", .ref t3), (.inr "part", .ref t4), (.inr "finish", .ref t5), (.inr "image", .ref t6), (.inr "bundle", .ref t7)] : List (Key × V)) (.inr "name") (.ref t8) = ([(.inr "open", .ref t1), (.inr "has", .ref t2), (.inr "start", .ref t3), (.inr "part", .ref t4), (.inr "finish", .ref t5), (.inr "image", .ref t6), (.inr "bundle", .ref t7), (.inr "name", .ref t8)] : List (Key × V)) from rfl]
    have f1 := tk_dk (kvs' := [(.inr "open", .ref t1), (.inr "has", .ref t2), (.inr "start", .ref t3), (.inr "part", .ref t4), (.inr "finish", .ref t5), (.inr "image", .ref t6), (.inr "bundle", .ref t7), (.inr "name", .ref t8)]) hD _ _ f1
    have f2 := tk_dk (kvs' := [(.inr "open", .ref t1), (.inr "has", .ref t2), (.inr "start", .ref t3), (.inr "part", .ref t4), (.inr "finish", .ref t5), (.inr "image", .ref t6), (.inr "bundle", .ref t7), (.inr "name", .ref t8)]) hD _ _ f2
    have f3 := tk_dk (kvs' := [(.inr "open", .ref t1), (.inr "has", .ref t2), (.inr "start", .ref t3), (.inr "part", .ref t4), (.inr "finish", .ref t5), (.inr "image", .ref t6), (.inr "bundle", .ref t7), (.inr "name", .ref t8)]) hD _ _ f3
    have f4 := tk_dk (kvs' := [(.inr "open", .ref t1), (.inr "has", .ref t2), (.inr "start", .ref t3), (.inr "part", .ref t4), (.inr "finish", .ref t5), (.inr "image", .ref t6), (.inr "bundle", .ref t7), (.inr "name", .ref t8)]) hD _ _ f4
    have f5 := tk_dk (kvs' := [(.inr "open", .ref t1), (.inr "has", .ref t2), (.inr "start", .ref t3), (.inr "part", .ref t4), (.inr "finish", .ref t5), (.inr "image", .ref t6), (.inr "bundle", .ref t7), (.inr "name", .ref t8)]) hD _ _ f5
    have f6 := tk_dk (kvs' := [(.inr "open", .ref t1), (.inr "has", .ref t2), (.inr "start", .ref t3), (.inr "part", .ref t4), (.inr "finish", .ref t5), (.inr "image", .ref t6), (.inr "bundle", .ref t7), (.inr "name", .ref t8)]) hD _ _ f6
    have f7 := tk_dk (kvs' := [(.inr "open", .ref t1), (.inr "has", .ref t2), (.inr "start", .ref t3), (.inr "part", .ref t4), (.inr "finish", .ref t5), (.inr "image", .ref t6), (.inr "bundle", .ref t7), (.inr "name", .ref t8)]) hD _ _ f7
    have f8 := tk_dk (kvs' := [(.inr "open", .ref t1), (.inr "has", .ref t2), (.inr "start", .ref t3), (.inr "part", .ref t4), (.inr "finish", .ref t5), (.inr "image", .ref t6), (.inr "bundle", .ref t7), (.inr "name", .ref t8)]) hD _ _ f8
    have sl37 := sl_dk' (kvs' := [(.inr "open", .ref t1), (.inr "has", .ref t2), (.inr "start", .ref t3), (.inr "part", .ref t4), (.inr "finish", .ref t5), (.inr "image", .ref t6), (.inr "bundle", .ref t7), (.inr "name", .ref t8)]) sl36 hD
    have mv37 := Mv.new (p := D) (o := .dK [(.inr "open", .ref t1), (.inr "has", .ref t2), (.inr "start", .ref t3), (.inr "part", .ref t4), (.inr "finish", .ref t5), (.inr "image", .ref t6), (.inr "bundle", .ref t7), (.inr "name", .ref t8)]) mv36 D0
    have hD := upd_hp (kvs' := [(.inr "open", .ref t1), (.inr "has", .ref t2), (.inr "start", .ref t3), (.inr "part", .ref t4), (.inr "finish", .ref t5), (.inr "image", .ref t6), (.inr "bundle", .ref t7), (.inr "name", .ref t8)]) hD
    refine ⟨_, rfl, szl, fun t9 n9 => ?_⟩
    have u38 := same_upd n9 (o := .tup ((Rp.closed (m.cl + zs4[j1])).keys.map kV))
    have sl38 := SL.same sl37 u38
    have mv38 := Mv.trans mv37 (Mv.same u38)
    have hD := u38 _ _ hD
    have f1 := u38 _ _ f1
    have f2 := u38 _ _ f2
    have f3 := u38 _ _ f3
    have f4 := u38 _ _ f4
    have f5 := u38 _ _ f5
    have f6 := u38 _ _ f6
    have f7 := u38 _ _ f7
    have f8 := u38 _ _ f8
    have f9 := upd_tup n9 (ks := (Rp.closed (m.cl + zs4[j1])).keys)
    refine ⟨_, rfl, D, _, rfl, DPut.k (k := .inr "close") hD (by show 8 < sizeLine; decide), ?_⟩
    rw [show putK ([(.inr "open", .ref t1), (.inr "has", .ref t2), (.inr "start", .ref t3), (.inr "part", .ref t4), (.inr "finish", .ref t5), (.inr "image", .ref t6), (.inr "bundle", .ref t7), (.inr "name", .ref t8)] : List (Key × V)) (.inr "close") (.ref t9) = ([(.inr "open", .ref t1), (.inr "has", .ref t2), (.inr "start", .ref t3), (.inr "part", .ref t4), (.inr "finish", .ref t5), (.inr "image", .ref t6), (.inr "bundle", .ref t7), (.inr "name", .ref t8), (.inr "close", .ref t9)] : List (Key × V)) from rfl]
    have f1 := tk_dk (kvs' := [(.inr "open", .ref t1), (.inr "has", .ref t2), (.inr "start", .ref t3), (.inr "part", .ref t4), (.inr "finish", .ref t5), (.inr "image", .ref t6), (.inr "bundle", .ref t7), (.inr "name", .ref t8), (.inr "close", .ref t9)]) hD _ _ f1
    have f2 := tk_dk (kvs' := [(.inr "open", .ref t1), (.inr "has", .ref t2), (.inr "start", .ref t3), (.inr "part", .ref t4), (.inr "finish", .ref t5), (.inr "image", .ref t6), (.inr "bundle", .ref t7), (.inr "name", .ref t8), (.inr "close", .ref t9)]) hD _ _ f2
    have f3 := tk_dk (kvs' := [(.inr "open", .ref t1), (.inr "has", .ref t2), (.inr "start", .ref t3), (.inr "part", .ref t4), (.inr "finish", .ref t5), (.inr "image", .ref t6), (.inr "bundle", .ref t7), (.inr "name", .ref t8), (.inr "close", .ref t9)]) hD _ _ f3
    have f4 := tk_dk (kvs' := [(.inr "open", .ref t1), (.inr "has", .ref t2), (.inr "start", .ref t3), (.inr "part", .ref t4), (.inr "finish", .ref t5), (.inr "image", .ref t6), (.inr "bundle", .ref t7), (.inr "name", .ref t8), (.inr "close", .ref t9)]) hD _ _ f4
    have f5 := tk_dk (kvs' := [(.inr "open", .ref t1), (.inr "has", .ref t2), (.inr "start", .ref t3), (.inr "part", .ref t4), (.inr "finish", .ref t5), (.inr "image", .ref t6), (.inr "bundle", .ref t7), (.inr "name", .ref t8), (.inr "close", .ref t9)]) hD _ _ f5
    have f6 := tk_dk (kvs' := [(.inr "open", .ref t1), (.inr "has", .ref t2), (.inr "start", .ref t3), (.inr "part", .ref t4), (.inr "finish", .ref t5), (.inr "image", .ref t6), (.inr "bundle", .ref t7), (.inr "name", .ref t8), (.inr "close", .ref t9)]) hD _ _ f6
    have f7 := tk_dk (kvs' := [(.inr "open", .ref t1), (.inr "has", .ref t2), (.inr "start", .ref t3), (.inr "part", .ref t4), (.inr "finish", .ref t5), (.inr "image", .ref t6), (.inr "bundle", .ref t7), (.inr "name", .ref t8), (.inr "close", .ref t9)]) hD _ _ f7
    have f8 := tk_dk (kvs' := [(.inr "open", .ref t1), (.inr "has", .ref t2), (.inr "start", .ref t3), (.inr "part", .ref t4), (.inr "finish", .ref t5), (.inr "image", .ref t6), (.inr "bundle", .ref t7), (.inr "name", .ref t8), (.inr "close", .ref t9)]) hD _ _ f8
    have f9 := tk_dk (kvs' := [(.inr "open", .ref t1), (.inr "has", .ref t2), (.inr "start", .ref t3), (.inr "part", .ref t4), (.inr "finish", .ref t5), (.inr "image", .ref t6), (.inr "bundle", .ref t7), (.inr "name", .ref t8), (.inr "close", .ref t9)]) hD _ _ f9
    have sl39 := sl_dk' (kvs' := [(.inr "open", .ref t1), (.inr "has", .ref t2), (.inr "start", .ref t3), (.inr "part", .ref t4), (.inr "finish", .ref t5), (.inr "image", .ref t6), (.inr "bundle", .ref t7), (.inr "name", .ref t8), (.inr "close", .ref t9)]) sl38 hD
    have mv39 := Mv.new (p := D) (o := .dK [(.inr "open", .ref t1), (.inr "has", .ref t2), (.inr "start", .ref t3), (.inr "part", .ref t4), (.inr "finish", .ref t5), (.inr "image", .ref t6), (.inr "bundle", .ref t7), (.inr "name", .ref t8), (.inr "close", .ref t9)]) mv38 D0
    have hD := upd_hp (kvs' := [(.inr "open", .ref t1), (.inr "has", .ref t2), (.inr "start", .ref t3), (.inr "part", .ref t4), (.inr "finish", .ref t5), (.inr "image", .ref t6), (.inr "bundle", .ref t7), (.inr "name", .ref t8), (.inr "close", .ref t9)]) hD
    refine ⟨_, rfl, _, _, rfl, rfl, _, rfl, ite2 (fun hk => ?_) (fun hk => ?_)⟩
    · refine ⟨_, rfl, D, rfl, .inl ⟨_, .inl hD⟩, _, rfl, szl, fun t10 n10 => ?_⟩
      have u40 := same_upd n10 (o := .tup [.str "malformed"])
      have sl40 := SL.same sl39 u40
      have mv40 := Mv.trans mv39 (Mv.same u40)
      have hD := u40 _ _ hD
      have f1 := u40 _ _ f1
      have f2 := u40 _ _ f2
      have f3 := u40 _ _ f3
      have f4 := u40 _ _ f4
      have f5 := u40 _ _ f5
      have f6 := u40 _ _ f6
      have f7 := u40 _ _ f7
      have f8 := u40 _ _ f8
      have f9 := u40 _ _ f9
      refine ⟨some (.ref (fitT t1 t2 t3 t4 t5 t6 t7 t8 t9 m.st)), ?_, ?_⟩
      · rw [← fit_get t1 t2 t3 t4 t5 t6 t7 t8 t9 hSt, hw0]
        exact DGet.k (k := .inr (stN m.st)) hD
      · refine q _ (fitR (1 + v1) (1 + v3) (m.up + zs4[j2]) (m.cl + zs4[j1]) k4 p.nm ad m.st) _ ?_ (fit_ok ok.nm had _) (fun n j e => fit_k hk49 e) sl40 mv40
        cases hs9 : m.st with
        | opn => exact f1
        | has => exact f2
        | start => exact f3
        | part => exact f4
        | finish => exact f5
        | name => exact f8
        | close => exact f9
        | put b => cases b <;> first | exact f6 | exact f7
        | done => exact absurd hs9 hSt
    have hk12 : (12 : Int) ≤ kd := by have := of_decide_eq_false (Bool.eq_false_iff.mpr hk); omega
    refine ⟨_, rfl, szl, fun o1 m1 => ?_⟩
    have u42 := same_upd m1 (o := .tup ((Rp.lacks ad).keys.map kV))
    have sl42 := SL.same sl39 u42
    have mv42 := Mv.trans mv39 (Mv.same u42)
    have g1 := upd_tup m1 (ks := (Rp.lacks ad).keys)
    refine ⟨_, rfl, szl, fun o2 m2 => ?_⟩
    have u43 := same_upd m2 (o := .tup ((Rp.gone (m.up + zs4[j2])).keys.map kV))
    have sl43 := SL.same sl42 u43
    have mv43 := Mv.trans mv42 (Mv.same u43)
    have g1 := u43 _ _ g1
    have g2 := upd_tup m2 (ks := (Rp.gone (m.up + zs4[j2])).keys)
    refine ⟨_, rfl, szl, fun o3 m3 => ?_⟩
    have u44 := same_upd m3 (o := .tup ((Rp.wrong ad).keys.map kV))
    have sl44 := SL.same sl43 u44
    have mv44 := Mv.trans mv43 (Mv.same u44)
    have g1 := u44 _ _ g1
    have g2 := u44 _ _ g2
    have g3 := upd_tup m3 (ks := (Rp.wrong ad).keys)
    refine ⟨_, rfl, szl, fun o4 m4 => ?_⟩
    have u45 := same_upd m4 (o := .tup ((Rp.lapsed (m.cl + zs4[j1])).keys.map kV))
    have sl45 := SL.same sl44 u45
    have mv45 := Mv.trans mv44 (Mv.same u45)
    have g1 := u45 _ _ g1
    have g2 := u45 _ _ g2
    have g3 := u45 _ _ g3
    have g4 := upd_tup m4 (ks := (Rp.lapsed (m.cl + zs4[j1])).keys)
    refine ⟨szl, fun o5 m5 => ?_⟩
    have u46 := same_upd m5 (o := .tup ((Rp.malformed).keys.map kV))
    have sl46 := SL.same sl45 u46
    have mv46 := Mv.trans mv45 (Mv.same u46)
    have g1 := u46 _ _ g1
    have g2 := u46 _ _ g2
    have g3 := u46 _ _ g3
    have g4 := u46 _ _ g4
    have g5 := upd_tup m5 (ks := (Rp.malformed).keys)
    refine ⟨szl, fun x1 mx1 => ?_⟩
    have u47 := same_upd mx1 (o := .lst [.ref o1, .ref o2, .ref o3, .ref o4, .ref o5])
    have sl47 := SL.same sl46 u47
    have mv47 := Mv.trans mv46 (Mv.same u47)
    have g1 := u47 _ _ g1
    have g2 := u47 _ _ g2
    have g3 := u47 _ _ g3
    have g4 := u47 _ _ g4
    have g5 := u47 _ _ g5
    have Lx1 := upd_lst mx1 (xs := [.ref o1, .ref o2, .ref o3, .ref o4, .ref o5])
    refine ⟨_, rfl, _, rfl, szl, fun o6 m6 => ?_⟩
    have u48 := same_upd m6 (o := .tup ((Rp.kept ad).keys.map kV))
    have sl48 := SL.same sl47 u48
    have mv48 := Mv.trans mv47 (Mv.same u48)
    have g1 := u48 _ _ g1
    have g2 := u48 _ _ g2
    have g3 := u48 _ _ g3
    have g4 := u48 _ _ g4
    have g5 := u48 _ _ g5
    have Lx1 := u48 _ _ Lx1
    have g6 := upd_tup m6 (ks := (Rp.kept ad).keys)
    refine ⟨_, rfl, szl, fun o7 m7 => ?_⟩
    have u49 := same_upd m7 (o := .tup ((Rp.lacks ad).keys.map kV))
    have sl49 := SL.same sl48 u49
    have mv49 := Mv.trans mv48 (Mv.same u49)
    have g1 := u49 _ _ g1
    have g2 := u49 _ _ g2
    have g3 := u49 _ _ g3
    have g4 := u49 _ _ g4
    have g5 := u49 _ _ g5
    have Lx1 := u49 _ _ Lx1
    have g6 := u49 _ _ g6
    have g7 := upd_tup m7 (ks := (Rp.lacks ad).keys)
    refine ⟨_, rfl, szl, fun o8 m8 => ?_⟩
    have u50 := same_upd m8 (o := .tup ((Rp.named "other" ad).keys.map kV))
    have sl50 := SL.same sl49 u50
    have mv50 := Mv.trans mv49 (Mv.same u50)
    have g1 := u50 _ _ g1
    have g2 := u50 _ _ g2
    have g3 := u50 _ _ g3
    have g4 := u50 _ _ g4
    have g5 := u50 _ _ g5
    have Lx1 := u50 _ _ Lx1
    have g6 := u50 _ _ g6
    have g7 := u50 _ _ g7
    have g8 := upd_tup m8 (ks := (Rp.named "other" ad).keys)
    refine ⟨szl, fun x2 mx2 => ?_⟩
    have u51 := same_upd mx2 (o := .lst [.ref o6, .ref o7, .ref o8])
    have sl51 := SL.same sl50 u51
    have mv51 := Mv.trans mv50 (Mv.same u51)
    have g1 := u51 _ _ g1
    have g2 := u51 _ _ g2
    have g3 := u51 _ _ g3
    have g4 := u51 _ _ g4
    have g5 := u51 _ _ g5
    have Lx1 := u51 _ _ Lx1
    have g6 := u51 _ _ g6
    have g7 := u51 _ _ g7
    have g8 := u51 _ _ g8
    have Lx2 := upd_lst mx2 (xs := [.ref o6, .ref o7, .ref o8])
    refine ⟨x1, x2, _, _, rfl, rfl, Lx1, Lx2, szl, fun x3 mx3 => ?_⟩
    have u52 := same_upd mx3 (o := .lst ([.ref o1, .ref o2, .ref o3, .ref o4, .ref o5] ++ [.ref o6, .ref o7, .ref o8]))
    have sl52 := SL.same sl51 u52
    have mv52 := Mv.trans mv51 (Mv.same u52)
    have g1 := u52 _ _ g1
    have g2 := u52 _ _ g2
    have g3 := u52 _ _ g3
    have g4 := u52 _ _ g4
    have g5 := u52 _ _ g5
    have Lx1 := u52 _ _ Lx1
    have g6 := u52 _ _ g6
    have g7 := u52 _ _ g7
    have g8 := u52 _ _ g8
    have Lx2 := u52 _ _ Lx2
    have Lx3 := upd_lst mx3 (xs := [.ref o1, .ref o2, .ref o3, .ref o4, .ref o5] ++ [.ref o6, .ref o7, .ref o8])
    obtain ⟨j, hj, hj8⟩ : ∃ j : Nat, kd - 12 = (j : Int) ∧ j < 8 := ⟨(kd - 12).toNat, by omega, by omega⟩
    have cs : j = 0 ∨ j = 1 ∨ j = 2 ∨ j = 3 ∨ j = 4 ∨ j = 5 ∨ j = 6 ∨ j = 7 := by omega
    rcases cs with rfl | rfl | rfl | rfl | rfl | rfl | rfl | rfl
    · exact ⟨_, rfl, _, rfl, _, _, rfl, rfl, x3, _, _, .ref o1, rfl, rfl, SqL.of Lx3, (by rw [hj]; exact atI_nat (j := 0) rfl), q o1 (Rp.lacks ad) _ g1 (Rp.ok_of (ok_s had)) (fun n k e => nomatch e) sl52 mv52⟩
    · exact ⟨_, rfl, _, rfl, _, _, rfl, rfl, x3, _, _, .ref o2, rfl, rfl, SqL.of Lx3, (by rw [hj]; exact atI_nat (j := 1) rfl), q o2 (Rp.gone (m.up + zs4[j2])) _ g2 (Rp.ok_of (ok_i)) (fun n k e => nomatch e) sl52 mv52⟩
    · exact ⟨_, rfl, _, rfl, _, _, rfl, rfl, x3, _, _, .ref o3, rfl, rfl, SqL.of Lx3, (by rw [hj]; exact atI_nat (j := 2) rfl), q o3 (Rp.wrong ad) _ g3 (Rp.ok_of (ok_s had)) (fun n k e => nomatch e) sl52 mv52⟩
    · exact ⟨_, rfl, _, rfl, _, _, rfl, rfl, x3, _, _, .ref o4, rfl, rfl, SqL.of Lx3, (by rw [hj]; exact atI_nat (j := 3) rfl), q o4 (Rp.lapsed (m.cl + zs4[j1])) _ g4 (Rp.ok_of (ok_i)) (fun n k e => nomatch e) sl52 mv52⟩
    · exact ⟨_, rfl, _, rfl, _, _, rfl, rfl, x3, _, _, .ref o5, rfl, rfl, SqL.of Lx3, (by rw [hj]; exact atI_nat (j := 4) rfl), q o5 (Rp.malformed) _ g5 (Rp.ok_of (fun x hx => nomatch hx)) (fun n k e => nomatch e) sl52 mv52⟩
    · exact ⟨_, rfl, _, rfl, _, _, rfl, rfl, x3, _, _, .ref o6, rfl, rfl, SqL.of Lx3, (by rw [hj]; exact atI_nat (j := 5) rfl), q o6 (Rp.kept ad) _ g6 (Rp.ok_of (ok_s had)) (fun n k e => nomatch e) sl52 mv52⟩
    · exact ⟨_, rfl, _, rfl, _, _, rfl, rfl, x3, _, _, .ref o7, rfl, rfl, SqL.of Lx3, (by rw [hj]; exact atI_nat (j := 6) rfl), q o7 (Rp.lacks ad) _ g7 (Rp.ok_of (ok_s had)) (fun n k e => nomatch e) sl52 mv52⟩
    · exact ⟨_, rfl, _, rfl, _, _, rfl, rfl, x3, _, _, .ref o8, rfl, rfl, SqL.of Lx3, (by rw [hj]; exact atI_nat (j := 7) rfl), q o8 (Rp.named "other" ad) _ g8 (Rp.ok_of (ok_ss (by decide +kernel) had)) (fun n k e => nomatch e) sl52 mv52⟩
end
end LW
namespace LW
open PySem PySem.Spec PyProof.Rows L2 GxR
theorem strOk_tl (x : Str) : PyData.strOk x = true ↔ ∀ c ∈ TL.tl x, c < 0x110000 := by
  show x.cps.all (fun c => decide (c < 0x110000)) = true ↔ ∀ c ∈ x.cps.toList, _
  rw [← Array.all_toList, List.all_eq_true]
  exact ⟨fun h c hc => of_decide_eq_true (h c hc), fun h c hc => decide_eq_true (h c hc)⟩
theorem strOk_text {ls : List Str} (h : ∀ l ∈ ls, PyData.strOk l = true) : PyData.strOk (textOf ls) = true := by
  rw [strOk_tl, textOf_tl]
  intro c hc
  obtain ⟨x, hx, hcx⟩ := List.mem_flatten.mp hc
  obtain ⟨y, hy, rfl⟩ := List.mem_map.mp hx
  obtain ⟨l, hl, rfl⟩ := List.mem_map.mp hy
  rcases List.mem_append.mp hcx with h1 | h1
  · exact (strOk_tl l).mp (h l hl) c h1
  · rw [List.mem_singleton.mp h1]; decide
theorem strOk_ent {e : Str × Str} (h1 : PyData.strOk e.1 = true) (h2 : PyData.strOk e.2 = true) : PyData.strOk (ent e) = true := by
  rw [strOk_tl, ent_tl]
  intro c hc
  rcases List.mem_append.mp hc with h | h
  · exact (strOk_tl _).mp h1 c h
  · rcases List.mem_cons.mp h with rfl | h
    · decide
    · exact (strOk_tl _).mp h2 c h
theorem word_strOk (b : Bool) : PyData.strOk (word b) = true := by cases b <;> decide +kernel
theorem img_ok (p : Psh) : PyData.strOk p.img = true := by
  refine strOk_text fun l hl => ?_
  rcases List.mem_cons.mp hl with rfl | hl
  · exact word_strOk false
  · obtain ⟨t, _, rfl⟩ := List.mem_map.mp hl
    exact adOf_ok _ _
theorem bun_ok (p : Psh) {q : Str} (h : PyData.strOk q = true) : PyData.strOk (p.bun q) = true := by
  refine strOk_text fun l hl => ?_
  rcases List.mem_cons.mp hl with rfl | hl
  · exact word_strOk true
  · rw [List.map_singleton, List.mem_singleton] at hl
    rw [hl]; exact strOk_ent h (adOf_ok _ _)
theorem txt_ok {p : Psh} (ok : POk p) (b : Bool) : PyData.strOk (p.txt b) = true := by
  cases b with
  | false => exact img_ok p
  | true =>
    show PyData.strOk (p.bun (p.pf.getD "")) = true
    refine bun_ok p ?_
    cases hq : p.pf with
    | none => decide +kernel
    | some q => exact (ok.pf q hq).2
theorem cut_ok {t : Str} (h : PyData.strOk t = true) (lo hi : Option Int) : PyData.strOk (cutS t lo hi) = true := by
  rw [strOk_tl] at h ⊢
  intro c hc
  exact h c (List.mem_of_mem_drop (List.mem_of_mem_take (show c ∈ ((TL.tl t).drop (HT.sIx t.length 0 lo)).take (HT.sIx t.length t.length hi - HT.sIx t.length 0 lo) from hc)))
theorem lay_ok {p : Psh} (ok : POk p) (i : Nat) : PyData.strOk (p.lay i) = true := by
  unfold Psh.lay
  rw [List.getD_eq_getElem?_getD]
  cases h : p.ls[i]? with
  | none => decide +kernel
  | some t => exact (ok.txt t (List.mem_of_getElem? h)).2
theorem tgt_ok (p : Psh) : PyData.strOk p.tgt = true := by
  unfold Psh.tgt
  split <;> exact adOf_ok _ _
theorem reqs_ok : ∀ x ∈ (["open", "has", "start", "part", "finish", "layer", "put", "name", "close"] : List Str), PyData.strOk x = true := by decide +kernel
def kOkB : Key → Bool
  | .inl _ => true
  | .inr x => PyData.strOk x
theorem kOk_all {ks : List Key} (h : ks.all kOkB = true) : ∀ k ∈ ks, kOk k := fun k hk => by
  have := List.all_eq_true.mp h k hk
  cases k with
  | inl _ => exact True.intro
  | inr x => exact this
theorem rqk_ok {p : Psh} (ok : POk p) (m : Ms) : ∀ k ∈ rqk p m, kOk k := by
  have r : ∀ x ∈ (["open", "has", "start", "part", "finish", "layer", "put", "name", "close"] : List Str), kOkB (.inr x) = true := reqs_ok
  refine kOk_all ?_
  unfold rqk
  cases m.st with
  | opn => simp only [List.all_cons, List.all_nil, r "open" (by decide), Bool.and_true]
  | has => simp only [List.all_cons, List.all_nil, r "has" (by decide), show kOkB (.inr (p.la m.pl)) = true from la_ok _ _, Bool.and_true, show kOkB (.inl m.cl) = true from rfl]
  | start => simp only [List.all_cons, List.all_nil, r "start" (by decide), Bool.and_true, show kOkB (.inl m.cl) = true from rfl]
  | part => simp only [List.all_cons, List.all_nil, r "part" (by decide), Bool.and_true, show kOkB (.inl m.up) = true from rfl, show kOkB (.inl (m.at_ : Int)) = true from rfl, show kOkB (.inr (cutS (p.lay m.pl) (some (m.at_ : Int)) (some ((m.at_ : Int) + 4)))) = true from cut_ok (lay_ok ok _) _ _]
  | finish => simp only [List.all_cons, List.all_nil, r "finish" (by decide), r "layer" (by decide), Bool.and_true, show kOkB (.inl m.up) = true from rfl, show kOkB (.inl m.cl) = true from rfl, show kOkB (.inr (p.la m.pl)) = true from la_ok _ _]
  | put b => simp only [List.all_cons, List.all_nil, r "put" (by decide), Bool.and_true, show kOkB (.inl m.cl) = true from rfl, show kOkB (.inr (word b)) = true from word_strOk b, show kOkB (.inr (p.txt b)) = true from txt_ok ok b]
  | name => simp only [List.all_cons, List.all_nil, r "name" (by decide), Bool.and_true, show kOkB (.inl m.cl) = true from rfl, show kOkB (.inr p.nm) = true from ok.nm, show kOkB (.inr p.tgt) = true from tgt_ok p]
  | close => simp only [List.all_cons, List.all_nil, r "close" (by decide), Bool.and_true, show kOkB (.inl m.cl) = true from rfl]
  | done => rfl
theorem place_wf {p : Psh} {m : Ms} {i : Nat} (h : m.at_ ≤ 9) : Wf p (place p m i) := by
  unfold place
  by_cases hi : i < p.ls.length
  · rw [if_pos hi]
    exact ⟨fun _ => hi, fun z => (nomatch z), h⟩
  · rw [if_neg hi]
    exact ⟨fun z => (nomatch z), fun z => (nomatch z), h⟩
theorem askP_wf {p : Psh} {m : Ms} {k : Nat} (h : k ≤ 9) (hp : m.pl < p.ls.length) : Wf p (askP p m k) := by
  unfold askP
  refine ⟨fun _ => hp, fun z => ?_, h⟩
  have z' : (if k < (p.lay m.pl).length then Stp.part else Stp.finish) = .put true := z
  split at z' <;> cases z'
theorem behind_wf {p : Psh} {m : Ms} {b : Bool} (h : m.at_ ≤ 9) : Wf p (behind p m b) := by
  unfold behind
  by_cases hi : b = false ∧ p.pf.isSome = true
  · rw [if_pos hi]
    exact ⟨fun z => (nomatch z), fun _ => hi.2, h⟩
  · rw [if_neg hi]
    exact ⟨fun z => (nomatch z), fun z => (nomatch z), h⟩
theorem next_wf {p : Psh} {m m' : Ms} {r : Rp} (wf : Wf p m) (r9 : ∀ n k, r = .have_ n k → k ≤ 9) (h : next p m r = some m') : Wf p m' := by
  have h9 := wf.at_
  unfold next at h
  by_cases hl : under m.st = true ∧ r = .lapsed m.cl
  · rw [if_pos hl] at h
    cases h
    exact ⟨fun z => (nomatch z), fun z => (nomatch z), h9⟩
  rw [if_neg hl] at h
  unfold nextIn at h
  cases hst : m.st with
  | opn =>
    rw [hst] at h
    cases r with
    | claim n => cases h; exact place_wf h9
    | _ => cases h
  | has =>
    rw [hst] at h
    have hp := wf.pl (by rw [hst]; rfl)
    dsimp only at h
    by_cases e1 : r = .kept (p.la m.pl)
    · rw [if_pos e1] at h; cases h; exact place_wf h9
    · rw [if_neg e1] at h
      by_cases e2 : r = .lacks (p.la m.pl)
      · rw [if_pos e2] at h; cases h; exact ⟨fun _ => hp, fun z => (nomatch z), h9⟩
      · rw [if_neg e2] at h; cases h
  | start =>
    rw [hst] at h
    have hp := wf.pl (by rw [hst]; rfl)
    cases r with
    | upload n => cases h; exact askP_wf (m := { m with up := n }) (Nat.zero_le 9) hp
    | _ => cases h
  | part =>
    rw [hst] at h
    have hp := wf.pl (by rw [hst]; rfl)
    cases r with
    | have_ n k =>
      dsimp only at h
      by_cases e : n = m.up
      · rw [if_pos e] at h; cases h; exact askP_wf (r9 n k rfl) hp
      · rw [if_neg e] at h; cases h
    | gone n =>
      dsimp only at h
      by_cases e : n = m.up
      · rw [if_pos e] at h; cases h; exact ⟨fun _ => hp, fun z => (nomatch z), h9⟩
      · rw [if_neg e] at h; cases h
    | _ => cases h
  | finish =>
    rw [hst] at h
    have hp := wf.pl (by rw [hst]; rfl)
    dsimp only at h
    by_cases e1 : r = .kept (p.la m.pl)
    · rw [if_pos e1] at h; cases h; exact place_wf h9
    · rw [if_neg e1] at h
      by_cases e2 : r = .wrong (p.la m.pl)
      · rw [if_pos e2] at h; cases h; exact ⟨fun _ => hp, fun z => (nomatch z), h9⟩
      · rw [if_neg e2] at h
        by_cases e3 : r = .gone m.up
        · rw [if_pos e3] at h; cases h; exact ⟨fun _ => hp, fun z => (nomatch z), h9⟩
        · rw [if_neg e3] at h; cases h
  | put b =>
    rw [hst] at h
    have w2 : Wf p { st := .put b, cl := m.cl, up := m.up, at_ := m.at_, pl := 0 } := ⟨fun z => (nomatch z), fun z => wf.bun (hst.trans z), h9⟩
    cases r with
    | kept x =>
      dsimp only at h
      by_cases e : x = p.ta b
      · rw [if_pos e] at h; cases h; exact behind_wf h9
      · rw [if_neg e] at h; cases h; exact w2
    | malformed => cases h; exact w2
    | lacks x => cases h; exact place_wf h9
    | _ => cases h
  | name =>
    rw [hst] at h
    dsimp only at h
    by_cases e1 : r = .named p.nm p.tgt
    · rw [if_pos e1] at h; cases h; exact ⟨fun z => (nomatch z), fun z => (nomatch z), h9⟩
    · rw [if_neg e1] at h
      by_cases e2 : r = .lacks p.tgt
      · rw [if_pos e2] at h; cases h; exact place_wf h9
      · rw [if_neg e2] at h; cases h
  | close =>
    rw [hst] at h
    dsimp only at h
    by_cases e1 : r = .closed m.cl
    · rw [if_pos e1] at h; cases h; exact ⟨fun z => (nomatch z), fun z => (nomatch z), h9⟩
    · rw [if_neg e1] at h; cases h
  | done => rw [hst] at h; cases h
theorem stN_done (s : Stp) : decide (stN s = "done") = decide (s = .done) := by
  cases s <;> first | decide +kernel | (rename_i b; cases b <;> decide +kernel)
theorem stN_ne (s : Stp) : stN s ≠ "" := by
  cases s <;> first | decide +kernel | (rename_i b; cases b <;> decide +kernel)
theorem SL.kp {H H' : Hp} {a c : Addr} {F : Addr → Prop} (s : SL H a c) (k : Kp F H H') (na : ¬ F a) (nc : ¬ F c) : SL H' a c := by
  obtain ⟨n, cs, h1, h2, r⟩ := s
  exact ⟨n, cs, k.keep _ _ na h1, k.keep _ _ nc h2, r⟩
theorem R.kd {C : Addr} {p : Psh} {m : Ms} {F : Fl} {H H' : Hp} {d : Addr} {kvs : List (Key × V)} (h : R C p m F H) (hd : H d = some (.dK kvs)) (k : Kp (fun b => b = d) H H') : R C p m F H' :=
  { h with
    at_ := ⟨k.keep _ _ (ne_of h.at_.ob hd (by intro z; cases z)) h.at_.ob, k.keep _ _ (ne_of h.at_.hL hd (by intro z; cases z)) h.at_.hL, k.keep _ _ (ne_of h.at_.hA hd (by intro z; cases z)) h.at_.hA⟩
    rq := fun z => let ⟨r, e, t⟩ := h.rq z; ⟨r, e, k.keep _ _ (ne_of t hd (by intro z; cases z)) t⟩ }
theorem R.mv {C a c : Addr} {p : Psh} {m : Ms} {F : Fl} {H H' : Hp} (h : R C p m F H) (s : SL H a c) (pn : PN p a c) (k : Mv a c H H') : R C p m F H' :=
  { h with at_ := h.at_.m pn k, rq := fun z => let ⟨r, e, t⟩ := h.rq z; ⟨r, e, k.keep _ _ (s.ne_tupl t).1 (s.ne_tupl t).2 t⟩ }
end LW
namespace LW
open PySem PySem.Spec PyProof.Rows L2 GxR
def LI (cP : Addr) (l0 a c d : Addr) (p : Psh) (σ : L2.St) (H : Hp) : Prop := ∃ (m : Ms) (F : Fl) (v5 v6 v7 v8 : Option V), σ = [some (.ref l0), some (.ref a), some (.ref p.o), some (.int F.num), some (.ref d), v5, v6, v7, v8] ∧ R cP p m F H ∧ Wf p m ∧ SL H a c ∧ H d = some (.dK (mdl m))
abbrev s_law : Stmt := topS 30
abbrev N_law : List Str := ["script", "state", "pusher", "number", "model", "turn", "reply", "step", "place"]
abbrev P_law : List Str := ["script"]
theorem sc_law : FnScope N_law P_law (defScope s_law) := ⟨rfl, rfl, rfl, by decide +kernel, rfl, by decide +kernel, by decide +kernel⟩
def sp_law (K : PySem.W.Frag) : Sp := fun vs H Q _ => ∃ (l : Addr) (ns : List Int), vs = [.ref l] ∧ SqL K H l (ns.map V.int) ∧ ns.length ≤ 63 ∧ ∀ H', Q (.bl true) H'
section
variable {P : Program} {w : World} {K : PySem.W.Frag} {mg : Str → Option Value} {base : Heap} {cP : Addr}
theorem ok_law {f : Addr} {fd : FuncData} (F : Fun K "law" "law" s_law f fd) (T : Tx K mg cP)
    (C_Pusher_address : CalM P w K mg base CX0 5 cP "address" P_Pusher_address (sp_Pusher_address cP))
    (C_Pusher_request : CalM P w K mg base CX0 1 cP "request" P_Pusher_request (sp_Pusher_request cP))
    (C_Pusher_take : CalM P w K mg base CX0 8 cP "take" P_Pusher_take (sp_Pusher_take cP))
    (C__law_next : Cal P w K mg base CX0 6 "_law_next" P_law_next (sp_law_next cP))
    (C__law_pusher : Cal P w K mg base CX0 4 "_law_pusher" P_law_pusher (sp_law_pusher cP))
    (C__law_reply : Cal P w K mg base CX0 5 "_law_reply" P_law_reply (sp_law_reply cP))
    (C__law_request : Cal P w K mg base CX0 5 "_law_request" P_law_request (sp_law_request cP))
    (C__law_state : Cal P w K mg base CX0 1 "_law_state" P_law_state (spState K))
    (C__law_take : Cal P w K mg base CX0 1 "_law_take" P_law_take spTake)
    (C__law_target : Cal P w K mg base CX0 4 "_law_target" P_law_target (sp_law_target cP)) : FnOk P w K mg base CX0 9 f fd P_law (sp_law K) := by
  refine F.ok sc_law (fun vs H Q E h => ?_) (fun cdv A outer s H vs Q E hr h => ?_)
  · obtain ⟨_, _, rfl, _⟩ := h
    rfl
  · obtain ⟨l0, ns, rfl, hS, hl, hq⟩ := h
    have nd := sc_law.nd
    have hu := hu_of hr
    refine ⟨_, pss_cons (ps_set (i := 1) nd rfl (Or.inl rfl) (pe_cal C__law_state hr (pa_cons (pv 0) pa_nil)))
  (pss_cons (ps_set (i := 2) nd rfl (Or.inl rfl) (pe_cal C__law_pusher hr (pa_cons (pv 1) pa_nil)))
  (pss_cons (ps_set (i := 3) nd rfl (Or.inl rfl) (pe_fld (pv 2) rfl))
  (pss_cons (ps_set (i := 4) nd rfl (Or.inl rfl) (pe_disp (pps_cons pe_str pe_str (pps_cons pe_str pe_int (pps_cons pe_str pe_int (pps_cons pe_str pe_int (pps_cons pe_str pe_int pps_nil))))) (by rfl) (by rfl) (fun z => by cases z) (by decide)))
  (pss_cons (ps_if (PW.pt (pw_or (pt_cmpR op_ne (pe_gint T.PART) pe_int (nomark _)) (pw_or1 (pt_cmpR op_ne (pe_calM0 (pv 2) C_Pusher_address hr) (pe_cal C__law_target hr (pa_cons (pv 2) pa_nil)) (nomark _)))))
    (pss_one (ps_ret pe_bl))
    (pss_nil))
  (pss_cons (ps_for PassesOwn.never rfl (pi_range1 (by rfl) T.range (pa_cons (pe_cal C__law_take hr (pa_cons (pv 1) (pa_cons pe_int pa_nil))) pa_nil)) (pg_name (i := 5) nd rfl (Or.inl rfl))
    (pss_cons (ps_if (pt_cmpR op_eq (pe_dget hu (pv 4) pe_str (fun _ _ => rfl)) pe_str (nomark _))
    (pss_one (ps_ret (pe_and (pe_cmpR op_isBl (pe_fld (pv 2) rfl) pe_bl (nomark _)) (pe_and (pe_cmpR op_isN (pe_calM0 (pv 2) C_Pusher_request hr) pe_non (nomark _)) (pe_one (pe_cmpR op_isBl (pe_calM (pv 2) C_Pusher_take hr (pa_cons (pe_tup (pa_cons pe_str (pa_cons pe_int pa_nil))) pa_nil)) pe_bl (nomark _)))))))
    (pss_nil))
  (pss_cons (ps_if (PW.pt (pw_or (pt_cmpR op_notBl (pe_fld (pv 2) rfl) pe_bl (nomark _)) (pw_or (pt_cmpR op_ne (pe_fld (pv 2) rfl) (pv 3) (nomark _)) (pw_or1 (pt_cmpR (op_neD hr.units) (pe_calM0 (pv 2) C_Pusher_request hr) (pe_cal C__law_request hr (pa_cons (pv 2) (pa_cons (pv 4) pa_nil))) (nomark _))))))
    (pss_one (ps_ret pe_bl))
    (pss_nil))
  (pss_cons (ps_set (i := 6) nd rfl (Or.inl rfl) (pe_cal C__law_reply hr (pa_cons (pv 1) (pa_cons (pv 2) (pa_cons (pv 4) pa_nil)))))
  (pss_cons (ps_asg (pe_cal C__law_next hr (pa_cons (pv 2) (pa_cons (pv 4) (pa_cons (pv 6) pa_nil)))) (pg_tup rfl (pgs_cons (pg_name (i := 7) nd rfl (Or.inl rfl)) (pgs_cons (pg_name (i := 8) nd rfl (Or.inl rfl)) pgs_nil))))
  (pss_cons (ps_if (pt_cmpR op_ne (pe_callB call_repr_bl (by rfl) T.rep (by decide +kernel) (pa_cons (pe_calM (pv 2) C_Pusher_take hr (pa_cons (pv 6) pa_nil)) pa_nil)) (pe_callB call_repr_bl (by rfl) T.rep (by decide +kernel) (pa_cons (pe_cmpR op_ne (pv 7) pe_str (nomark _)) pa_nil)) (nomark _))
    (pss_one (ps_ret pe_bl))
    (pss_nil))
  (pss_one (ps_if (pt_cmpR op_ne (pv 7) pe_str (nomark _))
    (pss_cons (ps_dput hu (pv 4) pe_str (pv 7) rfl)
  (pss_cons (ps_dput hu (pv 4) pe_str (pv 8) rfl)
  (pss_one (ps_set (i := 3) nd rfl (Or.inl rfl) (pe_op op_add (pv 3) (pe_callTy call_int1 (by rfl) T.int (by decide +kernel) (pa_cons (pe_cmpR op_ne (pv 7) pe_str (nomark _)) pa_nil)))))))
    (pss_nil)))))))))
  (pss_one (ps_ret pe_bl))))))), ?_⟩

    refine ⟨_, rfl, l0, ns, rfl, hS, hl, fun a c H1 na nc sm1 s1 => ?_⟩
    refine ⟨_, rfl, a, c, rfl, s1, fun p F0 H2 R2 ok pn s2 m2 => ?_⟩
    have hp2 := R2.at_
    refine ⟨_, rfl, p.o, cP, p.dx, _, _, rfl, hp2.ob, T.clP, T.nnumber, rfl, fun d nd' => ⟨upd_same, mdl f0, rfl, (by show 5 ≤ 15; decide), ?_⟩⟩
    rw [show mergeK [] (mdl f0) = mdl f0 from rfl]
    have nd0 : H2 d = none := nd'
    have sd : Same H2 (L2.upd (L2.upd H2 d (.dK [])) d (.dK (mdl f0))) := fun b v e => by rw [upd_ne (ne_of_none e nd0), upd_ne (ne_of_none e nd0)]; exact e
    have hd3 : (L2.upd (L2.upd H2 d (.dK [])) d (.dK (mdl f0))) d = some (.dK (mdl f0)) := upd_same
    have R3 := R2.same sd
    have s3 := s2.same sd
    generalize L2.upd (L2.upd H2 d (.dK [])) d (.dK (mdl f0)) = H3 at hd3 R3 s3
    have hp3 := R3.at_
    refine ⟨rfl, _, rfl, iteF ⟨_, rfl, p.o, p.dx, _, rfl, hp3.ob, rfl, p, F0, rfl, hp3, ok, fun H4 s4 => ?_⟩⟩
    have hp4 := hp3.same s4
    refine ⟨_, rfl, p, F0, rfl, hp4, ok, fun H5 s5 => ⟨rfl, _, rfl, ?_⟩⟩
    rw [decide_eq_true (rfl : V.str p.tgt = V.str p.tgt)]
    have s35 := s4.trans s5
    refine iteF ⟨_, rfl, a, c, 61, rfl, s3.same s35, by decide, by decide, fun v0 Hg v00 v61 eg sg => ?_⟩
    obtain ⟨k, rfl, hk⟩ := nat_of v00 v61
    have mg_ := Mv.take (s3.same s35) sg eg
    have Rg := (R3.same s35).mv (s3.same s35) pn mg_
    have hdg : Hg d = some (.dK (mdl f0)) := by
      have h := s35 _ _ hd3
      rw [eg d ((s3.same s35).ne_dk h).1 ((s3.same s35).ne_dk h).2]; exact h
    refine ⟨_, rfl, by omega, by omega, for_range (lo := 0) (n := k) (fun i σ H' => LI cP l0 a c d p σ H') ⟨f0, F0, none, none, none, none, rfl, Rg, ⟨fun z => (nomatch z), fun z => (nomatch z), Nat.zero_le _⟩, sg, hdg⟩ ?_ ?_⟩
    · rintro i σ H' hi ⟨m, F, v5, v6, v7, v8, rfl, hR, wf, sl, hd⟩
      have hp := hR.at_
      refine ⟨_, rfl, d, _, rfl, dg_step hd, rfl, _, rfl, ?_⟩
      rw [dec_str, stN_done]
      by_cases hdn : m.st = .done
      · rw [decide_eq_true hdn]
        refine iteT ⟨_, rfl, p.o, cP, p.dx, _, _, rfl, hp.ob, T.clP, T.ndone, rfl, F.dn, true, rfl, rfl, _, rfl, ?_⟩
        rw [hR.dn, decide_eq_true hdn]
        refine iteT ⟨_, rfl, p.o, p.dx, _, rfl, hp.ob, rfl, p, F, rfl, hp, rfl, _, rfl, ?_⟩
        rw [hR.rq0 hdn]
        refine iteT ⟨_, rfl, p.o, p.dx, _, rfl, hp.ob, rfl, szl, fun t nt => ?_⟩
        have st := same_upd nt (o := .tup ((Rp.claim 1).keys.map kV))
        refine ⟨p, F, m, t, .claim 1, rfl, hR.same st, ok, wf, True.intro, upd_same, Rp.ok_of ok_i, fun _ H6 _ => ⟨false, false, rfl, rfl, hq _⟩, fun m' e => ?_⟩
        unfold next at e
        rw [if_neg (fun z => nomatch z.2)] at e
        unfold nextIn at e
        rw [hdn] at e
        cases e
      rw [decide_eq_false hdn]
      obtain ⟨rq, erq, hrq⟩ := hR.rq hdn
      refine iteF ⟨_, rfl, p.o, cP, p.dx, _, _, rfl, hp.ob, T.clP, T.ndone, rfl, F.dn, false, rfl, rfl, _, rfl, ?_⟩
      rw [hR.dn, decide_eq_false hdn]
      refine iteF ⟨_, rfl, p.o, cP, p.dx, _, _, rfl, hp.ob, T.clP, T.nnumber, rfl, _, rfl, rfl, _, rfl, ?_⟩
      rw [decide_eq_true (rfl : V.int F.num = V.int F.num)]
      refine iteF ⟨_, rfl, p.o, p.dx, _, rfl, hp.ob, rfl, p, F, rfl, hp, _, rfl, _, rfl, p, F, m, d, rfl, hp, ok, wf, hdn, hd, fun t H3 s3' ht => ?_⟩
      have shq := shaped_keys (rqk_ok ok m)
      refine ⟨_, _, (by rw [erq]; exact dp_tup (s3' _ _ hrq)), dp_tup ht, shq, shq, _, rfl, ?_⟩
      rw [eqv_tup, decide_eq_true (rfl : rqk p m = rqk p m)]
      have hR3 := hR.same s3'
      have sl3 := sl.same s3'
      have hd3' := s3' _ _ hd
      refine iteF ⟨_, rfl, _, rfl, _, rfl, a, c, p, F, m, d, rfl, sl3, pn, hR3.at_, ok, wf, hdn, hd3', fun rr r H5 hr5 rok r9 sl5 m5 => ?_⟩
      have hR5 := hR3.mv sl3 pn m5
      have hd5 := m5.keep _ _ (sl3.ne_dk hd3').1 (sl3.ne_dk hd3').2 hd3'
      refine ⟨_, rfl, _, rfl, _, rfl, p, F, m, d, rr, r, rfl, hR5.at_, ok, wf, hdn, hd5, hr5, rok, fun t6 H6 ht6 hd6 k6 nt6 => ?_⟩
      have hR6 := hR5.kd hd5 k6
      have sl6 := sl5.kp k6 (Ne.symm (sl5.ne_dk hd5).1) (Ne.symm (sl5.ne_dk hd5).2)
      have hr6 := k6.keep _ _ (ne_of hr5 hd5 (by intro z; cases z)) hr5
      refine ⟨t6, _, rfl, SqT.of ht6, rfl, _, _, rfl, _, _, rfl, rfl, ?_⟩
      refine ⟨_, rfl, p.o, p.dx, _, rfl, hR6.at_.ob, rfl, _, rfl, p, F, m, rr, r, rfl, hR6, ok, wf, True.intro, hr6, rok, fun hn H7 s7 => ?_, fun m' hn F7 H7 R7 n7 k7 => ?_⟩
      · rw [hn] at hd6 ⊢
        refine ⟨_, rfl, _, rfl, rfl, _, rfl, rfl, _, rfl, ?_⟩
        rw [neq_str]
        refine ite2 (fun z => absurd (of_decide_eq_true z) (by decide +kernel)) (fun _ => ?_)
        refine ⟨_, rfl, rfl, _, rfl, ?_⟩
        rw [neq_str]
        refine ite2 (fun z => absurd rfl (of_decide_eq_true z)) (fun _ => ?_)
        exact ⟨m, F, _, _, _, _, rfl, hR6.same s7, wf, sl6.same s7, s7 _ _ hd6⟩
      · rw [hn] at hd6 ⊢
        have hne : resW (some m') ≠ "" := stN_ne m'.st
        have sl7 := sl6.kp k7 (Ne.symm pn.o.1) (Ne.symm pn.o.2)
        have hd7 := k7.keep _ _ (ne_of hd6 hR6.at_.ob (by intro z; cases z)) hd6
        refine ⟨_, rfl, _, rfl, rfl, _, rfl, rfl, _, rfl, ?_⟩
        rw [neq_str, neq_str, decide_eq_true hne]
        refine ite2 (fun z => absurd rfl (of_decide_eq_true z)) (fun _ => ?_)
        refine ⟨_, rfl, rfl, _, rfl, ?_⟩
        rw [neq_str, decide_eq_true hne]
        refine iteT ⟨_, rfl, _, rfl, d, _, rfl, DPut.k (k := .inr "step") hd7 (mdl5 _), ?_⟩
        rw [show putK (mdl (mdA m (some m'))) (.inr "step") (.str (resW (some m'))) = mdl { m' with pl := m.pl } from p_step _ _]
        refine ⟨_, rfl, _, rfl, d, _, rfl, DPut.k (k := .inr "place") upd_same (mdl5 _), ?_⟩
        rw [show putK (mdl { m' with pl := m.pl }) (.inr "place") (.int (resP (some m'))) = mdl m' from p_place _ _]
        have hd8 : (L2.upd H7 d (.dK (mdl { m' with pl := m.pl }))) d = some (.dK (mdl { m' with pl := m.pl })) := upd_same
        have k8 := (kp_dk (kvs' := mdl { m' with pl := m.pl }) hd7).trans (kp_dk (kvs' := mdl m') hd8)
        have hd9 : (L2.upd (L2.upd H7 d (.dK (mdl { m' with pl := m.pl }))) d (.dK (mdl m'))) d = some (.dK (mdl m')) := upd_same
        generalize L2.upd (L2.upd H7 d (.dK (mdl { m' with pl := m.pl }))) d (.dK (mdl m')) = H9 at k8 hd9
        have R9 := R7.kd hd7 k8
        have sl9 := sl7.kp k8 (Ne.symm (sl7.ne_dk hd7).1) (Ne.symm (sl7.ne_dk hd7).2)
        refine ⟨_, rfl, _, rfl, rfl, .inr ⟨_, rfl, _, _, rfl, rfl, ?_⟩⟩
        rw [neq_str]
        refine ⟨m', F7, some (.int (0 + (i : Int))), some (.ref rr), some (.str (resW (some m'))), some (.int (resP (some m'))), ?_, R9, next_wf wf r9 hn, sl9, hd9⟩
        have en : F.num + (if decide (resW (some m') ≠ "done") = true then 1 else 0) = F7.num := by
          have e := stN_done m'.st
          rw [n7]
          by_cases hz : m'.st = .done
          · have hw : resW (some m') = "done" := by show stN m'.st = "done"; rw [hz]; rfl
            rw [if_pos hz, decide_eq_false (fun z => z hw)]
            rfl
          · have hw : resW (some m') ≠ "done" := fun z => by
              rw [decide_eq_true (show stN m'.st = "done" from z)] at e
              exact hz (of_decide_eq_true e.symm)
            rw [if_neg hz, decide_eq_true hw]
            rfl
        rw [← en]
        rfl
    · rintro σ H' ⟨m, F, v5, v6, v7, v8, rfl, hR, wf, sl, hd⟩
      exact hq _
end
end LW
namespace LW
open PySem PySem.Spec PyProof.Rows L2 GxR
theorem vals_app {vs zs : List V} {us ws : List Value} (h : Vals vs us) (g : Vals zs ws) : Vals (vs ++ zs) (us ++ ws) := by
  induction h with
  | nil => exact g
  | cons r _ ih => exact .cons r ih
theorem all_mk {l : PySem.W.OpenLaw} {w : World} {K : PySem.W.Frag} {h : Heap} {mg : Str → Option Value} {fa : Addr}
    {f_ad : Addr} {oc_ad kV_ad dc_ad pm_ad ct_ad cd_ad : Value} {od_ad an_ad : Option Addr} {sl_ad : Array (Option Value)}
    {f_it : Addr} {oc_it kV_it dc_it pm_it ct_it cd_it : Value} {od_it an_it : Option Addr} {sl_it : Array (Option Value)}
    {f_bt : Addr} {oc_bt kV_bt dc_bt pm_bt ct_bt cd_bt : Value} {od_bt an_bt : Option Addr} {sl_bt : Array (Option Value)}
    {f_tx : Addr} {oc_tx kV_tx dc_tx pm_tx ct_tx cd_tx : Value} {od_tx an_tx : Option Addr} {sl_tx : Array (Option Value)}
    {f_ls : Addr} {oc_ls kV_ls dc_ls pm_ls ct_ls cd_ls : Value} {od_ls an_ls : Option Addr} {sl_ls : Array (Option Value)}
    {f_lt : Addr} {oc_lt kV_lt dc_lt pm_lt ct_lt cd_lt : Value} {od_lt an_lt : Option Addr} {sl_lt : Array (Option Value)}
    {f_lx : Addr} {oc_lx kV_lx dc_lx pm_lx ct_lx cd_lx : Value} {od_lx an_lx : Option Addr} {sl_lx : Array (Option Value)}
    {f_lp : Addr} {oc_lp kV_lp dc_lp pm_lp ct_lp cd_lp : Value} {od_lp an_lp : Option Addr} {sl_lp : Array (Option Value)}
    {f_lb : Addr} {oc_lb kV_lb dc_lb pm_lb ct_lb cd_lb : Value} {od_lb an_lb : Option Addr} {sl_lb : Array (Option Value)}
    {f_lg : Addr} {oc_lg kV_lg dc_lg pm_lg ct_lg cd_lg : Value} {od_lg an_lg : Option Addr} {sl_lg : Array (Option Value)}
    {f_ly : Addr} {oc_ly kV_ly dc_ly pm_ly ct_ly cd_ly : Value} {od_ly an_ly : Option Addr} {sl_ly : Array (Option Value)}
    {f_lr : Addr} {oc_lr kV_lr dc_lr pm_lr ct_lr cd_lr : Value} {od_lr an_lr : Option Addr} {sl_lr : Array (Option Value)}
    {f_lc : Addr} {oc_lc kV_lc dc_lc pm_lc ct_lc cd_lc : Value} {od_lc an_lc : Option Addr} {sl_lc : Array (Option Value)}
    {f_ll : Addr} {oc_ll kV_ll dc_ll pm_ll ct_ll cd_ll : Value} {od_ll an_ll : Option Addr} {sl_ll : Array (Option Value)}
    {f_le : Addr} {oc_le kV_le dc_le pm_le ct_le cd_le : Value} {od_le an_le : Option Addr} {sl_le : Array (Option Value)}
    {f_ln : Addr} {oc_ln kV_ln dc_ln pm_ln ct_ln cd_ln : Value} {od_ln an_ln : Option Addr} {sl_ln : Array (Option Value)}
    {f_lq : Addr} {oc_lq kV_lq dc_lq pm_lq ct_lq cd_lq : Value} {od_lq an_lq : Option Addr} {sl_lq : Array (Option Value)}
    {f_lw : Addr} {oc_lw kV_lw dc_lw pm_lw ct_lw cd_lw : Value} {od_lw an_lw : Option Addr} {sl_lw : Array (Option Value)}
    {f_qi : Addr} {oc_qi kV_qi dc_qi pm_qi cd_qi ct_qi : Value} {od_qi an_qi : Option Addr} {sl_qi : Array (Option Value)}
    {f_qpr : Addr} {oc_qpr kV_qpr dc_qpr pm_qpr cd_qpr ct_qpr : Value} {od_qpr an_qpr : Option Addr} {sl_qpr : Array (Option Value)}
    {f_qpt : Addr} {oc_qpt kV_qpt dc_qpt pm_qpt cd_qpt ct_qpt : Value} {od_qpt an_qpt : Option Addr} {sl_qpt : Array (Option Value)}
    {f_qpi : Addr} {oc_qpi kV_qpi dc_qpi pm_qpi cd_qpi ct_qpi : Value} {od_qpi an_qpi : Option Addr} {sl_qpi : Array (Option Value)}
    {f_qpb : Addr} {oc_qpb kV_qpb dc_qpb pm_qpb cd_qpb ct_qpb : Value} {od_qpb an_qpb : Option Addr} {sl_qpb : Array (Option Value)}
    {f_qpa : Addr} {oc_qpa kV_qpa dc_qpa pm_qpa cd_qpa ct_qpa : Value} {od_qpa an_qpa : Option Addr} {sl_qpa : Array (Option Value)}
    {f_qpk : Addr} {oc_qpk kV_qpk dc_qpk pm_qpk cd_qpk ct_qpk : Value} {od_qpk an_qpk : Option Addr} {sl_qpk : Array (Option Value)}
    {f_qpl : Addr} {oc_qpl kV_qpl dc_qpl pm_qpl cd_qpl ct_qpl : Value} {od_qpl an_qpl : Option Addr} {sl_qpl : Array (Option Value)}
    {f_qpp : Addr} {oc_qpp kV_qpp dc_qpp pm_qpp cd_qpp ct_qpp : Value} {od_qpp an_qpp : Option Addr} {sl_qpp : Array (Option Value)}
    {f_qto : Addr} {oc_qto kV_qto dc_qto pm_qto cd_qto ct_qto : Value} {od_qto an_qto : Option Addr} {sl_qto : Array (Option Value)}
    {f_qth : Addr} {oc_qth kV_qth dc_qth pm_qth cd_qth ct_qth : Value} {od_qth an_qth : Option Addr} {sl_qth : Array (Option Value)}
    {f_qts : Addr} {oc_qts kV_qts dc_qts pm_qts cd_qts ct_qts : Value} {od_qts an_qts : Option Addr} {sl_qts : Array (Option Value)}
    {f_qtp : Addr} {oc_qtp kV_qtp dc_qtp pm_qtp cd_qtp ct_qtp : Value} {od_qtp an_qtp : Option Addr} {sl_qtp : Array (Option Value)}
    {f_qtf : Addr} {oc_qtf kV_qtf dc_qtf pm_qtf cd_qtf ct_qtf : Value} {od_qtf an_qtf : Option Addr} {sl_qtf : Array (Option Value)}
    {f_qtu : Addr} {oc_qtu kV_qtu dc_qtu pm_qtu cd_qtu ct_qtu : Value} {od_qtu an_qtu : Option Addr} {sl_qtu : Array (Option Value)}
    {f_qpe : Addr} {oc_qpe kV_qpe dc_qpe pm_qpe cd_qpe ct_qpe : Value} {od_qpe an_qpe : Option Addr} {sl_qpe : Array (Option Value)}
    {f_qtn : Addr} {oc_qtn kV_qtn dc_qtn pm_qtn cd_qtn ct_qtn : Value} {od_qtn an_qtn : Option Addr} {sl_qtn : Array (Option Value)}
    {f_qtc : Addr} {oc_qtc kV_qtc dc_qtc pm_qtc cd_qtc ct_qtc : Value} {od_qtc an_qtc : Option Addr} {sl_qtc : Array (Option Value)}
    {cP : Addr}
    {y0 : Tok}
    {y1 : Tok}
    {y2 : Tok}
    {y3 : Tok}
    {dKD : Addr}
    {uKD0 uKD1 uKD2 : Tok} {nKD : Nat} {kKD : Array (Option Value)}
    {dUN : Addr}
    {uUN0 uUN1 uUN2 uUN3 uUN4 : Tok} {nUN : Nat} {kUN : Array (Option Value)}
    (X : K.In h) (G : h.Ns mainGlobals mg) (hfa : mg "law" = some (.ref fa))
    (cMo : ∃ t, mg "_MODULUS" = some (.int 2305843009213693951 t))
    (a_ad : PySem.W.nsIn K mainGlobals "address_of" = some (some (.ref f_ad)))
    (l_ad : K.lookup f_ad = some ⟨oc_ad, od_ad, .func (PySem.W.fnOf "address_of" "address_of" (defArgs s_address_of) (defBody s_address_of) (defScope s_address_of) .none kV_ad dc_ad pm_ad an_ad cd_ad ct_ad), sl_ad⟩)
    (cc_ad : PySem.W.codeIn K cd_ad "address_of" = true)
    (k_ad : PySem.W.keepIn K (.ref f_ad) = true)
    (a_it : PySem.W.nsIn K mainGlobals "image_text" = some (some (.ref f_it)))
    (l_it : K.lookup f_it = some ⟨oc_it, od_it, .func (PySem.W.fnOf "image_text" "image_text" (defArgs s_image_text) (defBody s_image_text) (defScope s_image_text) .none kV_it dc_it pm_it an_it cd_it ct_it), sl_it⟩)
    (cc_it : PySem.W.codeIn K cd_it "image_text" = true)
    (k_it : PySem.W.keepIn K (.ref f_it) = true)
    (a_bt : PySem.W.nsIn K mainGlobals "bundle_text" = some (some (.ref f_bt)))
    (l_bt : K.lookup f_bt = some ⟨oc_bt, od_bt, .func (PySem.W.fnOf "bundle_text" "bundle_text" (defArgs s_bundle_text) (defBody s_bundle_text) (defScope s_bundle_text) .none kV_bt dc_bt pm_bt an_bt cd_bt ct_bt), sl_bt⟩)
    (cc_bt : PySem.W.codeIn K cd_bt "bundle_text" = true)
    (k_bt : PySem.W.keepIn K (.ref f_bt) = true)
    (a_tx : PySem.W.nsIn K mainGlobals "_text_of" = some (some (.ref f_tx)))
    (l_tx : K.lookup f_tx = some ⟨oc_tx, od_tx, .func (PySem.W.fnOf "_text_of" "_text_of" (defArgs s_text_of) (defBody s_text_of) (defScope s_text_of) .none kV_tx dc_tx pm_tx an_tx cd_tx ct_tx), sl_tx⟩)
    (cc_tx : PySem.W.codeIn K cd_tx "_text_of" = true)
    (k_tx : PySem.W.keepIn K (.ref f_tx) = true)
    (a_ls : PySem.W.nsIn K mainGlobals "_law_state" = some (some (.ref f_ls)))
    (l_ls : K.lookup f_ls = some ⟨oc_ls, od_ls, .func (PySem.W.fnOf "_law_state" "_law_state" (defArgs s_law_state) (defBody s_law_state) (defScope s_law_state) .none kV_ls dc_ls pm_ls an_ls cd_ls ct_ls), sl_ls⟩)
    (cc_ls : PySem.W.codeIn K cd_ls "_law_state" = true)
    (k_ls : PySem.W.keepIn K (.ref f_ls) = true)
    (a_lt : PySem.W.nsIn K mainGlobals "_law_take" = some (some (.ref f_lt)))
    (l_lt : K.lookup f_lt = some ⟨oc_lt, od_lt, .func (PySem.W.fnOf "_law_take" "_law_take" (defArgs s_law_take) (defBody s_law_take) (defScope s_law_take) .none kV_lt dc_lt pm_lt an_lt cd_lt ct_lt), sl_lt⟩)
    (cc_lt : PySem.W.codeIn K cd_lt "_law_take" = true)
    (k_lt : PySem.W.keepIn K (.ref f_lt) = true)
    (a_lx : PySem.W.nsIn K mainGlobals "_law_text" = some (some (.ref f_lx)))
    (l_lx : K.lookup f_lx = some ⟨oc_lx, od_lx, .func (PySem.W.fnOf "_law_text" "_law_text" (defArgs s_law_text) (defBody s_law_text) (defScope s_law_text) .none kV_lx dc_lx pm_lx an_lx cd_lx ct_lx), sl_lx⟩)
    (cc_lx : PySem.W.codeIn K cd_lx "_law_text" = true)
    (k_lx : PySem.W.keepIn K (.ref f_lx) = true)
    (a_lp : PySem.W.nsIn K mainGlobals "_law_pusher" = some (some (.ref f_lp)))
    (l_lp : K.lookup f_lp = some ⟨oc_lp, od_lp, .func (PySem.W.fnOf "_law_pusher" "_law_pusher" (defArgs s_law_pusher) (defBody s_law_pusher) (defScope s_law_pusher) .none kV_lp dc_lp pm_lp an_lp cd_lp ct_lp), sl_lp⟩)
    (cc_lp : PySem.W.codeIn K cd_lp "_law_pusher" = true)
    (k_lp : PySem.W.keepIn K (.ref f_lp) = true)
    (a_lb : PySem.W.nsIn K mainGlobals "_law_blobs" = some (some (.ref f_lb)))
    (l_lb : K.lookup f_lb = some ⟨oc_lb, od_lb, .func (PySem.W.fnOf "_law_blobs" "_law_blobs" (defArgs s_law_blobs) (defBody s_law_blobs) (defScope s_law_blobs) .none kV_lb dc_lb pm_lb an_lb cd_lb ct_lb), sl_lb⟩)
    (cc_lb : PySem.W.codeIn K cd_lb "_law_blobs" = true)
    (k_lb : PySem.W.keepIn K (.ref f_lb) = true)
    (a_lg : PySem.W.nsIn K mainGlobals "_law_target" = some (some (.ref f_lg)))
    (l_lg : K.lookup f_lg = some ⟨oc_lg, od_lg, .func (PySem.W.fnOf "_law_target" "_law_target" (defArgs s_law_target) (defBody s_law_target) (defScope s_law_target) .none kV_lg dc_lg pm_lg an_lg cd_lg ct_lg), sl_lg⟩)
    (cc_lg : PySem.W.codeIn K cd_lg "_law_target" = true)
    (k_lg : PySem.W.keepIn K (.ref f_lg) = true)
    (a_ly : PySem.W.nsIn K mainGlobals "_law_layer" = some (some (.ref f_ly)))
    (l_ly : K.lookup f_ly = some ⟨oc_ly, od_ly, .func (PySem.W.fnOf "_law_layer" "_law_layer" (defArgs s_law_layer) (defBody s_law_layer) (defScope s_law_layer) .none kV_ly dc_ly pm_ly an_ly cd_ly ct_ly), sl_ly⟩)
    (cc_ly : PySem.W.codeIn K cd_ly "_law_layer" = true)
    (k_ly : PySem.W.keepIn K (.ref f_ly) = true)
    (a_lr : PySem.W.nsIn K mainGlobals "_law_request" = some (some (.ref f_lr)))
    (l_lr : K.lookup f_lr = some ⟨oc_lr, od_lr, .func (PySem.W.fnOf "_law_request" "_law_request" (defArgs s_law_request) (defBody s_law_request) (defScope s_law_request) .none kV_lr dc_lr pm_lr an_lr cd_lr ct_lr), sl_lr⟩)
    (cc_lr : PySem.W.codeIn K cd_lr "_law_request" = true)
    (k_lr : PySem.W.keepIn K (.ref f_lr) = true)
    (a_lc : PySem.W.nsIn K mainGlobals "_law_place" = some (some (.ref f_lc)))
    (l_lc : K.lookup f_lc = some ⟨oc_lc, od_lc, .func (PySem.W.fnOf "_law_place" "_law_place" (defArgs s_law_place) (defBody s_law_place) (defScope s_law_place) .none kV_lc dc_lc pm_lc an_lc cd_lc ct_lc), sl_lc⟩)
    (cc_lc : PySem.W.codeIn K cd_lc "_law_place" = true)
    (k_lc : PySem.W.keepIn K (.ref f_lc) = true)
    (a_ll : PySem.W.nsIn K mainGlobals "_law_layer_step" = some (some (.ref f_ll)))
    (l_ll : K.lookup f_ll = some ⟨oc_ll, od_ll, .func (PySem.W.fnOf "_law_layer_step" "_law_layer_step" (defArgs s_law_layer_step) (defBody s_law_layer_step) (defScope s_law_layer_step) .none kV_ll dc_ll pm_ll an_ll cd_ll ct_ll), sl_ll⟩)
    (cc_ll : PySem.W.codeIn K cd_ll "_law_layer_step" = true)
    (k_ll : PySem.W.keepIn K (.ref f_ll) = true)
    (a_le : PySem.W.nsIn K mainGlobals "_law_end_step" = some (some (.ref f_le)))
    (l_le : K.lookup f_le = some ⟨oc_le, od_le, .func (PySem.W.fnOf "_law_end_step" "_law_end_step" (defArgs s_law_end_step) (defBody s_law_end_step) (defScope s_law_end_step) .none kV_le dc_le pm_le an_le cd_le ct_le), sl_le⟩)
    (cc_le : PySem.W.codeIn K cd_le "_law_end_step" = true)
    (k_le : PySem.W.keepIn K (.ref f_le) = true)
    (a_ln : PySem.W.nsIn K mainGlobals "_law_next" = some (some (.ref f_ln)))
    (l_ln : K.lookup f_ln = some ⟨oc_ln, od_ln, .func (PySem.W.fnOf "_law_next" "_law_next" (defArgs s_law_next) (defBody s_law_next) (defScope s_law_next) .none kV_ln dc_ln pm_ln an_ln cd_ln ct_ln), sl_ln⟩)
    (cc_ln : PySem.W.codeIn K cd_ln "_law_next" = true)
    (k_ln : PySem.W.keepIn K (.ref f_ln) = true)
    (a_lq : PySem.W.nsIn K mainGlobals "_law_reply" = some (some (.ref f_lq)))
    (l_lq : K.lookup f_lq = some ⟨oc_lq, od_lq, .func (PySem.W.fnOf "_law_reply" "_law_reply" (defArgs s_law_reply) (defBody s_law_reply) (defScope s_law_reply) .none kV_lq dc_lq pm_lq an_lq cd_lq ct_lq), sl_lq⟩)
    (cc_lq : PySem.W.codeIn K cd_lq "_law_reply" = true)
    (k_lq : PySem.W.keepIn K (.ref f_lq) = true)
    (a_lw : PySem.W.nsIn K mainGlobals "law" = some (some (.ref f_lw)))
    (l_lw : K.lookup f_lw = some ⟨oc_lw, od_lw, .func (PySem.W.fnOf "law" "law" (defArgs s_law) (defBody s_law) (defScope s_law) .none kV_lw dc_lw pm_lw an_lw cd_lw ct_lw), sl_lw⟩)
    (cc_lw : PySem.W.codeIn K cd_lw "law" = true)
    (k_lw : PySem.W.keepIn K (.ref f_lw) = true)
    (g_cP : PySem.W.nsIn K mainGlobals "Pusher" = some (some (.ref cP)))
    (pg_cP : PySem.W.plainGet K cP Str.empty = true)
    (hd_cP : PySem.W.hasDictIn K cP = true)
    (po_cP : PySem.W.plainOver K cP = true)
    (sa_cP : PySem.W.findIn K (.ref cP) "__setattr__" = some (some (.builtin "object.__setattr__")))
    (mk_cP : PySem.W.makesIn K cP = true)
    (kc_cP : PySem.W.keepIn K (.ref cP) = true)
    (z0 : PySem.W.nsIn K mainGlobals "abs" = some none)
    (z1 : PySem.W.nsIn K mainGlobals "int" = some none)
    (z2 : PySem.W.nsIn K mainGlobals "len" = some none)
    (z3 : PySem.W.nsIn K mainGlobals "list" = some none)
    (z4 : PySem.W.nsIn K mainGlobals "min" = some none)
    (z5 : PySem.W.nsIn K mainGlobals "ord" = some none)
    (z6 : PySem.W.nsIn K mainGlobals "range" = some none)
    (z7 : PySem.W.nsIn K mainGlobals "repr" = some none)
    (v0 : PySem.W.nsIn K mainGlobals "_FACTOR" = some (some (.int 257 y0)))
    (v1 : PySem.W.nsIn K mainGlobals "_IMAGE" = some (some (.str "image" y1)))
    (v2 : PySem.W.nsIn K mainGlobals "_BUNDLE" = some (some (.str "bundle" y2)))
    (v3 : PySem.W.nsIn K mainGlobals "PART" = some (some (.int 4 y3)))
    (aKD : PySem.W.nsIn K mainGlobals "KINDS" = some (some (.ref dKD)))
    (lKD : K.lookup dKD = some ⟨.type "tuple", none, .seq #[.str "layer" uKD0, .str "image" uKD1, .str "bundle" uKD2] nKD, kKD⟩)
    (aUN : PySem.W.nsIn K mainGlobals "_UNDER_A_CLAIM" = some (some (.ref dUN)))
    (lUN : K.lookup dUN = some ⟨.type "tuple", none, .seq #[.str "has" uUN0, .str "start" uUN1, .str "finish" uUN2, .str "put" uUN3, .str "name" uUN4] nUN, kUN⟩)
    (n0 : PySem.W.findIn K (.ref cP) "layers" = some none)
    (n1 : PySem.W.findIn K (.ref cP) "name" = some none)
    (n2 : PySem.W.findIn K (.ref cP) "platform" = some none)
    (n3 : PySem.W.findIn K (.ref cP) "number" = some none)
    (n4 : PySem.W.findIn K (.ref cP) "done" = some none)
    (n5 : PySem.W.findIn K (.ref cP) "_addresses" = some none)
    (n6 : PySem.W.findIn K (.ref cP) "_index" = some none)
    (n7 : PySem.W.findIn K (.ref cP) "_claim" = some none)
    (n8 : PySem.W.findIn K (.ref cP) "_upload" = some none)
    (n9 : PySem.W.findIn K (.ref cP) "_request" = some none)
    (a_qi : PySem.W.findIn K (.ref cP) "__init__" = some (some (.ref f_qi)))
    (i_qi : PySem.W.isFn K (.ref f_qi) = true)
    (l_qi : K.lookup f_qi = some ⟨oc_qi, od_qi, .func (PySem.W.fnOf "__init__" "Pusher.__init__" (defArgs s_Pusher___init) (defBody s_Pusher___init) (defScope s_Pusher___init) .none kV_qi dc_qi pm_qi an_qi cd_qi ct_qi), sl_qi⟩)
    (cc_qi : PySem.W.codeIn K cd_qi "Pusher.__init__" = true)
    (k_qi : PySem.W.keepIn K (.ref f_qi) = true)
    (a_qpr : PySem.W.findIn K (.ref cP) "request" = some (some (.ref f_qpr)))
    (i_qpr : PySem.W.isFn K (.ref f_qpr) = true)
    (l_qpr : K.lookup f_qpr = some ⟨oc_qpr, od_qpr, .func (PySem.W.fnOf "request" "Pusher.request" (defArgs s_Pusher_request) (defBody s_Pusher_request) (defScope s_Pusher_request) .none kV_qpr dc_qpr pm_qpr an_qpr cd_qpr ct_qpr), sl_qpr⟩)
    (cc_qpr : PySem.W.codeIn K cd_qpr "Pusher.request" = true)
    (k_qpr : PySem.W.keepIn K (.ref f_qpr) = true)
    (a_qpt : PySem.W.findIn K (.ref cP) "take" = some (some (.ref f_qpt)))
    (i_qpt : PySem.W.isFn K (.ref f_qpt) = true)
    (l_qpt : K.lookup f_qpt = some ⟨oc_qpt, od_qpt, .func (PySem.W.fnOf "take" "Pusher.take" (defArgs s_Pusher_take) (defBody s_Pusher_take) (defScope s_Pusher_take) .none kV_qpt dc_qpt pm_qpt an_qpt cd_qpt ct_qpt), sl_qpt⟩)
    (cc_qpt : PySem.W.codeIn K cd_qpt "Pusher.take" = true)
    (k_qpt : PySem.W.keepIn K (.ref f_qpt) = true)
    (a_qpi : PySem.W.findIn K (.ref cP) "image" = some (some (.ref f_qpi)))
    (i_qpi : PySem.W.isFn K (.ref f_qpi) = true)
    (l_qpi : K.lookup f_qpi = some ⟨oc_qpi, od_qpi, .func (PySem.W.fnOf "image" "Pusher.image" (defArgs s_Pusher_image) (defBody s_Pusher_image) (defScope s_Pusher_image) .none kV_qpi dc_qpi pm_qpi an_qpi cd_qpi ct_qpi), sl_qpi⟩)
    (cc_qpi : PySem.W.codeIn K cd_qpi "Pusher.image" = true)
    (k_qpi : PySem.W.keepIn K (.ref f_qpi) = true)
    (a_qpb : PySem.W.findIn K (.ref cP) "bundle" = some (some (.ref f_qpb)))
    (i_qpb : PySem.W.isFn K (.ref f_qpb) = true)
    (l_qpb : K.lookup f_qpb = some ⟨oc_qpb, od_qpb, .func (PySem.W.fnOf "bundle" "Pusher.bundle" (defArgs s_Pusher_bundle) (defBody s_Pusher_bundle) (defScope s_Pusher_bundle) .none kV_qpb dc_qpb pm_qpb an_qpb cd_qpb ct_qpb), sl_qpb⟩)
    (cc_qpb : PySem.W.codeIn K cd_qpb "Pusher.bundle" = true)
    (k_qpb : PySem.W.keepIn K (.ref f_qpb) = true)
    (a_qpa : PySem.W.findIn K (.ref cP) "address" = some (some (.ref f_qpa)))
    (i_qpa : PySem.W.isFn K (.ref f_qpa) = true)
    (l_qpa : K.lookup f_qpa = some ⟨oc_qpa, od_qpa, .func (PySem.W.fnOf "address" "Pusher.address" (defArgs s_Pusher_address) (defBody s_Pusher_address) (defScope s_Pusher_address) .none kV_qpa dc_qpa pm_qpa an_qpa cd_qpa ct_qpa), sl_qpa⟩)
    (cc_qpa : PySem.W.codeIn K cd_qpa "Pusher.address" = true)
    (k_qpa : PySem.W.keepIn K (.ref f_qpa) = true)
    (a_qpk : PySem.W.findIn K (.ref cP) "_ask" = some (some (.ref f_qpk)))
    (i_qpk : PySem.W.isFn K (.ref f_qpk) = true)
    (l_qpk : K.lookup f_qpk = some ⟨oc_qpk, od_qpk, .func (PySem.W.fnOf "_ask" "Pusher._ask" (defArgs s_Pusher__ask) (defBody s_Pusher__ask) (defScope s_Pusher__ask) .none kV_qpk dc_qpk pm_qpk an_qpk cd_qpk ct_qpk), sl_qpk⟩)
    (cc_qpk : PySem.W.codeIn K cd_qpk "Pusher._ask" = true)
    (k_qpk : PySem.W.keepIn K (.ref f_qpk) = true)
    (a_qpl : PySem.W.findIn K (.ref cP) "_ask_layer" = some (some (.ref f_qpl)))
    (i_qpl : PySem.W.isFn K (.ref f_qpl) = true)
    (l_qpl : K.lookup f_qpl = some ⟨oc_qpl, od_qpl, .func (PySem.W.fnOf "_ask_layer" "Pusher._ask_layer" (defArgs s_Pusher__ask_layer) (defBody s_Pusher__ask_layer) (defScope s_Pusher__ask_layer) .none kV_qpl dc_qpl pm_qpl an_qpl cd_qpl ct_qpl), sl_qpl⟩)
    (cc_qpl : PySem.W.codeIn K cd_qpl "Pusher._ask_layer" = true)
    (k_qpl : PySem.W.keepIn K (.ref f_qpl) = true)
    (a_qpp : PySem.W.findIn K (.ref cP) "_ask_part" = some (some (.ref f_qpp)))
    (i_qpp : PySem.W.isFn K (.ref f_qpp) = true)
    (l_qpp : K.lookup f_qpp = some ⟨oc_qpp, od_qpp, .func (PySem.W.fnOf "_ask_part" "Pusher._ask_part" (defArgs s_Pusher__ask_part) (defBody s_Pusher__ask_part) (defScope s_Pusher__ask_part) .none kV_qpp dc_qpp pm_qpp an_qpp cd_qpp ct_qpp), sl_qpp⟩)
    (cc_qpp : PySem.W.codeIn K cd_qpp "Pusher._ask_part" = true)
    (k_qpp : PySem.W.keepIn K (.ref f_qpp) = true)
    (a_qto : PySem.W.findIn K (.ref cP) "_take_open" = some (some (.ref f_qto)))
    (i_qto : PySem.W.isFn K (.ref f_qto) = true)
    (l_qto : K.lookup f_qto = some ⟨oc_qto, od_qto, .func (PySem.W.fnOf "_take_open" "Pusher._take_open" (defArgs s_Pusher__take_open) (defBody s_Pusher__take_open) (defScope s_Pusher__take_open) .none kV_qto dc_qto pm_qto an_qto cd_qto ct_qto), sl_qto⟩)
    (cc_qto : PySem.W.codeIn K cd_qto "Pusher._take_open" = true)
    (k_qto : PySem.W.keepIn K (.ref f_qto) = true)
    (a_qth : PySem.W.findIn K (.ref cP) "_take_has" = some (some (.ref f_qth)))
    (i_qth : PySem.W.isFn K (.ref f_qth) = true)
    (l_qth : K.lookup f_qth = some ⟨oc_qth, od_qth, .func (PySem.W.fnOf "_take_has" "Pusher._take_has" (defArgs s_Pusher__take_has) (defBody s_Pusher__take_has) (defScope s_Pusher__take_has) .none kV_qth dc_qth pm_qth an_qth cd_qth ct_qth), sl_qth⟩)
    (cc_qth : PySem.W.codeIn K cd_qth "Pusher._take_has" = true)
    (k_qth : PySem.W.keepIn K (.ref f_qth) = true)
    (a_qts : PySem.W.findIn K (.ref cP) "_take_start" = some (some (.ref f_qts)))
    (i_qts : PySem.W.isFn K (.ref f_qts) = true)
    (l_qts : K.lookup f_qts = some ⟨oc_qts, od_qts, .func (PySem.W.fnOf "_take_start" "Pusher._take_start" (defArgs s_Pusher__take_start) (defBody s_Pusher__take_start) (defScope s_Pusher__take_start) .none kV_qts dc_qts pm_qts an_qts cd_qts ct_qts), sl_qts⟩)
    (cc_qts : PySem.W.codeIn K cd_qts "Pusher._take_start" = true)
    (k_qts : PySem.W.keepIn K (.ref f_qts) = true)
    (a_qtp : PySem.W.findIn K (.ref cP) "_take_part" = some (some (.ref f_qtp)))
    (i_qtp : PySem.W.isFn K (.ref f_qtp) = true)
    (l_qtp : K.lookup f_qtp = some ⟨oc_qtp, od_qtp, .func (PySem.W.fnOf "_take_part" "Pusher._take_part" (defArgs s_Pusher__take_part) (defBody s_Pusher__take_part) (defScope s_Pusher__take_part) .none kV_qtp dc_qtp pm_qtp an_qtp cd_qtp ct_qtp), sl_qtp⟩)
    (cc_qtp : PySem.W.codeIn K cd_qtp "Pusher._take_part" = true)
    (k_qtp : PySem.W.keepIn K (.ref f_qtp) = true)
    (a_qtf : PySem.W.findIn K (.ref cP) "_take_finish" = some (some (.ref f_qtf)))
    (i_qtf : PySem.W.isFn K (.ref f_qtf) = true)
    (l_qtf : K.lookup f_qtf = some ⟨oc_qtf, od_qtf, .func (PySem.W.fnOf "_take_finish" "Pusher._take_finish" (defArgs s_Pusher__take_finish) (defBody s_Pusher__take_finish) (defScope s_Pusher__take_finish) .none kV_qtf dc_qtf pm_qtf an_qtf cd_qtf ct_qtf), sl_qtf⟩)
    (cc_qtf : PySem.W.codeIn K cd_qtf "Pusher._take_finish" = true)
    (k_qtf : PySem.W.keepIn K (.ref f_qtf) = true)
    (a_qtu : PySem.W.findIn K (.ref cP) "_take_put" = some (some (.ref f_qtu)))
    (i_qtu : PySem.W.isFn K (.ref f_qtu) = true)
    (l_qtu : K.lookup f_qtu = some ⟨oc_qtu, od_qtu, .func (PySem.W.fnOf "_take_put" "Pusher._take_put" (defArgs s_Pusher__take_put) (defBody s_Pusher__take_put) (defScope s_Pusher__take_put) .none kV_qtu dc_qtu pm_qtu an_qtu cd_qtu ct_qtu), sl_qtu⟩)
    (cc_qtu : PySem.W.codeIn K cd_qtu "Pusher._take_put" = true)
    (k_qtu : PySem.W.keepIn K (.ref f_qtu) = true)
    (a_qpe : PySem.W.findIn K (.ref cP) "_ask_behind" = some (some (.ref f_qpe)))
    (i_qpe : PySem.W.isFn K (.ref f_qpe) = true)
    (l_qpe : K.lookup f_qpe = some ⟨oc_qpe, od_qpe, .func (PySem.W.fnOf "_ask_behind" "Pusher._ask_behind" (defArgs s_Pusher__ask_behind) (defBody s_Pusher__ask_behind) (defScope s_Pusher__ask_behind) .none kV_qpe dc_qpe pm_qpe an_qpe cd_qpe ct_qpe), sl_qpe⟩)
    (cc_qpe : PySem.W.codeIn K cd_qpe "Pusher._ask_behind" = true)
    (k_qpe : PySem.W.keepIn K (.ref f_qpe) = true)
    (a_qtn : PySem.W.findIn K (.ref cP) "_take_name" = some (some (.ref f_qtn)))
    (i_qtn : PySem.W.isFn K (.ref f_qtn) = true)
    (l_qtn : K.lookup f_qtn = some ⟨oc_qtn, od_qtn, .func (PySem.W.fnOf "_take_name" "Pusher._take_name" (defArgs s_Pusher__take_name) (defBody s_Pusher__take_name) (defScope s_Pusher__take_name) .none kV_qtn dc_qtn pm_qtn an_qtn cd_qtn ct_qtn), sl_qtn⟩)
    (cc_qtn : PySem.W.codeIn K cd_qtn "Pusher._take_name" = true)
    (k_qtn : PySem.W.keepIn K (.ref f_qtn) = true)
    (a_qtc : PySem.W.findIn K (.ref cP) "_take_close" = some (some (.ref f_qtc)))
    (i_qtc : PySem.W.isFn K (.ref f_qtc) = true)
    (l_qtc : K.lookup f_qtc = some ⟨oc_qtc, od_qtc, .func (PySem.W.fnOf "_take_close" "Pusher._take_close" (defArgs s_Pusher__take_close) (defBody s_Pusher__take_close) (defScope s_Pusher__take_close) .none kV_qtc dc_qtc pm_qtc an_qtc cd_qtc ct_qtc), sl_qtc⟩)
    (cc_qtc : PySem.W.codeIn K cd_qtc "Pusher._take_close" = true)
    (k_qtc : PySem.W.keepIn K (.ref f_qtc) = true) :
    LamX.LawAtS l w K CX0 9 63 "script" mg fa h := by
  have e := hfa.symm.trans (PySem.W.mg_of X G a_lw)
  cases e
  have T : Tx K mg cP := ⟨PySem.W.mg_none_of X G z0, PySem.W.mg_none_of X G z1, PySem.W.mg_none_of X G z2, PySem.W.mg_none_of X G z3, PySem.W.mg_none_of X G z4, PySem.W.mg_none_of X G z5, PySem.W.mg_none_of X G z6, PySem.W.mg_none_of X G z7, ⟨dKD, PySem.W.mg_of X G aKD, _, _, _, lKD, rfl, rfl, rfl, (by show 3 ≤ sizeLine; decide), .cons ⟨_, rfl⟩ (.cons ⟨_, rfl⟩ (.cons ⟨_, rfl⟩ .nil))⟩, ⟨dUN, PySem.W.mg_of X G aUN, _, _, _, lUN, rfl, rfl, rfl, (by show 5 ≤ sizeLine; decide), .cons ⟨_, rfl⟩ (.cons ⟨_, rfl⟩ (.cons ⟨_, rfl⟩ (.cons ⟨_, rfl⟩ (.cons ⟨_, rfl⟩ .nil))))⟩, ⟨_, PySem.W.mg_of X G v0⟩, cMo, ⟨_, PySem.W.mg_of X G v1⟩, ⟨_, PySem.W.mg_of X G v2⟩, ⟨_, PySem.W.mg_of X G v3⟩, PySem.W.mg_of X G g_cP, ⟨pg_cP, hd_cP, po_cP, sa_cP⟩, n0, n1, n2, n3, n4, n5, n6, n7, n8, n9⟩
  have DT : DefAt K mg "_text_of" s_text_of P_text_of f_tx _ := (⟨(fun_mk (st := s_text_of) l_tx cc_tx k_tx), PySem.W.mg_of X G a_tx, ((fun_mk (st := s_text_of) l_tx cc_tx k_tx).binds fun _ _ _ _ _ _ us hl => match us, hl with | [_, _], _ => rfl)⟩ : DefAt K mg _ _ _ _ _)
  refine ⟨PySem.W.fnOf "law" "law" (defArgs s_law) (defBody s_law) (defScope s_law) .none kV_lw dc_lw pm_lw an_lw cd_lw ct_lw, [], sp_law K, (fun p hp => nomatch hp), (fun p hp => nomatch hp), (fun p hp => nomatch hp), ?_, ?_, ?_⟩
  · exact fun s v => .of_eq rfl
  · intro H a ns hl _ hH hS
    exact ⟨a, ns, rfl, hS, hl, fun _ => rfl⟩
  · intro base _ _ hT
    have C_ad : Cal l.prog w K mg base CX0 1 "address_of" P_address_of spAddr := ⟨_, _, ok_address_of (fun_mk (st := s_address_of) l_ad cc_ad k_ad) T, PySem.W.mg_of X G a_ad, k_ad, ((fun_mk (st := s_address_of) l_ad cc_ad k_ad).binds fun _ _ _ _ _ _ us hl => match us, hl with | [_, _], _ => rfl)⟩
    have C_it : Cal l.prog w K mg base CX0 2 "image_text" P_image_text (spImage K) := ⟨_, _, ok_image_text (fun_mk (st := s_image_text) l_it cc_it k_it) T DT, PySem.W.mg_of X G a_it, k_it, ((fun_mk (st := s_image_text) l_it cc_it k_it).binds fun _ _ _ _ _ _ us hl => match us, hl with | [_], _ => rfl)⟩
    have C_bt : Cal l.prog w K mg base CX0 2 "bundle_text" P_bundle_text (spBundle K) := ⟨_, _, ok_bundle_text (fun_mk (st := s_bundle_text) l_bt cc_bt k_bt) T DT, PySem.W.mg_of X G a_bt, k_bt, ((fun_mk (st := s_bundle_text) l_bt cc_bt k_bt).binds fun _ _ _ _ _ _ us hl => match us, hl with | [_], _ => rfl)⟩
    have C_ls : Cal l.prog w K mg base CX0 1 "_law_state" P_law_state (spState K) := ⟨_, _, ok_state (fun_mk (st := s_law_state) l_ls cc_ls k_ls) T, PySem.W.mg_of X G a_ls, k_ls, ((fun_mk (st := s_law_state) l_ls cc_ls k_ls).binds fun _ _ _ _ _ _ us hl => match us, hl with | [_], _ => rfl)⟩
    have C_lt : Cal l.prog w K mg base CX0 1 "_law_take" P_law_take spTake := ⟨_, _, ok_take (fun_mk (st := s_law_take) l_lt cc_lt k_lt) T.len T.int, PySem.W.mg_of X G a_lt, k_lt, ((fun_mk (st := s_law_take) l_lt cc_lt k_lt).binds fun _ _ _ _ _ _ us hl => match us, hl with | [_, _], _ => rfl)⟩
    have C_lx : Cal l.prog w K mg base CX0 2 "_law_text" P_law_text spText := ⟨_, _, ok_law_text (fun_mk (st := s_law_text) l_lx cc_lx k_lx) T C_lt, PySem.W.mg_of X G a_lx, k_lx, ((fun_mk (st := s_law_text) l_lx cc_lx k_lx).binds fun _ _ _ _ _ _ us hl => match us, hl with | [_, _], _ => rfl)⟩
    have Mrequest : CalM l.prog w K mg base CX0 1 cP "request" P_Pusher_request (sp_Pusher_request cP) := ⟨_, _, ok_Pusher_request (fun_mk (st := s_Pusher_request) l_qpr cc_qpr k_qpr) T, T.clP, ⟨a_qpr, i_qpr, k_qpr⟩, ((fun_mk (st := s_Pusher_request) l_qpr cc_qpr k_qpr).binds fun _ _ _ _ _ _ us hl => match us, hl with | [_], _ => rfl)⟩
    have M_ask : CalM l.prog w K mg base CX0 1 cP "_ask" P_Pusher__ask (sp_Pusher__ask cP) := ⟨_, _, ok_Pusher__ask (fun_mk (st := s_Pusher__ask) l_qpk cc_qpk k_qpk) T, T.clP, ⟨a_qpk, i_qpk, k_qpk⟩, ((fun_mk (st := s_Pusher__ask) l_qpk cc_qpk k_qpk).binds fun _ _ _ _ _ _ us hl => match us, hl with | [_, _], _ => rfl)⟩
    have Mimage : CalM l.prog w K mg base CX0 3 cP "image" P_Pusher_image (sp_Pusher_image cP) := ⟨_, _, ok_Pusher_image (fun_mk (st := s_Pusher_image) l_qpi cc_qpi k_qpi) T C_it, T.clP, ⟨a_qpi, i_qpi, k_qpi⟩, ((fun_mk (st := s_Pusher_image) l_qpi cc_qpi k_qpi).binds fun _ _ _ _ _ _ us hl => match us, hl with | [_], _ => rfl)⟩
    have Mbundle : CalM l.prog w K mg base CX0 4 cP "bundle" P_Pusher_bundle (sp_Pusher_bundle cP) := ⟨_, _, ok_Pusher_bundle (fun_mk (st := s_Pusher_bundle) l_qpb cc_qpb k_qpb) T Mimage C_ad C_bt, T.clP, ⟨a_qpb, i_qpb, k_qpb⟩, ((fun_mk (st := s_Pusher_bundle) l_qpb cc_qpb k_qpb).binds fun _ _ _ _ _ _ us hl => match us, hl with | [_], _ => rfl)⟩
    have Maddress : CalM l.prog w K mg base CX0 5 cP "address" P_Pusher_address (sp_Pusher_address cP) := ⟨_, _, ok_Pusher_address (fun_mk (st := s_Pusher_address) l_qpa cc_qpa k_qpa) T Mbundle Mimage C_ad, T.clP, ⟨a_qpa, i_qpa, k_qpa⟩, ((fun_mk (st := s_Pusher_address) l_qpa cc_qpa k_qpa).binds fun _ _ _ _ _ _ us hl => match us, hl with | [_], _ => rfl)⟩
    have M_ask_layer : CalM l.prog w K mg base CX0 4 cP "_ask_layer" P_Pusher__ask_layer (sp_Pusher__ask_layer cP) := ⟨_, _, ok_Pusher__ask_layer (fun_mk (st := s_Pusher__ask_layer) l_qpl cc_qpl k_qpl) T M_ask Mimage, T.clP, ⟨a_qpl, i_qpl, k_qpl⟩, ((fun_mk (st := s_Pusher__ask_layer) l_qpl cc_qpl k_qpl).binds fun _ _ _ _ _ _ us hl => match us, hl with | [_, _], _ => rfl)⟩
    have M_ask_part : CalM l.prog w K mg base CX0 2 cP "_ask_part" P_Pusher__ask_part (sp_Pusher__ask_part cP) := ⟨_, _, ok_Pusher__ask_part (fun_mk (st := s_Pusher__ask_part) l_qpp cc_qpp k_qpp) T M_ask, T.clP, ⟨a_qpp, i_qpp, k_qpp⟩, ((fun_mk (st := s_Pusher__ask_part) l_qpp cc_qpp k_qpp).binds fun _ _ _ _ _ _ us hl => match us, hl with | [_, _], _ => rfl)⟩
    have M_ask_behind : CalM l.prog w K mg base CX0 6 cP "_ask_behind" P_Pusher__ask_behind (sp_Pusher__ask_behind cP) := ⟨_, _, ok_Pusher__ask_behind (fun_mk (st := s_Pusher__ask_behind) l_qpe cc_qpe k_qpe) T M_ask Maddress Mbundle, T.clP, ⟨a_qpe, i_qpe, k_qpe⟩, ((fun_mk (st := s_Pusher__ask_behind) l_qpe cc_qpe k_qpe).binds fun _ _ _ _ _ _ us hl => match us, hl with | [_, _], _ => rfl)⟩
    have M_take_open : CalM l.prog w K mg base CX0 5 cP "_take_open" P_Pusher__take_open (sp_Pusher__take_open cP) := ⟨_, _, ok_Pusher__take_open (fun_mk (st := s_Pusher__take_open) l_qto cc_qto k_qto) T M_ask_layer, T.clP, ⟨a_qto, i_qto, k_qto⟩, ((fun_mk (st := s_Pusher__take_open) l_qto cc_qto k_qto).binds fun _ _ _ _ _ _ us hl => match us, hl with | [_, _], _ => rfl)⟩
    have M_take_has : CalM l.prog w K mg base CX0 5 cP "_take_has" P_Pusher__take_has (sp_Pusher__take_has cP) := ⟨_, _, ok_Pusher__take_has (fun_mk (st := s_Pusher__take_has) l_qth cc_qth k_qth) T M_ask M_ask_layer, T.clP, ⟨a_qth, i_qth, k_qth⟩, ((fun_mk (st := s_Pusher__take_has) l_qth cc_qth k_qth).binds fun _ _ _ _ _ _ us hl => match us, hl with | [_, _], _ => rfl)⟩
    have M_take_start : CalM l.prog w K mg base CX0 3 cP "_take_start" P_Pusher__take_start (sp_Pusher__take_start cP) := ⟨_, _, ok_Pusher__take_start (fun_mk (st := s_Pusher__take_start) l_qts cc_qts k_qts) T M_ask_part, T.clP, ⟨a_qts, i_qts, k_qts⟩, ((fun_mk (st := s_Pusher__take_start) l_qts cc_qts k_qts).binds fun _ _ _ _ _ _ us hl => match us, hl with | [_, _], _ => rfl)⟩
    have M_take_part : CalM l.prog w K mg base CX0 5 cP "_take_part" P_Pusher__take_part (sp_Pusher__take_part cP) := ⟨_, _, ok_Pusher__take_part (fun_mk (st := s_Pusher__take_part) l_qtp cc_qtp k_qtp) T M_ask_layer M_ask_part, T.clP, ⟨a_qtp, i_qtp, k_qtp⟩, ((fun_mk (st := s_Pusher__take_part) l_qtp cc_qtp k_qtp).binds fun _ _ _ _ _ _ us hl => match us, hl with | [_, _], _ => rfl)⟩
    have M_take_finish : CalM l.prog w K mg base CX0 5 cP "_take_finish" P_Pusher__take_finish (sp_Pusher__take_finish cP) := ⟨_, _, ok_Pusher__take_finish (fun_mk (st := s_Pusher__take_finish) l_qtf cc_qtf k_qtf) T M_ask M_ask_layer, T.clP, ⟨a_qtf, i_qtf, k_qtf⟩, ((fun_mk (st := s_Pusher__take_finish) l_qtf cc_qtf k_qtf).binds fun _ _ _ _ _ _ us hl => match us, hl with | [_, _], _ => rfl)⟩
    have M_take_put : CalM l.prog w K mg base CX0 7 cP "_take_put" P_Pusher__take_put (sp_Pusher__take_put cP) := ⟨_, _, ok_Pusher__take_put (fun_mk (st := s_Pusher__take_put) l_qtu cc_qtu k_qtu) T M_ask M_ask_behind M_ask_layer C_ad, T.clP, ⟨a_qtu, i_qtu, k_qtu⟩, ((fun_mk (st := s_Pusher__take_put) l_qtu cc_qtu k_qtu).binds fun _ _ _ _ _ _ us hl => match us, hl with | [_, _], _ => rfl)⟩
    have M_take_name : CalM l.prog w K mg base CX0 6 cP "_take_name" P_Pusher__take_name (sp_Pusher__take_name cP) := ⟨_, _, ok_Pusher__take_name (fun_mk (st := s_Pusher__take_name) l_qtn cc_qtn k_qtn) T M_ask M_ask_layer Maddress, T.clP, ⟨a_qtn, i_qtn, k_qtn⟩, ((fun_mk (st := s_Pusher__take_name) l_qtn cc_qtn k_qtn).binds fun _ _ _ _ _ _ us hl => match us, hl with | [_, _], _ => rfl)⟩
    have M_take_close : CalM l.prog w K mg base CX0 1 cP "_take_close" P_Pusher__take_close (sp_Pusher__take_close cP) := ⟨_, _, ok_Pusher__take_close (fun_mk (st := s_Pusher__take_close) l_qtc cc_qtc k_qtc) T, T.clP, ⟨a_qtc, i_qtc, k_qtc⟩, ((fun_mk (st := s_Pusher__take_close) l_qtc cc_qtc k_qtc).binds fun _ _ _ _ _ _ us hl => match us, hl with | [_, _], _ => rfl)⟩
    have Mtake : CalM l.prog w K mg base CX0 8 cP "take" P_Pusher_take (sp_Pusher_take cP) := ⟨_, _, ok_Pusher_take (fun_mk (st := s_Pusher_take) l_qpt cc_qpt k_qpt) T M_ask M_take_open M_take_has M_take_start M_take_part M_take_finish M_take_put M_take_name M_take_close, T.clP, ⟨a_qpt, i_qpt, k_qpt⟩, ((fun_mk (st := s_Pusher_take) l_qpt cc_qpt k_qpt).binds fun _ _ _ _ _ _ us hl => match us, hl with | [_, _], _ => rfl)⟩
    have K_p : CalKN l.prog w K mg base CX0 2 "Pusher" cP P_Pusher___init (sp_Pusher___init cP) 3 ["platform", "number"] := ⟨_, _, fun us ws => us ++ ws, ok_Pusher___init (fun_mk (st := s_Pusher___init) l_qi cc_qi k_qi) T C_ad, ⟨mk_cP, a_qi, i_qi, kc_cP⟩, T.gP, ⟨fun s us ws _ l1 l2 => .of_eq (match us, l1, ws, l2 with | [_, _, _], _, [_, _], _ => rfl), fun r1 r2 => vals_app r1 r2⟩⟩
    have C_law_pusher : Cal l.prog w K mg base CX0 4 "_law_pusher" P_law_pusher (sp_law_pusher cP) := ⟨_, _, ok_law_pusher (fun_mk (st := s_law_pusher) l_lp cc_lp k_lp) T K_p C_lt C_lx, PySem.W.mg_of X G a_lp, k_lp, ((fun_mk (st := s_law_pusher) l_lp cc_lp k_lp).binds fun _ _ _ _ _ _ us hl => match us, hl with | [_], _ => rfl)⟩
    have C_law_blobs : Cal l.prog w K mg base CX0 3 "_law_blobs" P_law_blobs (sp_law_blobs cP) := ⟨_, _, ok_law_blobs (fun_mk (st := s_law_blobs) l_lb cc_lb k_lb) T C_ad C_bt C_it, PySem.W.mg_of X G a_lb, k_lb, ((fun_mk (st := s_law_blobs) l_lb cc_lb k_lb).binds fun _ _ _ _ _ _ us hl => match us, hl with | [_], _ => rfl)⟩
    have C_law_target : Cal l.prog w K mg base CX0 4 "_law_target" P_law_target (sp_law_target cP) := ⟨_, _, ok_law_target (fun_mk (st := s_law_target) l_lg cc_lg k_lg) T C_law_blobs C_ad, PySem.W.mg_of X G a_lg, k_lg, ((fun_mk (st := s_law_target) l_lg cc_lg k_lg).binds fun _ _ _ _ _ _ us hl => match us, hl with | [_], _ => rfl)⟩
    have C_law_layer : Cal l.prog w K mg base CX0 2 "_law_layer" P_law_layer (sp_law_layer cP) := ⟨_, _, ok_law_layer (fun_mk (st := s_law_layer) l_ly cc_ly k_ly) T C_ad, PySem.W.mg_of X G a_ly, k_ly, ((fun_mk (st := s_law_layer) l_ly cc_ly k_ly).binds fun _ _ _ _ _ _ us hl => match us, hl with | [_, _], _ => rfl)⟩
    have C_law_place : Cal l.prog w K mg base CX0 1 "_law_place" P_law_place (sp_law_place cP) := ⟨_, _, ok_law_place (fun_mk (st := s_law_place) l_lc cc_lc k_lc) T, PySem.W.mg_of X G a_lc, k_lc, ((fun_mk (st := s_law_place) l_lc cc_lc k_lc).binds fun _ _ _ _ _ _ us hl => match us, hl with | [_, _], _ => rfl)⟩
    have C_law_request : Cal l.prog w K mg base CX0 5 "_law_request" P_law_request (sp_law_request cP) := ⟨_, _, ok_law_request (fun_mk (st := s_law_request) l_lr cc_lr k_lr) T C_law_blobs C_law_layer C_law_target, PySem.W.mg_of X G a_lr, k_lr, ((fun_mk (st := s_law_request) l_lr cc_lr k_lr).binds fun _ _ _ _ _ _ us hl => match us, hl with | [_, _], _ => rfl)⟩
    have C_law_layer_step : Cal l.prog w K mg base CX0 3 "_law_layer_step" P_law_layer_step (sp_law_layer_step cP) := ⟨_, _, ok_law_layer_step (fun_mk (st := s_law_layer_step) l_ll cc_ll k_ll) T C_law_layer C_law_place, PySem.W.mg_of X G a_ll, k_ll, ((fun_mk (st := s_law_layer_step) l_ll cc_ll k_ll).binds fun _ _ _ _ _ _ us hl => match us, hl with | [_, _, _], _ => rfl)⟩
    have C_law_end_step : Cal l.prog w K mg base CX0 5 "_law_end_step" P_law_end_step (sp_law_end_step cP) := ⟨_, _, ok_law_end_step (fun_mk (st := s_law_end_step) l_le cc_le k_le) T C_law_blobs C_law_place C_law_target C_ad, PySem.W.mg_of X G a_le, k_le, ((fun_mk (st := s_law_end_step) l_le cc_le k_le).binds fun _ _ _ _ _ _ us hl => match us, hl with | [_, _, _], _ => rfl)⟩
    have C_law_next : Cal l.prog w K mg base CX0 6 "_law_next" P_law_next (sp_law_next cP) := ⟨_, _, ok_law_next (fun_mk (st := s_law_next) l_ln cc_ln k_ln) T C_law_end_step C_law_layer_step C_law_place, PySem.W.mg_of X G a_ln, k_ln, ((fun_mk (st := s_law_next) l_ln cc_ln k_ln).binds fun _ _ _ _ _ _ us hl => match us, hl with | [_, _, _], _ => rfl)⟩
    have C_law_reply : Cal l.prog w K mg base CX0 5 "_law_reply" P_law_reply (sp_law_reply cP) := ⟨_, _, ok_law_reply (fun_mk (st := s_law_reply) l_lq cc_lq k_lq) T C_law_blobs C_law_layer C_lt C_law_target C_ad, PySem.W.mg_of X G a_lq, k_lq, ((fun_mk (st := s_law_reply) l_lq cc_lq k_lq).binds fun _ _ _ _ _ _ us hl => match us, hl with | [_, _, _], _ => rfl)⟩
    exact ok_law (fun_mk (st := s_law) l_lw cc_lw k_lw) T Maddress Mrequest Mtake C_law_next C_law_pusher C_law_reply C_law_request C_ls C_lt C_law_target
end LW
open PySem PySem.W PyProof.Rows
set_option maxHeartbeats 0 in
theorem PySem.Challenge.cw_layerwharf_k21_push_step_by_step_holds : PySem.Challenge.rw_layerwharf_k21_push_step_by_step.Holds := by
  w_on; o_law; k_head; (case hw => w_witness2)
  k_fill
  refine LW.walk_gnd (l := PySem.Challenge.rw_layerwharf_k21_push_step_by_step) (n := 63) (k := 9) (x := "script") (CX := fun _ => L2.CX0) rfl (by decide) rfl ⟨rfl, by decide, by decide⟩ (fun w h Y => PySem.W.kIn_of Y) ?F (fun _ _ _ _ _ h => h)
  case F =>
    intro w s0 mg mb fa h G Y KX hmg
    refine' LW.all_mk KX G.T.g hmg ?cMo ?a_ad ?l_ad ?cc_ad ?k_ad ?a_it ?l_it ?cc_it ?k_it ?a_bt ?l_bt ?cc_bt ?k_bt ?a_tx ?l_tx ?cc_tx ?k_tx ?a_ls ?l_ls ?cc_ls ?k_ls ?a_lt ?l_lt ?cc_lt ?k_lt ?a_lx ?l_lx ?cc_lx ?k_lx ?a_lp ?l_lp ?cc_lp ?k_lp ?a_lb ?l_lb ?cc_lb ?k_lb ?a_lg ?l_lg ?cc_lg ?k_lg ?a_ly ?l_ly ?cc_ly ?k_ly ?a_lr ?l_lr ?cc_lr ?k_lr ?a_lc ?l_lc ?cc_lc ?k_lc ?a_ll ?l_ll ?cc_ll ?k_ll ?a_le ?l_le ?cc_le ?k_le ?a_ln ?l_ln ?cc_ln ?k_ln ?a_lq ?l_lq ?cc_lq ?k_lq ?a_lw ?l_lw ?cc_lw ?k_lw ?g_cP ?pg_cP ?hd_cP ?po_cP ?sa_cP ?mk_cP ?kc_cP ?z0 ?z1 ?z2 ?z3 ?z4 ?z5 ?z6 ?z7 ?v0 ?v1 ?v2 ?v3 ?aKD ?lKD ?aUN ?lUN ?n0 ?n1 ?n2 ?n3 ?n4 ?n5 ?n6 ?n7 ?n8 ?n9 ?a_qi ?i_qi ?l_qi ?cc_qi ?k_qi ?a_qpr ?i_qpr ?l_qpr ?cc_qpr ?k_qpr ?a_qpt ?i_qpt ?l_qpt ?cc_qpt ?k_qpt ?a_qpi ?i_qpi ?l_qpi ?cc_qpi ?k_qpi ?a_qpb ?i_qpb ?l_qpb ?cc_qpb ?k_qpb ?a_qpa ?i_qpa ?l_qpa ?cc_qpa ?k_qpa ?a_qpk ?i_qpk ?l_qpk ?cc_qpk ?k_qpk ?a_qpl ?i_qpl ?l_qpl ?cc_qpl ?k_qpl ?a_qpp ?i_qpp ?l_qpp ?cc_qpp ?k_qpp ?a_qto ?i_qto ?l_qto ?cc_qto ?k_qto ?a_qth ?i_qth ?l_qth ?cc_qth ?k_qth ?a_qts ?i_qts ?l_qts ?cc_qts ?k_qts ?a_qtp ?i_qtp ?l_qtp ?cc_qtp ?k_qtp ?a_qtf ?i_qtf ?l_qtf ?cc_qtf ?k_qtf ?a_qtu ?i_qtu ?l_qtu ?cc_qtu ?k_qtu ?a_qpe ?i_qpe ?l_qpe ?cc_qpe ?k_qpe ?a_qtn ?i_qtn ?l_qtn ?cc_qtn ?k_qtn ?a_qtc ?i_qtc ?l_qtc ?cc_qtc ?k_qtc
    (case a_ad => k_is)
    (case l_ad => k_is)
    (case cc_ad => k_is)
    (case k_ad => k_is)
    (case a_it => k_is)
    (case l_it => k_is)
    (case cc_it => k_is)
    (case k_it => k_is)
    (case a_bt => k_is)
    (case l_bt => k_is)
    (case cc_bt => k_is)
    (case k_bt => k_is)
    (case a_tx => k_is)
    (case l_tx => k_is)
    (case cc_tx => k_is)
    (case k_tx => k_is)
    (case a_ls => k_is)
    (case l_ls => k_is)
    (case cc_ls => k_is)
    (case k_ls => k_is)
    (case a_lt => k_is)
    (case l_lt => k_is)
    (case cc_lt => k_is)
    (case k_lt => k_is)
    (case a_lx => k_is)
    (case l_lx => k_is)
    (case cc_lx => k_is)
    (case k_lx => k_is)
    (case a_lp => k_is)
    (case l_lp => k_is)
    (case cc_lp => k_is)
    (case k_lp => k_is)
    (case a_lb => k_is)
    (case l_lb => k_is)
    (case cc_lb => k_is)
    (case k_lb => k_is)
    (case a_lg => k_is)
    (case l_lg => k_is)
    (case cc_lg => k_is)
    (case k_lg => k_is)
    (case a_ly => k_is)
    (case l_ly => k_is)
    (case cc_ly => k_is)
    (case k_ly => k_is)
    (case a_lr => k_is)
    (case l_lr => k_is)
    (case cc_lr => k_is)
    (case k_lr => k_is)
    (case a_lc => k_is)
    (case l_lc => k_is)
    (case cc_lc => k_is)
    (case k_lc => k_is)
    (case a_ll => k_is)
    (case l_ll => k_is)
    (case cc_ll => k_is)
    (case k_ll => k_is)
    (case a_le => k_is)
    (case l_le => k_is)
    (case cc_le => k_is)
    (case k_le => k_is)
    (case a_ln => k_is)
    (case l_ln => k_is)
    (case cc_ln => k_is)
    (case k_ln => k_is)
    (case a_lq => k_is)
    (case l_lq => k_is)
    (case cc_lq => k_is)
    (case k_lq => k_is)
    (case a_lw => k_is)
    (case l_lw => k_is)
    (case cc_lw => k_is)
    (case k_lw => k_is)
    (case g_cP => first | k_is | rfl)
    (case pg_cP => first | k_is | rfl)
    (case hd_cP => first | k_is | rfl)
    (case po_cP => first | k_is | rfl)
    (case sa_cP => first | k_is | rfl)
    (case mk_cP => first | k_is | rfl)
    (case kc_cP => first | k_is | rfl)
    (case z0 => first | k_is | rfl)
    (case z1 => first | k_is | rfl)
    (case z2 => first | k_is | rfl)
    (case z3 => first | k_is | rfl)
    (case z4 => first | k_is | rfl)
    (case z5 => first | k_is | rfl)
    (case z6 => first | k_is | rfl)
    (case z7 => first | k_is | rfl)
    (case v0 => first | k_is | rfl)
    (case v1 => first | k_is | rfl)
    (case v2 => first | k_is | rfl)
    (case v3 => first | k_is | rfl)
    (case aKD => first | k_is | rfl)
    (case lKD => first | k_is | rfl)
    (case aUN => first | k_is | rfl)
    (case lUN => first | k_is | rfl)
    (case n0 => first | k_is | rfl)
    (case n1 => first | k_is | rfl)
    (case n2 => first | k_is | rfl)
    (case n3 => first | k_is | rfl)
    (case n4 => first | k_is | rfl)
    (case n5 => first | k_is | rfl)
    (case n6 => first | k_is | rfl)
    (case n7 => first | k_is | rfl)
    (case n8 => first | k_is | rfl)
    (case n9 => first | k_is | rfl)
    (case a_qi => k_is)
    (case i_qi => k_is)
    (case l_qi => k_is)
    (case cc_qi => k_is)
    (case k_qi => k_is)
    (case a_qpr => k_is)
    (case i_qpr => k_is)
    (case l_qpr => k_is)
    (case cc_qpr => k_is)
    (case k_qpr => k_is)
    (case a_qpt => k_is)
    (case i_qpt => k_is)
    (case l_qpt => k_is)
    (case cc_qpt => k_is)
    (case k_qpt => k_is)
    (case a_qpi => k_is)
    (case i_qpi => k_is)
    (case l_qpi => k_is)
    (case cc_qpi => k_is)
    (case k_qpi => k_is)
    (case a_qpb => k_is)
    (case i_qpb => k_is)
    (case l_qpb => k_is)
    (case cc_qpb => k_is)
    (case k_qpb => k_is)
    (case a_qpa => k_is)
    (case i_qpa => k_is)
    (case l_qpa => k_is)
    (case cc_qpa => k_is)
    (case k_qpa => k_is)
    (case a_qpk => k_is)
    (case i_qpk => k_is)
    (case l_qpk => k_is)
    (case cc_qpk => k_is)
    (case k_qpk => k_is)
    (case a_qpl => k_is)
    (case i_qpl => k_is)
    (case l_qpl => k_is)
    (case cc_qpl => k_is)
    (case k_qpl => k_is)
    (case a_qpp => k_is)
    (case i_qpp => k_is)
    (case l_qpp => k_is)
    (case cc_qpp => k_is)
    (case k_qpp => k_is)
    (case a_qto => k_is)
    (case i_qto => k_is)
    (case l_qto => k_is)
    (case cc_qto => k_is)
    (case k_qto => k_is)
    (case a_qth => k_is)
    (case i_qth => k_is)
    (case l_qth => k_is)
    (case cc_qth => k_is)
    (case k_qth => k_is)
    (case a_qts => k_is)
    (case i_qts => k_is)
    (case l_qts => k_is)
    (case cc_qts => k_is)
    (case k_qts => k_is)
    (case a_qtp => k_is)
    (case i_qtp => k_is)
    (case l_qtp => k_is)
    (case cc_qtp => k_is)
    (case k_qtp => k_is)
    (case a_qtf => k_is)
    (case i_qtf => k_is)
    (case l_qtf => k_is)
    (case cc_qtf => k_is)
    (case k_qtf => k_is)
    (case a_qtu => k_is)
    (case i_qtu => k_is)
    (case l_qtu => k_is)
    (case cc_qtu => k_is)
    (case k_qtu => k_is)
    (case a_qpe => k_is)
    (case i_qpe => k_is)
    (case l_qpe => k_is)
    (case cc_qpe => k_is)
    (case k_qpe => k_is)
    (case a_qtn => k_is)
    (case i_qtn => k_is)
    (case l_qtn => k_is)
    (case cc_qtn => k_is)
    (case k_qtn => k_is)
    (case a_qtc => k_is)
    (case i_qtc => k_is)
    (case l_qtc => k_is)
    (case cc_qtc => k_is)
    (case k_qtc => k_is)
    case cMo =>
      obtain ⟨v, e, r⟩ := G.X.2.val (PySem.Str.ofString "_MODULUS", .int 2305843009213693951) (List.Mem.head _)
      cases r
      exact ⟨_, e⟩
