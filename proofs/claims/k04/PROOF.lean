import PyProof.Rows.All
import Wide.All
import OpenK.AllK
import Wide.FinOn
import HandS.ForMost
import HandS.AnyAll
import HandS.FStr
import HandS.Walk
import HandS.EndTab
import HandS.EndOwn
import HandS.Codes
import HandS.Strs
import HandS.IsInst
import HandS.Style
import HandS.Replace
import KE.KExcSuper
import KE.KSuper
import HandS.ExcInit
import KE.GoesEnumKw
import KE.GoesMore
import HandS.ExcIs
import HandS.ExcField
import HandS.ExcOwn
import HandS.TryOnly
import HandS.Star
import HandS.ListItems
import HandS.ForDict
import HandS.Deep
import HandS.DeepEq
import HandS.Text
import HandS.SetKeys
import HandS.SetBool
import PyProof.Rows.SortShellAny
import HandS.SetFor
import HandS.More
import HandS.WordsExc
import HandS.Steps
import HandS.Small
import PySem.Challenge.RW_layerwharf_k04_claims_and_uploads
set_option Elab.async false
set_option linter.all false
set_option maxRecDepth 100000
set_option maxHeartbeats 4000000
namespace LW
open PySem PySem.Spec PyProof.Rows L2 GxR
/-- a test of one sign that may read names of the module -/
def EltG (P : Program) (w : World) (mg : Str → Option Value) (sc : Scope) (x : Str) (e : Expr) (pb : Nat → Bool) : Prop :=
  ∀ (env : Env) (A : Around) (E : Value → Shared → Prop) (c : Nat) (t : Tok) (s : Shared) (m : Str → Option Value),
    env.scope = sc → env.globals = mainGlobals → s.heap.Ns mainGlobals mg → s.heap.Ns env.locals m → m x = some (.str ⟨#[c]⟩ t) →
    wpAny (model P w) A (eval e env) (fun y s' => y = .bool (pb c) ∧ Keeps s s') E s
theorem elt_inG {P : Program} {w : World} {mg : Str → Option Value} {sc : Scope} {x g z : Str} {tz : Tok} {p1 p2 p3 : Pos}
    (hk : sc.kind = .function) (hl : sc.names.lookup x = some .local) (hg : sc.names.lookup g = some .globalImplicit) (hm : mg g = some (.str z tz))
    (d1 : (x == ("__debug__" : Str)) = false := by decide) (d2 : (g == ("__debug__" : Str)) = false := by decide) :
    EltG P w mg sc x (.Compare (.Name x p1) [.In] [.Name g p2] p3) (fun c => decide (c ∈ z.cps.toList)) := by
  intro env A E c t s m e1 e2 n1 n2 hx
  subst e1
  refine wpAny_Compare1 (wpAny_Name (wpAny_loadName_local hk hl n2 hx ?_) d1)
  refine Calls.Name_function_global hk hg (Calls.loadGlobal_global (by rw [e2]; exact n1) hm ?_) d2
  refine PyProof.Rows.in_str ⟨?_, keeps_refl s⟩
  rw [PySem.StrLaws.found_one z c]
theorem ns_at {h h' : Heap} {a : Addr} {m : Str → Option Value} (n : h.Ns a m) (k : ∀ o, h.get? a = some o → h'.get? a = some o) : h'.Ns a m := by
  obtain ⟨o, es, ep, e, r⟩ := n
  exact ⟨o, es, ep, k o e, r⟩
end LW
namespace LW
open PySem PySem.Spec PyProof.Rows L2 GxR
section
variable {X : Cx} {pins : List (Addr × Obj)} {σ : L2.St} {H : Hp} {s : Shared}
/-- (test for x in text), the test reading the module's names: made, and ready to be walked -/
theorem gen_textG {c T : Addr} {e it : Expr} {x : Str} {px gp : Pos} {sc : Scope} {pb : Nat → Bool} {te : TE} {k : Nat} {Q' : Value → Shared → Prop} {R : Str → Hp → Prop}
    (hr : Room k X.A) (B : TabB X.base X.mg c T) (hc : X.env.code = .ref c) (S : GenS X.env sc x) (hi : PE X it te)
    (he : EltG X.prog X.w X.mg sc x e pb) (hs : ∀ v, genFold it X.env v = pure v) (I : Inv X pins σ H s)
    (h : te σ H fun v H1 => ∃ a : Str, v = .str a ∧ TabG H1 T ∧ R a H1)
    (q : ∀ a H1 g s5, R a H1 → Ready X pins σ H1 T a pb g s5 → Q' (.ref g) s5) :
    wpAny (model X.prog X.w) X.A (eval (.GeneratorExp e [⟨.Name x px, it, [], 0⟩] sc gp) X.env) Q' X.xe s := by
  have room : X.A.depth < recursionLimit := hr.depth
  refine wpAny_GeneratorExp_walksQ hr.hd S.co (closure_ok S.free) S.cell S.dot S.loc S.kind room ?_ hs
  refine thn (hi.run pins s σ H _ I h) ?_
  rintro xv s1 ⟨v, H1, I1, r1, a, ev, ⟨ps, hT, tr⟩, ra⟩
  subst ev
  obtain ⟨t, et⟩ := r1
  subst et
  refine wpAny_pyIter_str ?_
  intro o St W st0
  have oT : s1.heap.get? T = some { cls := .none, data := .fields ps } := I1.hok T _ hT
  have ltT := Heap.lt_size oT
  have oT2 : (s1.heap.push o).get? T = some { cls := .none, data := .fields ps } := Heap.get?_push_of_some _ oT
  have lim : (s1.heap.push o).NoLimit := I1.nolimit.push o
  have cd : PySem.W.CodeHd (s1.heap.push o) c T := B.code.keeps fun b u hb => Heap.get?_push_of_some _ (I1.bk b u hb)
  have psz : (s1.heap.push o).objs.size = s1.heap.objs.size + 1 := Heap.size_push ..
  have goG : ∃ og, s1.heap.get? mainGlobals = some og ∧ mainGlobals ≠ T := by
    obtain ⟨og, _, _, eg, _⟩ := I1.mod.glob
    exact ⟨og, I1.bk _ _ eg, B.gP⟩
  obtain ⟨og, gg, gT⟩ := goG
  have nsG : s1.heap.Ns mainGlobals X.mg := I1.mod.glob.keeps I1.bk
  -- what is left once the code of the generator is there
  have rest : ∀ (cv : Value) (h3 : Heap) (tk : Nat) (ps' more : Array Value), Heap.ExtBut T (s1.heap.push o) h3 → (s1.heap.push o).objs.size ≤ h3.objs.size →
      h3.get? T = some { cls := .none, data := .fields ps' } → ps' = ps ++ more → TriplesOk ps'.toList →
      wpAny (model X.prog X.w) X.A (builtinsFor X.env.globals X.env.builtins) (fun bi s4 =>
        ∃ Ia fp wr n0 Pf St0 pz F, Value.ref s1.heap.objs.size = .ref Ia ∧ (∀ A' : Around, A'.handled = none → Walks X.prog X.w A' Ia fp wr n0 Pf St0) ∧ St0 0 s4.heap ∧
          (∀ b ∈ fp, b < s4.heap.objs.size) ∧ s4.heap.NoLimit ∧ cStatics ∉ wr ∧
          (∀ hf : Heap, (∀ b u, s4.heap.get? b = some u → hf.get? b = some u) →
            QuietGen X.prog X.w (genEnv sc (cloFrom X.env.cells sc.names []) s4.heap.objs.size cv bi X.env) x [] e (List.range s4.heap.objs.size) wr Pf pz F hf) ∧
          (∀ g h5 tk' gs, gs.bare = true → s4.heap.objs.size < g → h5.objs.size = g + 1 → (∀ b u, s4.heap.get? b = some u → h5.get? b = some u) →
            WalksS X.prog X.w X.A.in4 g (g :: s4.heap.objs.size :: List.range s4.heap.objs.size) (s4.heap.objs.size :: wr) (GenOnlyQ s4.gens.size) (passing pz n0 0).length
              (fun j y => ∃ i, (passing pz n0 0)[j]? = some i ∧ F i y) (GenAt X.prog X.w X.A.in4 g s4.gens.size s4.heap.objs.size (List.range s4.heap.objs.size) wr pz n0 F) →
            GenAt X.prog X.w X.A.in4 g s4.gens.size s4.heap.objs.size (List.range s4.heap.objs.size) wr pz n0 F 0 { s4 with gens := s4.gens.push gs, toks := tk', heap := h5 } →
            Q' (.ref g) { s4 with gens := s4.gens.push gs, toks := tk', heap := h5 })) X.xe { s1 with heap := h3, toks := tk } := by
    intro cv h3 tk ps' more ext hz hT3 emore tr3
    have old : ∀ b u, b ≠ T → s1.heap.get? b = some u → h3.get? b = some u := fun b u n eu => ext b u n (Heap.get?_push_of_some _ eu)
    obtain ⟨bm, ob, m1, m2, m3, m4, m5, m6, m7, m8⟩ := B.bm
    have csT : cStatics ≠ T := by
      intro ee
      obtain ⟨_, ⟨o', es, ep, ho, hd, _⟩, _⟩ := I1.nolimit
      rw [ee, oT] at ho
      cases ho
      cases hd
    have csl : cStatics < s1.heap.objs.size := by
      obtain ⟨_, hn, _⟩ := I1.nolimit
      exact hn.lt
    have g3 : h3.Ns mainGlobals X.mg := ns_at nsG fun u hu => old _ u gT hu
    refine wpAny_builtinsFor (m := X.mg) (by rw [I1.ok.glob]; exact g3) m1 m2 (old _ _ m4 (I1.bk _ _ m5)) m6 m7 m8 ?_
    refine ⟨s1.heap.objs.size, [s1.heap.objs.size], [s1.heap.objs.size], a.cps.size, SignAt a, St, fun _ => true, fun i y => ∃ cc, a.cps[i]? = some cc ∧ y = .bool (pb cc), rfl, W, ?_, ?_, lim.extBut ext csT, ?_, ?_, ?_⟩
    · refine (W X.A hr.hd).frame _ _ _ st0 fun b hb u eu => ext b u ?_ eu
      have eb : b = s1.heap.objs.size := by simpa using hb
      rw [eb]
      exact Nat.ne_of_gt ltT
    · intro b hb
      have eb : b = s1.heap.objs.size := by simpa using hb
      rw [eb]
      show s1.heap.objs.size < h3.objs.size
      omega
    · intro z
      have z' : cStatics = s1.heap.objs.size := by simpa using z
      exact Nat.ne_of_lt csl z'
    · intro hf kf
      refine ⟨?_, ?_⟩
      · intro A' E' i v s₂ m₂ _ _ _ _ _
        simp only [List.forIn_nil]
        exact wpAny_pure ⟨rfl, keeps_refl _⟩
      · intro A' E' i v s₂ m₂ hA pv _ hn hm hk
        obtain ⟨cc, u, hcc, ev⟩ := pv
        subst ev
        have gl : s₂.heap.Ns mainGlobals X.mg := ns_at g3 fun u hu => by
          refine hk mainGlobals (List.mem_range.mpr (Heap.lt_size hu)) ?_ u (kf _ _ hu)
          intro z
          have z' : mainGlobals = s1.heap.objs.size := by simpa using z
          have l := Heap.lt_size gg
          rw [z'] at l
          exact Nat.lt_irrefl _ l
        have res := he (genEnv sc (cloFrom X.env.cells sc.names []) h3.objs.size cv builtinsNs X.env) A' E' cc u s₂ m₂ rfl I1.ok.glob gl hn hm
        exact wpAny_mono res (fun y s3 r => ⟨⟨cc, hcc, r.1⟩, r.2⟩) fun _ _ z => z
    · intro g h5 tk5 gs hgb hag hsz5 hk5 W5 hat
      simp only [GxR.passing_true, List.length_range] at W5
      refine q a H1 g _ ra ⟨_, _, _, _, _, W5.in4_1, hat, ?_, ?_⟩
      · rintro j y sj Qj Ej ⟨i, hij, cc, hcc, ey⟩ hq
        subst ey
        obtain ⟨hj, ej⟩ := List.getElem?_eq_some_iff.mp hij
        rw [List.getElem_range] at ej
        subst ej
        have at_j : a.cps.toList[j]? = some cc := by rw [Array.getElem?_toList]; exact hcc
        rw [trF_some at_j] at hq
        exact wpAny_truthy_bool hq
      · intro s' hm
        have nw : ∀ b u, s1.heap.get? b = some u → b ∉ h3.objs.size :: [s1.heap.objs.size] := by
          intro b u eu hb
          have l := Heap.lt_size eu
          have l3 : (s1.heap.objs.size : Nat) ≤ h3.objs.size := by omega
          rcases List.mem_cons.mp hb with z | z
          · rw [z] at l
            exact absurd (Nat.lt_of_lt_of_le l l3) (Nat.lt_irrefl _)
          · have z' : b = s1.heap.objs.size := by simpa using z
            rw [z'] at l
            exact Nat.lt_irrefl _ l
        have J := inv_tab (more := more) (h' := s'.heap) (g' := s'.gens) (d' := s'.drawn) (t' := s'.toks) I1 hT
          (fun b u n eu => hm.heap b u (nw b u eu) (hk5 b u (old b u n eu)))
          (by rw [← emore]; exact hm.heap T _ (nw T _ oT) (hk5 T _ hT3)) (AllBare.movedS (I1.bare.push hgb) hm)
        rw [sh_eta s1 s' hm.os] at J
        exact ⟨_, ⟨⟨ps ++ more, upd_same, by rw [← emore]; exact tr3⟩, fun b n => upd_ne n⟩, J⟩
  refine ⟨lim, ?_⟩
  cases hf : codeAmong gp ps.toList with
  | some cv =>
    refine wpAny_genexprCode_hit hc (cd.code oT2 tr) hf ?_
    exact rest cv (s1.heap.push o) s1.toks ps #[] (Heap.ExtBut.refl _ _) (Nat.le_refl _) oT2 (by simp) tr
  | none =>
    refine wpAny_genexprCodeX hc (cd.code oT2 tr) (cd.tab oT2) hf ?_
    intro c' h' tk ext ge lt isC _ htab _
    obtain ⟨o1, vs, f1, tf, fl, tg, inF, tx, tt, op, _, _, _, _, _, _, _, _, _, tr3, _⟩ := isC
    exact rest _ h' tk _ _ ext (Nat.le_trans ge (Nat.le_of_lt lt)) htab.2 rfl tr3
/-- all(test for x in e), e a text -/
theorem pe_allG {c T : Addr} {e it : Expr} {x : Str} {px p pos gp : Pos} {sc : Scope} {pb : Nat → Bool} {te : TE} {k : Nat}
    (hr : Room k X.A) (hg : Gl X "all") (hm : X.mg "all" = none) (B : TabB X.base X.mg c T) (hc : X.env.code = .ref c) (S : GenS X.env sc x)
    (hi : PE X it te) (he : EltG X.prog X.w X.mg sc x e pb) (hs : ∀ v, genFold it X.env v = pure v := by intro _; rfl)
    (ha : starEach [.GeneratorExp e [⟨.Name x px, it, [], 0⟩] sc gp] X.env = (false, eval (.GeneratorExp e [⟨.Name x px, it, [], 0⟩] sc gp) X.env) :: starEach [] X.env := by rfl) :
    PE X (.Call (.Name "all" p) [.GeneratorExp e [⟨.Name x px, it, [], 0⟩] sc gp] [] pos) (tAllS T pb te) := by
  constructor
  intro pins s σ H Q I h
  refine wpAny_Call_Name_kw (ld_blt I hg hm (u := .builtin "all") (by decide +kernel) ?_)
  refine PyProof.Rows.callWith_builtin1 ?_ ha (by rfl)
  rw [ha]
  show wpAny _ _ (spliced ((false, eval (.GeneratorExp e [⟨.Name x px, it, [], 0⟩] sc gp) X.env) :: backTo pos (starEach [] X.env))) _ _ s
  refine Calls.spliced_cons (gen_textG (R := fun a H1 => ∀ H2, Tabbed T H1 H2 → Q (.bl (a.cps.toList.all pb)) H2) hr B hc S hi he hs I h ?_)
  rintro a H1 g s5 hR ⟨fp, wr, G, F, St, W, hst, htr, hI⟩
  refine Calls.spliced_nil (call_all_walkS (W.self 0 _ _ _ hst ⟨g, fp, wr, G, _, F, St, _, rfl, W, hst, htr, ?_⟩))
  intro s' hmv
  obtain ⟨H2, hT, J⟩ := hI s' hmv
  refine ⟨.bl _, H2, J, rfl, ?_⟩
  rw [all_signs a pb]
  exact hR H2 hT
end
end LW
namespace LW
open PySem
/-! ### sixteen hexadecimal digits -/
def dig (d : Nat) : Nat := if d < 10 then 48 + d else 87 + d
/-- k digits of n -/
def hx : Nat → Nat → List Nat
  | 0, _ => []
  | k + 1, n => hx k (n / 16) ++ [dig (n % 16)]
theorem hx_len : ∀ k n, (hx k n).length = k
  | 0, _ => rfl
  | k + 1, n => by simp [hx, hx_len k]
theorem hx_zero : ∀ k, hx k 0 = List.replicate k 48
  | 0 => rfl
  | k + 1 => by
    show hx k (0 / 16) ++ [dig (0 % 16)] = _
    rw [Nat.zero_div, hx_zero k, List.replicate_succ']
    rfl
theorem core_acc : ∀ (f n : Nat) (ds : List Char), Nat.toDigitsCore 16 f n ds = Nat.toDigitsCore 16 f n [] ++ ds
  | 0, n, ds => rfl
  | f + 1, n, ds => by
    unfold Nat.toDigitsCore
    by_cases h : n / 16 = 0
    · simp [h]
    · simp only [h, if_false]
      rw [core_acc f (n / 16) (Nat.digitChar (n % 16) :: ds), core_acc f (n / 16) [Nat.digitChar (n % 16)]]
      simp
theorem dig_char {d : Nat} (h : d < 16) : (Nat.digitChar d).toNat = dig d := by
  have : ∀ d : Fin 16, (Nat.digitChar d.val).toNat = dig d.val := by decide +kernel
  exact this ⟨d, h⟩
theorem core_hx : ∀ (k f n : Nat), 1 ≤ k → n < 16 ^ k → n < f →
    ((Nat.toDigitsCore 16 f n []).map Char.toNat).length ≤ k ∧
    List.replicate (k - ((Nat.toDigitsCore 16 f n []).map Char.toNat).length) 48 ++ (Nat.toDigitsCore 16 f n []).map Char.toNat = hx k n
  | 0, _, _, h, _, _ => by omega
  | k + 1, 0, n, _, _, h => by omega
  | k + 1, f + 1, n, _, h, hf => by
    have hm : n % 16 < 16 := Nat.mod_lt _ (by decide)
    by_cases h0 : n / 16 = 0
    · have e : Nat.toDigitsCore 16 (f + 1) n [] = [Nat.digitChar (n % 16)] := by
        unfold Nat.toDigitsCore
        simp [h0]
      rw [e]
      refine ⟨by simp, ?_⟩
      show List.replicate (k + 1 - 1) 48 ++ [(Nat.digitChar (n % 16)).toNat] = hx k (n / 16) ++ [dig (n % 16)]
      rw [h0, hx_zero, dig_char hm, Nat.add_sub_cancel]
    · have e : Nat.toDigitsCore 16 (f + 1) n [] = Nat.toDigitsCore 16 f (n / 16) [] ++ [Nat.digitChar (n % 16)] := by
        rw [← core_acc]
        conv => lhs; unfold Nat.toDigitsCore
        simp [h0]
      have h16 : n / 16 < 16 ^ k := by
        rw [Nat.div_lt_iff_lt_mul (by decide)]
        rw [Nat.pow_succ] at h
        exact h
      have k1 : 1 ≤ k := by
        cases k with
        | zero => rw [Nat.pow_zero] at h16; omega
        | succ k => omega
      have ih := core_hx k f (n / 16) k1 h16 (by omega)
      rw [e, List.map_append]
      refine ⟨by have i1 := ih.1; simp only [List.length_append, List.length_map, List.length_cons, List.length_nil] at i1 ⊢; omega, ?_⟩
      show List.replicate (k + 1 - _) 48 ++ (_ ++ [(Nat.digitChar (n % 16)).toNat]) = hx k (n / 16) ++ [dig (n % 16)]
      rw [← ih.2, dig_char hm, ← List.append_assoc]
      have el : ((Nat.toDigitsCore 16 f (n / 16) []).map Char.toNat ++ ([Nat.digitChar (n % 16)].map Char.toNat)).length = ((Nat.toDigitsCore 16 f (n / 16) []).map Char.toNat).length + 1 := by simp
      rw [el, show k + 1 - (((Nat.toDigitsCore 16 f (n / 16) []).map Char.toNat).length + 1) = k - ((Nat.toDigitsCore 16 f (n / 16) []).map Char.toNat).length by omega]
theorem toDigits_hx {n : Nat} (h : n < 16 ^ 16) : ((Nat.toDigits 16 n).map Char.toNat).length ≤ 16 ∧
    List.replicate (16 - ((Nat.toDigits 16 n).map Char.toNat).length) 48 ++ (Nat.toDigits 16 n).map Char.toNat = hx 16 n := core_hx 16 (n + 1) n (by decide) h (by omega)
theorem toDigits_ne (n : Nat) : ((Nat.toDigits 16 n).map Char.toNat).isEmpty = false := by
  unfold Nat.toDigits
  by_cases h0 : n / 16 = 0
  · unfold Nat.toDigitsCore
    simp [h0]
  · unfold Nat.toDigitsCore
    simp only [h0, if_false]
    rw [core_acc]
    simp
/-- the digits as they are counted -/
def hexDigits : List Nat := [48, 49, 50, 51, 52, 53, 54, 55, 56, 57, 97, 98, 99, 100, 101, 102]
theorem dig_mem {d : Nat} (h : d < 16) : dig d ∈ hexDigits := by
  have : ∀ d : Fin 16, dig d.val ∈ hexDigits := by decide +kernel
  exact this ⟨d, h⟩
theorem hx_mem : ∀ k n, ∀ c ∈ hx k n, c ∈ hexDigits
  | 0, _, c, h => by simp [hx] at h
  | k + 1, n, c, h => by
    rcases List.mem_append.mp h with h | h
    · exact hx_mem k _ c h
    · rw [List.mem_singleton.mp h]
      exact dig_mem (Nat.mod_lt _ (by decide))
/-- the value of a digit: its first place -/
def val (c : Nat) : Nat := hexDigits.idxOf c
def readHex (l : List Nat) : Nat := l.foldl (fun n c => n * 16 + val c) 0
theorem val_dig {d : Nat} (h : d < 16) : val (dig d) = d := by
  have : ∀ d : Fin 16, val (dig d.val) = d.val := by decide +kernel
  exact this ⟨d, h⟩
theorem read_hx : ∀ k n, n < 16 ^ k → readHex (hx k n) = n
  | 0, n, h => by
    rw [Nat.pow_zero] at h
    have : n = 0 := by omega
    subst this
    rfl
  | k + 1, n, h => by
    have h16 : n / 16 < 16 ^ k := by
      rw [Nat.div_lt_iff_lt_mul (by decide)]
      rw [Nat.pow_succ] at h
      exact h
    have ih := read_hx k _ h16
    unfold readHex at ih ⊢
    show (hx k (n / 16) ++ [dig (n % 16)]).foldl _ 0 = n
    rw [List.foldl_append, ih]
    show n / 16 * 16 + val (dig (n % 16)) = n
    rw [val_dig (Nat.mod_lt _ (by decide))]
    omega
/-- the address's text of a number -/
def hexS (n : Nat) : Str := ⟨(hx 16 n).toArray⟩
end LW
namespace LW
open PySem PySem.Spec PyProof.Rows L2
/-- the field of a number in sixteen hexadecimal digits -/
def fld (neg : Bool) (n : Nat) : Str :=
  let sg : List Nat := if neg then [45] else []
  let ds0 : List Nat := (Nat.toDigits 16 n).map fun c => c.toNat
  let other : Int := (sg.length : Int) + 0 + 0
  let room : Int := 16 - other
  let ds : List Nat := if ds0.isEmpty then [] else List.replicate (room.toNat - ds0.length) 48 ++ ds0
  let pad : Nat := (16 - other - (ds.length : Int)).toNat
  ⟨(List.replicate 0 48 ++ sg ++ [] ++ List.replicate pad 48 ++ ds ++ [] ++ List.replicate 0 48).toArray⟩
theorem iteNo {c : Prop} [Decidable c] {X Y : Prop} (hc : ¬ c) (h : Y) : if c then X else Y := by
  rw [if_neg hc]
  exact h
theorem iteYes {c : Prop} [Decidable c] {X Y : Prop} (hc : c) (h : X) : if c then X else Y := by
  rw [if_pos hc]
  exact h
theorem gives_hex (a : Int) (t u : Tok) : Gives (Builtin.«int.__format__» ⟨[.int a t, .str "016x" u], []⟩) (.str (fld (decide (a < 0)) a.natAbs)) := by
  intro prog w A R s hq
  unfold Builtin.«int.__format__»
  refine wpAny_bind (wpAny_of_eq (a := (_, _)) rfl ?_)
  refine wpAny_bind (wpAny_of_eq (a := a) rfl ?_)
  refine wpAny_bind (wpAny_typeNameOf (T := "str") (typeIs_str _ _ _) (by decide) fun _ => ?_)
  refine wpAny_bind (wpAny_of_eq (a := some _) rfl ?_)
  refine wpAny_ite (iteNo (by decide +kernel) ?_)
  refine wpAny_ite (iteNo (by decide +kernel) ?_)
  refine wpAny_bind (wpAny_typeNameOfCut_int ?_)
  have hp : Builtin.Float.parseFormatSpec (Str.ofString "016x").cps.toList "int" 62 = .ok ⟨48, 61, none, false, false, some 16, none, none, some 120⟩ := by rfl
  rw [hp]
  refine wpAny_ite (iteYes (by decide +kernel) ?_)
  exact Gives.of_eq (m := .str (fld (decide (a < 0)) a.natAbs)) rfl prog w A R s hq
end LW
namespace LW
open PySem PySem.Spec PyProof.Rows L2
theorem fld_hexS {n : Nat} (h : n < 16 ^ 16) : fld false n = hexS n := by
  have e := toDigits_hx h
  have l : (hx 16 n).length = 16 := hx_len 16 n
  unfold fld hexS
  simp only [toDigits_ne, Bool.false_eq_true, if_false, List.length_nil, List.replicate_zero, List.nil_append, List.append_nil]
  rw [show ((16 : Int) - (((0 : Nat) : Int) + 0 + 0)).toNat = 16 from rfl, show (fun c : Char => c.toNat) = Char.toNat from rfl, e.2, l]
  rfl
theorem gives_hexS {n : Nat} (h : n < 16 ^ 16) (t u : Tok) : Gives (Builtin.«int.__format__» ⟨[.int (n : Int) t, .str "016x" u], []⟩) (.str (hexS n)) := by
  have g := gives_hex (n : Int) t u
  rw [show decide ((n : Int) < 0) = false from decide_eq_false (by omega), Int.natAbs_natCast, fld_hexS h] at g
  exact g
theorem hexS_len (n : Nat) : (hexS n).length = 16 := by
  show (hx 16 n).toArray.size = 16
  rw [List.size_toArray, hx_len]
section
variable {X : Cx}
/-- {n:016x} -/
def tHex (te : TE) : TE := fun σ H Q => te σ H fun x H1 => ∃ n : Nat, x = .int (n : Int) ∧ n < 16 ^ 16 ∧ Q (.str (hexS n)) H1
theorem pe_hex {e : Expr} {te : TE} {j : Nat} {p1 p2 pos : Pos} (he : PE X e te) : PE X (.FormattedValue e (-1) (some (.JoinedStr [.Constant (.str "016x") j p1] p2)) pos) (tHex te) := by
  constructor
  intro pins s σ H Q I h
  refine wpAny_FormattedValue_spec (thn (he.run pins s σ H _ I h) ?_)
  rintro v s1 ⟨x, H1, I1, r1, n, ex, hn, q⟩
  subst ex
  obtain ⟨t, et⟩ := r1
  subst et
  refine wpAny_JoinedStr_one (Calls.Constant_str ⟨_, _, rfl, ?_⟩)
  refine wpAny_formatField_spec (by decide +kernel) (fun s' => typeIs_int s' (n : Int) t) F.slot_int_format F.entry_int_format F.args_int_format_2 (fun u => gives_hexS hn t u) ?_ (by decide +kernel)
    (by rw [hexS_len]; decide +kernel)
  exact ⟨.str (hexS n), H1, (I1.tok _).tok _, ⟨_, rfl⟩, q⟩
end
end LW
namespace LW
open PySem PySem.Spec PyProof.Rows L2
/-- as it was but at D -/
def But (D : Addr) (H H' : Hp) : Prop := ∀ b, b ≠ D → H' b = H b
theorem But.refl (D : Addr) (H : Hp) : But D H H := fun _ _ => rfl
theorem But.upd {D : Addr} {H : Hp} {o : HO} : But D H (upd H D o) := fun _ hb => upd_ne hb
theorem But.same {D : Addr} {H H' : Hp} (h : But D H H') (n : H D = none) : Same H H' := fun b o e => by
  rw [h b (ne_of_none e n)]
  exact e
theorem But.list {K : PySem.W.Frag} {D a : Addr} {H H' : Hp} {xs : List V} (h : But D H H') (n : H D = none) (s : SqL K H a xs) : SqL K H' a xs := (h.same n).seq s
theorem upd_eq {H H' : Hp} {D : Addr} {o : HO} (h : But D H H') (e : H' D = some o) : H' = upd H D o := by
  funext b
  by_cases hb : b = D
  · subst hb; rw [e, upd_same]
  · rw [h b hb, upd_ne hb]
section
variable {J : It} {n : Nat} {G : Hp → Prop} {Y : Nat → Hp → V → Hp → Prop}
/-- a comprehension whose parts make nothing -/
theorem lc_flt (w : Walk J n G Y) {j : Nat} {tt : TT} {te : TE} {vs : List Nat} {σ : L2.St} {H1 : Hp} {D : Addr} {Qd : Hp → Prop} (t : Nat → Bool) (f : Nat → V)
    (hn : n < 16000000) (hG : ∀ H, But D H1 H → G H) (hw : ∀ x, wipe ((wipe σ vs).set j (some x)) vs = wipe σ vs)
    (hs : ∀ i x H H', i < n → But D H1 H → Y i H x H' → H' = H ∧ (∀ Q : Bool → Hp → Prop, Q (t i) H → tt ((wipe σ vs).set j (some x)) H Q) ∧ (t i = true → ∀ Q : VK, Q (f i) H → te ((wipe σ vs).set j (some x)) H Q))
    (hd : Qd (upd H1 D (.lst (((List.range n).filter t).map f)))) :
    ∃ W : Nat → Nat → Hp → Prop, (∃ m, W 0 m (upd H1 D (.lst []))) ∧ ∀ i m H, W i m H →
      (J.stop i H ∧ Qd H) ∨ (J.go i H ∧ ∃ Nx : Hp → Prop, (∀ H', Nx H' → ∃ m', m' < m ∧ W (i + 1) m' H') ∧ ∀ x H', J.yld i H x H' → gName j x (wipe σ vs) H' fun σ2 H2 => wipe σ2 vs = wipe σ vs ∧ tt σ2 H2 fun b H3 =>
        if b = true then te σ2 H3 fun y H4 => ∃ acc, H4 D = some (.lst acc) ∧ acc.length < sizeLine ∧ Nx (upd H4 D (.lst (acc ++ [y]))) else Nx H3) := by
  refine lc_it w (fun i H => H = upd H1 D (.lst (((List.range i).filter t).map f))) rfl (fun i H _ e => hG H (by rw [e]; exact But.upd)) ?_ (fun H e => by rw [e]; exact hd)
  rintro i x H H' hi e hy
  have b1 : But D H1 H := by rw [e]; exact But.upd
  obtain ⟨e2, ht, he⟩ := hs i x H H' hi b1 hy
  subst e2
  have hD : H' D = some (.lst (((List.range i).filter t).map f)) := by rw [e, upd_same]
  refine ⟨hw x, ht _ ?_⟩
  rw [List.range_succ, List.filter_append, List.map_append]
  cases hti : t i with
  | true =>
    rw [if_pos rfl]
    refine he hti _ ⟨_, hD, ?_, ?_⟩
    · have l1 : (((List.range i).filter t).map f).length ≤ i := by
        rw [List.length_map]
        exact Nat.le_trans (List.length_filter_le _ _) (by rw [List.length_range]; exact Nat.le_refl _)
      exact Nat.lt_of_le_of_lt l1 (Nat.lt_trans hi (Nat.lt_trans hn (by decide)))
    · rw [e, upd_upd]
      simp [hti]
  | false =>
    rw [if_neg Bool.false_ne_true]
    simp [hti]
    exact e
theorem lc_map (w : Walk J n G Y) {j : Nat} {te : TE} {vs : List Nat} {σ : L2.St} {H1 : Hp} {D : Addr} {Qd : Hp → Prop} (f : Nat → V)
    (hn : n < 16000000) (hG : ∀ H, But D H1 H → G H) (hw : ∀ x, wipe ((wipe σ vs).set j (some x)) vs = wipe σ vs)
    (hs : ∀ i x H H', i < n → But D H1 H → Y i H x H' → H' = H ∧ ∀ Q : VK, Q (f i) H → te ((wipe σ vs).set j (some x)) H Q)
    (hd : Qd (upd H1 D (.lst ((List.range n).map f)))) :
    ∃ W : Nat → Nat → Hp → Prop, (∃ m, W 0 m (upd H1 D (.lst []))) ∧ ∀ i m H, W i m H →
      (J.stop i H ∧ Qd H) ∨ (J.go i H ∧ ∃ Nx : Hp → Prop, (∀ H', Nx H' → ∃ m', m' < m ∧ W (i + 1) m' H') ∧ ∀ x H', J.yld i H x H' → gName j x (wipe σ vs) H' fun σ2 H2 => wipe σ2 vs = wipe σ vs ∧ tYes σ2 H2 fun b H3 =>
        if b = true then te σ2 H3 fun y H4 => ∃ acc, H4 D = some (.lst acc) ∧ acc.length < sizeLine ∧ Nx (upd H4 D (.lst (acc ++ [y]))) else Nx H3) := by
  refine lc_flt w (tt := tYes) (fun _ => true) f hn hG hw (fun i x H H' hi hb hy => ?_) ?_
  · obtain ⟨e, k⟩ := hs i x H H' hi hb hy
    exact ⟨e, fun Q q => q, fun _ => k⟩
  · rw [List.filter_eq_self.mpr (fun _ _ => rfl)]
    exact hd
end
theorem range_map_get {α β : Type} (g : α → β) (d : α) (l : List α) : (List.range l.length).map (fun i => g (l.getD i d)) = l.map g := by
  apply List.ext_getElem
  · simp
  · intro i h1 h2
    simp at h1 h2 ⊢
    rw [List.getElem?_eq_getElem (by simpa using h1)]
    rfl
theorem cutV_map {α : Type} (g : α → V) (xs : List α) (lo hi : Option Int) : ∃ ys : List α, cutV (xs.map g) lo hi = ys.map g ∧ ys.length ≤ xs.length ∧ ∀ y ∈ ys, y ∈ xs := by
  refine ⟨(xs.drop (HT.sIx xs.length 0 lo)).take (HT.sIx xs.length xs.length hi - HT.sIx xs.length 0 lo), ?_, ?_, ?_⟩
  · unfold cutV
    rw [List.length_map, ← List.map_drop, ← List.map_take]
  · rw [List.length_take, List.length_drop]
    omega
  · intro y hy
    exact List.mem_of_mem_drop (List.mem_of_mem_take hy)
section
variable {X : Cx}
/-- repr(b) -/
theorem call_repr_bl : CallR X (.builtin "repr") (fun xs H Q => ∃ b : Bool, xs = [.bl b] ∧ Q (.str (if b then "True" else "False")) H) := by
  intro pins s σ H xs us Q I r h
  obtain ⟨b, rfl, q⟩ := h
  obtain ⟨u, rfl, r1⟩ := vals1 r
  cases (show u = Value.bool b from r1)
  exact PySem.P.repr_of_bool ⟨.str _, H, I.tok _, ⟨_, rfl⟩, q⟩
end
end LW
namespace LW
open PySem PySem.Spec PyProof.Rows L2
/-! ### super().__init__(..) in the __init__ of an own exception over ValueError -/
/-- what the written part says of the class and the code that stands there -/
structure SupAt (P : Program) (K : PySem.W.Frag) (C cc cda : Addr) : Prop where
  T : OexC K C
  cell : ∃ cl cld csl, K.lookup cc = some ⟨cl, cld, .cell (some (.ref C)), csl⟩
  code : ∃ ccl cdd ccs vs file tf, K.lookup cda = some ⟨ccl, cdd, .fields vs, ccs⟩ ∧ vs[2]? = some (.str file tf) ∧ ((P.main.file : Str) == file) = true
  top : (P.main.scope.names.lookup ("super" : Str)).isSome = false
  opq : PySem.W.nsIn K cStatics "thirdparty.any" = some none
  own : PySem.W.mroIn K C (.ref C) = some true
  sup : PySem.W.ks_superIn K C C "__init__" = some (some (.builtin "ValueError.__init__"))
  sub : PySem.W.subIn K (.ref C) (.type "ValueError") = some true
theorem boot_super : bootBuiltins "super" = some (.type "super") := by decide +kernel
section
variable {X : Cx} {pins : List (Addr × Obj)} {σ : L2.St} {H : Hp} {s : Shared}
theorem sup_init {a C cc cda f : Addr} {body rest : List Stmt} {e : Expr} {ta : TA} {p0 p1 p2 p3 pos : Pos} {ar : Arg} {of : Obj} {fd : FuncData} {Qf : Flow → Shared → Prop} {R : Hp → Prop} {i : Nat}
    (S : SupAt X.prog X.K C cc cda) (I : Inv X pins σ H s) (mS : X.mg "super" = none)
    (kf : X.K.lookup f = some of) (of1 : of.data = .func fd) (hp : (fd.params.posonlyargs ++ fd.params.args).head? = some ar)
    (ef : X.env.func = some f) (ec : X.env.code = .ref cda) (hks : X.env.kindOf "super" = some .globalImplicit) (hkc : X.env.kindOf "__class__" = some .free) (hcl : X.env.cells.lookup ("__class__" : Str) = some cc)
    (hka : X.env.kindOf ar.arg = some .local) (hN : X.N[i]? = some ar.arg) (hs : σ[i]? = some (some (.ref a)))
    (ha : H a = some (exo a C none)) (he : PA X [e] ta)
    (h : ta σ H fun vs H1 => vs.length ≤ 1000 ∧ H1 a = some (exo a C none) ∧ R H1)
    (q : ∀ H1 s1, Inv X pins σ H1 s1 → R H1 → H1 a = some (exo a C none) → wpAny (model X.prog X.w) X.A (execs rest X.env) Qf X.xe s1)
    (hi : interactive X.env = false) {pl : Sem Bool}
    (hc : eval (.Call (.Attribute (.Call (.Name "super" p0) [] [] p1) "__init__" p2) [e] [] p3) X.env = (do
      let ov ← attributeBase (.Call (.Name "super" p0) [] [] p1) "__init__" X.env (eval (.Call (.Name "super" p0) [] [] p1) X.env)
      standAt p2.atName
      let (f, first) ← holding [ov] (getMethod ov "__init__" pl)
      callWith p3 f first (backTo p3 (starEach [e] X.env)) []) := by rfl)
    (hst : starEach [e] X.env = (false, eval e X.env) :: starEach [] X.env := by rfl)
    (hsw : swapsWith (.Call (.Attribute (.Call (.Name "super" p0) [] [] p1) "__init__" p2) [e] [] p3) none pos.line X.env = pure false := by rfl) :
    PySem.wpAt (model X.prog X.w) X.A (.func body X.env) (execs (.Expr (.Call (.Attribute (.Call (.Name "super" p0) [] [] p1) "__init__" p2) [e] [] p3) pos :: rest) X.env) Qf X.xe s := by
  obtain ⟨nm, qn, N, bs, bm, sn, sub, ab, col, dd, k0, k1, k2, k3, k5, hC, hbm⟩ := S.T.cls
  obtain ⟨cl, cld, csl, hcell⟩ := S.cell
  obtain ⟨ccl, cdd, ccs, vs, file, tf, hcode, hvs, hfile⟩ := S.code
  obtain ⟨t1, hx⟩ := exo_at I.hok ha
  obtain ⟨mb, hb1, hb2⟩ := I.mod.blt
  have hcd : PySem.W.clsIn X.K C = some { name := nm, bases := bs, mro := .ref C :: bm, ns := N, qualname := qn, hasDict := true, slotNames := sn, subclasses := sub, abstract := ab, collection := col, hasDel := false } := by unfold PySem.W.clsIn; rw [hC] <;> rfl
  have sup := S.sup
  unfold PySem.W.ks_superIn at sup
  rw [hcd] at sup
  refine ks_wpAt_execs_cons (ks_wpAt_Expr_any (ks_wpAt_MethodCall (pl := pl) ?_ hc) hi hsw)
  refine ks_wpAt_super_base hks hkc (by decide) ef (I.kIn _ _ kf) of1 hp ec (I.kIn _ _ hcode) rfl hvs hfile S.top ?_
  refine PySem.W.ks_loadName_global I.ok.kind hks (Calls.loadGlobal_builtin (by rw [I.ok.glob]; exact I.mod.glob.keeps I.bk) mS (by rw [I.ok.blt]; exact hb1.keeps I.bk) ((hb2 "super" (by decide)).trans boot_super) ⟨rfl, ?_⟩)
  refine wpAny_loadName_free I.ok.kind hkc hcl ⟨_, I.kIn _ _ hcell, rfl⟩ ?_
  have hself : ∃ m, s.heap.Ns X.env.locals m ∧ m ar.arg = some (.ref a) := by
    obtain ⟨m, hn, hlk⟩ := I.loc
    obtain ⟨u, ru, L⟩ := hlk i ar.arg (.ref a) hN hs (.inl hka)
    cases (show u = Value.ref a from ru)
    rcases L with ⟨_, z⟩ | ⟨z, _⟩
    · exact ⟨m, hn, z⟩
    · rw [hka] at z
      rcases z with z | z <;> cases z
  obtain ⟨m, hns, hm⟩ := hself
  refine wpAny_loadName_local I.ok.kind hka hns hm ?_
  refine ks_wpAny_isType_cls (I.kIn _ _ hC) rfl ⟨rfl, ?_⟩
  obtain ⟨hp, g, d, t, os⟩ := s
  refine ks_wpAny_call_super (I.kIn _ _ hC) rfl hx rfl (fun c z => nomatch z) (PySem.W.looks_mroIn I.kIn S.own) (fun h' es k => ?_)
  have I1 : Inv X pins σ H ⟨h', g, d, t, os⟩ := I.kept (t' := t) k
  have hx1 := k _ _ hx
  have IA : PySem.W.InstAt h' a ({ cls := .ref C, dict := none, data := .fields #[.ref t1, .none, .none, .none, .bool false, .none] } : Obj) C none := ⟨hx1, rfl, rfl, trivial⟩
  refine PySem.W.kxs_getMethod PySem.W.kxs_ValueError es (PySem.W.looks_opaque I1.kIn S.opq) (l₀ := .ref C :: bm) ?_ rfl I1.kIn sup (IA.type.andThen (PySem.W.looks_subIn I1.kIn S.sub)) (PySem.W.ks_ne I1.kIn IA hcd) (by decide) ?_
  · exact fun A Q E s k q => wpAny_bind ((PySem.W.looks_clsIn I1.kIn hcd) A _ E s k (wpAny_pure q))
  · have szu : hp.objs.size < h'.objs.size := Heap.lt_size es
    have lex := Heap.lt_size hx1
    have k2 : ∀ b o, h'.get? b = some o → (h'.push (PySem.W.kxs_mw "ValueError.__init__" a)).get? b = some o := fun b o z => Heap.get?_push_of_some _ z
    have hu : (h'.push (PySem.W.kxs_mw "ValueError.__init__" a)).get? h'.objs.size = some (PySem.W.kxs_mw "ValueError.__init__" a) := Heap.get?_push_at rfl rfl
    have I2 : Inv X pins σ H ⟨h'.push (PySem.W.kxs_mw "ValueError.__init__" a), g, d, t + 1, os⟩ := I1.kept (t' := t + 1) k2
    have fpo := I1.fpOk (Nat.le_refl h'.objs.size) (I1.hok.fresh (Nat.le_refl _))
    have I3 : Inv X (pins ++ [(h'.objs.size, PySem.W.kxs_mw "ValueError.__init__" a)]) σ H ⟨h'.push (PySem.W.kxs_mw "ValueError.__init__" a), g, d, t + 1, os⟩ := I2.pins_of fun p hp => by
      rcases List.mem_append.mp hp with z | z
      · exact I2.pin p (List.mem_append_right _ z)
      · rw [List.mem_singleton.mp z]
        exact ⟨hu, fpo.1, fpo.2.1, fpo.2.2.1, fun v z => nomatch z⟩
    rw [hst]
    refine PySem.W.kxs_callWith (i := "ValueError.__init__") (x := a) rfl (Calls.evalArgs_plain ?_)
    have run := he.run p3 _ _ σ H _ I3 h
    rw [hst] at run
    refine thn run ?_
    rintro us s1 ⟨ws, H1, J, rv, hlen, ha1, hR⟩
    have hu1 : s1.heap.get? h'.objs.size = some (PySem.W.kxs_mw "ValueError.__init__" a) := (J.pin (h'.objs.size, PySem.W.kxs_mw "ValueError.__init__" a) (by simp)).1
    refine ⟨hu1, ?_⟩
    obtain ⟨t2, hx2⟩ := exo_at J.hok ha1
    have hz : us.length ≤ sizeLine := by
      rw [← Paired.length rv, sizeLine_eq]
      omega
    obtain ⟨h2, g2, d2, tk2, os2⟩ := s1
    refine wpAny_call (codeAny_of_tree ?_)
    show wpAny _ X.A.in1 (callAny (.ref h'.objs.size) ⟨us, []⟩) _ _ _
    simp only [callAny]
    refine wpAny_bind (wpAny_load hu1 ?_)
    simp only [PySem.W.kxs_mw, show (Value.type "method-wrapper" == Value.type "method" || Value.type "method-wrapper" == Value.type "builtin_function_or_method" || Value.type "method-wrapper" == Value.type "method-wrapper") = true by decide, if_true]
    refine PySem.W.KFB.if_so (by decide) ?_
    refine wpAny_bind (PySem.W.check_bound_init F.excBase_ValueError.toExcCallFacts (J.kIn _ _ hC) hx2 rfl ?_)
    refine wpAny_bind (wpAny_pure (wpAny_pure ?_))
    refine ⟨plainId_quiet F.excBase_ValueError.init.plain _, codeAny_builtin F.excBase_ValueError.initEntry ?_⟩
    refine PySem.W.exc_init_tree (cls := .ref C) (t0 := t2) (dv := none) (c2 := .none) (c3 := .none) (b4 := .bool false) hx2 hz fun h3 k3 e3 t3 => ?_
    have J2 := J.write (t' := tk2) (x := a) (e := a) (o := exo a C none) (by rw [ha1]; exact True.intro) (.inl rfl) k3 ⟨_, e3⟩ (exo_ok e3)
    have eu : upd H1 a (exo a C none) = H1 := by
      funext b
      by_cases hb : b = a
      · rw [hb, upd_same, ha1]
      · rw [upd_ne hb]
    rw [eu] at J2
    exact PySem.wpAt_of_wpAny (q H1 _ J2.unpinned hR ha1)
end
end LW
namespace LW
open PySem PySem.Spec PyProof.Rows L2
structure SupScope (N P : List Str) (sc : Scope) : Prop where
  kind : sc.kind = .function
  co : sc.isCoroutine = false
  gen : sc.isGenerator = false
  nd : N.Nodup
  pre : N.take P.length = P
  par : ∀ x ∈ P, sc.names.lookup x = some .local
  nocell : ∀ y ∈ sc.names, y.2 ≠ .cell
  free : ∀ y ∈ sc.names, y.2 = .free → y.1 = ("__class__" : Str)
def cxS (CX : CXT) (P : Program) (w : World) (K : PySem.W.Frag) (mg : Str → Option Value) (base : Heap) (N : List Str) (qual : Str) (scope : Scope) (f : Addr) (cd : Value) (cc : Addr) (A : Around) (outer : List Env) (s : Shared) (H : Hp) (E : XK) : Cx where
  prog := P
  w := w
  K := K
  mg := mg
  base := base
  A := A.deeper (PySem.W.ksEnv qual scope s.heap.objs.size f cd cc)
  N := N
  s_0 := s
  H_0 := H
  env := PySem.W.ksEnv qual scope s.heap.objs.size f cd cc
  outer := outer
  stack := PySem.W.ksEnv qual scope s.heap.objs.size f cd cc :: outer
  ex := []
  calm := true
  fn := fun _ => false
  pn := []
  xe := fun e s' => wpAny (model P w) (A.deeper (PySem.W.ksEnv qual scope s.heap.objs.size f cd cc)) (leaving (PySem.W.ksEnv qual scope s.heap.objs.size f cd cc) e) (fun _ s'' => CX outer H s E e s'') (fun e' s'' => CX outer H s E e' s'') s'
theorem zip_lookup {P : List Str} {us : List Value} {i : Nat} {x : Str} {v : Value} (nd : P.Nodup) (h1 : P[i]? = some x) (h2 : us[i]? = some v) : (P.zip us).reverse.lookup x = some v := by
  induction P generalizing us i with
  | nil => simp at h1
  | cons p r ih =>
    cases us with
    | nil => simp at h2
    | cons u us =>
      show ((p, u) :: r.zip us).reverse.lookup x = some v
      rw [List.reverse_cons, List.lookup_append]
      cases i with
      | zero =>
        simp at h1 h2
        subst h1
        subst h2
        have : (r.zip us).reverse.lookup p = none := by
          cases e : (r.zip us).reverse.lookup p with
          | none => rfl
          | some w =>
            have m := PySem.mem_of_lookup e
            rw [List.mem_reverse] at m
            exact absurd (List.of_mem_zip m).1 (List.nodup_cons.mp nd).1
        rw [this]
        simp
      | succ i =>
        rw [ih (List.nodup_cons.mp nd).2 (by simpa using h1) (by simpa using h2)]
        rfl
theorem inv_sup {CX : CXT} {P : Program} {w : World} {K : PySem.W.Frag} {mg : Str → Option Value} {base : Heap} {N ps : List Str} {qual : Str} {scope : Scope} {f cc : Addr} {cd : Value} {A : Around} {outer : List Env} {s : Shared} {H : Hp} {E : XK} {us : List Value} {vs : List V} {h₀ : Heap} {tk : Nat} {oc : Obj} {vc : Option Value}
    (S : SupScope N ps scope) (hd : A.handled = none) (e0 : Env0 P w K mg base A outer s H) (hl : vs.length = ps.length) (r : Vals vs us) (hcc : K.lookup cc = some oc) (hvc : oc.data = .cell vc)
    (hns : h₀.Ns s.heap.objs.size (fun x => (ps.zip us).reverse.lookup x)) (hk : ∀ b o, s.heap.get? b = some o → h₀.get? b = some o) :
    Inv (cxS CX P w K mg base N qual scope f cd cc A outer s H E) [] (start N vs) H { s with heap := h₀, toks := tk } := by
  have hpl : ps.length ≤ N.length := by have := congrArg List.length S.pre; rw [List.length_take] at this; omega
  have noA : ∀ b : Addr, b ∉ (cxS CX P w K mg base N qual scope f cd cc A outer s H E).ex := fun b z => absurd (show b ∈ ([] : List Addr) from z) (by simp)
  have only : ∀ y c, (cxS CX P w K mg base N qual scope f cd cc A outer s H E).env.cells.lookup y = some c → y = ("__class__" : Str) ∧ c = cc := fun y c z => by
    have m : (y, c) ∈ [(("__class__" : Str), cc)] := PySem.mem_of_lookup z
    have e := List.mem_singleton.mp m
    cases e
    exact ⟨rfl, rfl⟩
  have kin : K.In s.heap := e0.mod.kin.keeps fun b o e => (e0.bs b o e).1
  have ccH : H cc = none := (e0.bs cc oc (e0.mod.kin _ _ hcc)).2
  refine ⟨⟨e0.mod, S.kind, rfl, rfl, Nat.le_refl _, fun y z c h1 h2 => (only y c h1).1.trans (only z c h2).1.symm, fun y hy => ?_, fun y c z _ => absurd (show false = true from z) Bool.false_ne_true, fun _ => hd, Around.frames_deeper e0.frames, .inr ⟨rfl, rfl⟩, fun b z => absurd z (noA b), e0.bs, e0.bsz, fun b _ _ => noA b, fun b z => absurd z (noA b), e0.funs, e0.frf⟩,
    rfl, e0.bare, Un.kept hk, ⟨_, hns, fun i y v h1 h2 h3 => ?_⟩, fun y c h => ?_, e0.hok.fresh (Nat.le_refl _), fun y c h => ?_, fun p hp => absurd (show p ∈ ([] : List (Addr × Obj)) from hp) (by simp), e0.hok.kept hk, ?_⟩
  · have hy : scope.names.lookup y = some .cell ∨ scope.names.lookup y = some .free := hy
    rcases hy with hy | hy
    · exact absurd rfl (S.nocell _ (PySem.mem_of_lookup hy))
    · have e := S.free _ (PySem.mem_of_lookup hy) rfl
      cases e
      exact ⟨cc, rfl⟩
  · have hi : i < vs.length := by
      unfold L2.start at h2
      by_cases hi : i < vs.length
      · exact hi
      · rw [List.getElem?_append_right (by simpa using hi)] at h2
        rw [List.getElem?_replicate] at h2
        split at h2 <;> cases h2
    have ha : vs[i]? = some v := by
      unfold L2.start at h2
      rw [List.getElem?_append_left (by simpa using hi), List.getElem?_map] at h2
      cases e : vs[i]? with
      | none => rw [e] at h2; cases h2
      | some a => rw [e] at h2; cases h2; rfl
    obtain ⟨u, hu, rv⟩ := r.get ha
    have hp : ps[i]? = some y := by
      rw [← S.pre, List.getElem?_take_of_lt (by omega)]; exact h1
    have ndP : ps.Nodup := by rw [← S.pre]; exact S.nd.sublist (List.take_sublist _ _)
    exact ⟨u, rv, .inl ⟨S.par y (List.mem_of_getElem? hp), zip_lookup ndP hp hu⟩⟩
  · rw [(only y c h).2]
    exact ⟨vc, oc, hk _ _ (kin _ _ hcc), hvc⟩
  · rw [(only y c h).2]
    exact ccH
  · unfold L2.start
    show _ = N.length
    rw [List.length_append, List.length_map, List.length_replicate]
    omega
/-- THE RULE: a def whose scope has the free name __class__, by its body -/
theorem fn_sup {CX : CXT} {P : Program} {w : World} {K : PySem.W.Frag} {mg : Str → Option Value} {base : Heap} {k : Nat} {f cc : Addr} {name qual : Str} {params : Arguments} {body : List Stmt} {scope : Scope} {dV kV doc pm cdv ct oc : Value} {an od : Option Addr}
    {osl : Array (Option Value)} {N ps : List Str} {sp : Sp} {occ : Obj} {vc : Option Value} (lk : K.lookup f = some ⟨oc, od, .func (PySem.W.ksFn name qual params body scope dV kV doc pm an cdv ct cc), osl⟩) (hcd : PySem.W.codeIn K cdv qual = true) (hcc : K.lookup cc = some occ) (hvc : occ.data = .cell vc)
    (S : SupScope N ps scope) (len : ∀ vs H Q E, sp vs H Q E → vs.length = ps.length)
    (hbody : ∀ (A : Around) (outer : List Env) (s : Shared) (H : Hp) (vs : List V) (Q : VK) (E : XK) (s1 : Shared), Room k (A.deeper (PySem.W.ksEnv qual scope s.heap.objs.size f cdv cc)) → sp vs H Q E →
      Inv (cxS CX P w K mg base N qual scope f cdv cc A outer s H E) [] (L2.start N vs) H s1 →
      PySem.wpAt (model P w) (A.deeper (PySem.W.ksEnv qual scope s.heap.objs.size f cdv cc)) (.func body (PySem.W.ksEnv qual scope s.heap.objs.size f cdv cc)) (execs body (PySem.W.ksEnv qual scope s.heap.objs.size f cdv cc))
        (SP (cxS CX P w K mg base N qual scope f cdv cc A outer s H E) [] { nx := fun _ H' => Q .non H', rt := Q }) (cxS CX P w K mg base N qual scope f cdv cc A outer s H E).xe s1) :
    FnOk P w K mg base CX (k + 1) f (PySem.W.ksFn name qual params body scope dV kV doc pm an cdv ct cc) ps sp := by
  refine ⟨len, fun A outer s H args us vs Q E hr e0 hb r hsp => ?_⟩
  have hl := len _ _ _ _ hsp
  have KX : K.In s.heap := e0.mod.kin.keeps fun b o e => (e0.bs b o e).1
  have lim : s.heap.NoLimit := e0.mod.nolimit.keeps fun b o e => (e0.bs b o e).1
  refine ks_codeAny_call_defAt (fd := PySem.W.ksFn name qual params body scope dV kV doc pm an cdv ct cc) (body := body) (binds := ps.zip us) hr.depth (KX _ _ lk) rfl lim (PySem.W.codeRec_of KX hcd) rfl hb S.nocell
    (fun y hy => S.par _ (List.of_mem_zip (show (y.1, y.2) ∈ ps.zip us from hy)).1) (fun h₁ hns hk₁ => ?_) S.co S.gen S.kind
  have I : Inv (cxS CX P w K mg base N qual scope f cdv cc A outer s H E) [] (L2.start N vs) H { s with heap := h₁, toks := s.toks + (ps.zip us).length } := inv_sup S hr.hd e0 hl r hcc hvc hns hk₁
  refine ks_wpAt_mono (hbody A outer s H vs Q E _ (hr.deeper _) hsp I) (fun fl s' hs => ?_) fun e s' hs => hs
  have fin : ∀ {σ' : L2.St} {H' : Hp} {v : V} {u : Value}, Inv (cxS CX P w K mg base N qual scope f cdv cc A outer s H E) [] σ' H' s' → RelV v u → Q v H' → CE outer P w H s Q u s' :=
    fun {σ' H' v u} J rv q => ⟨v, H', J.os, J.bare, J.base, J.hok, rv, q⟩
  cases fl with
  | ret u =>
    obtain ⟨v, σ', H', J, rv, q⟩ := hs
    exact fin J rv q
  | next =>
    obtain ⟨σ', H', J, q⟩ := hs
    exact fin (v := V.non) (u := Value.none) J rfl q
  | brk =>
    obtain ⟨_, _, _, q⟩ := hs
    exact False.elim q
  | cont =>
    obtain ⟨_, _, _, q⟩ := hs
    exact False.elim q
end LW
namespace LW
open PySem PySem.Spec PyProof.Rows L2
/-! ### enumerate(list, start=c) -/
/-- the list at a as it stands at each turn, each item in a new pair behind c + i -/
def IteC (K : PySem.W.Frag) (c : Int) (a : Addr) : It where
  go := fun i H => ∃ (xs : List V) (x : V), SqL K H a xs ∧ xs[i]? = some x
  yld := fun i H v H' => ∃ T x, v = .ref T ∧ H T = none ∧ H' = upd H T (.tup [.int (c + (i : Nat)), x]) ∧ ∀ xs, SqL K H a xs → xs[i]? = some x
  stop := fun i H => ∃ xs : List V, SqL K H a xs ∧ xs.length ≤ i
theorem apart_cls {h : Heap} {a b : Addr} {o o' : Obj} (e : h.get? a = some o) (e' : h.get? b = some o') (n : o.cls ≠ o'.cls) : a ≠ b := by
  intro z
  subst z
  rw [e] at e'
  cases e'
  exact n rfl
theorem turn_enumC {P : Program} {w : World} {K : PySem.W.Frag} {elts : List Expr} {kk : Nat} {tp : Pos} (c : Int) (a e it : Addr) :
    Turn P w K (.Tuple elts kk tp) (IteC K c a) [e, it] e (fun i h => (∃ old, IsEnum h e it (c + (i : Nat)) old) ∧ h.IsListIter it a i ∧ e ≠ it) where
  mem := by simp
  obj := by
    rintro i h ⟨⟨old, he⟩, ⟨o, ho, hc, hd⟩, _⟩ b hb
    have e' : b = e ∨ b = it := by simpa using hb
    rcases e' with z | z
    · subst z
      exact ⟨_, he, fun v q => nomatch q⟩
    · subst z
      exact ⟨o, ho, fun v q => by rw [hd] at q; cases q⟩
  keep := by
    rintro i h h' ⟨⟨old, he⟩, hi, hne⟩ k
    exact ⟨⟨old, k e (by simp) _ he⟩, hi.at fun o q => k it (by simp) o q, hne⟩
  item := by
    intro X hP hw hK hc i pins s σ H E I hf st hg
    subst hP
    subst hw
    subst hK
    obtain ⟨⟨old, he⟩, hit, hne⟩ := st
    obtain ⟨xs, x, hq, hx⟩ := hg
    obtain ⟨its, rv, p, hz⟩ := I.list hq
    obtain ⟨u, hu, ru⟩ := rv.get hx
    have hel := Heap.lt_size he
    have hil : it < s.heap.objs.size := by
      obtain ⟨_, q, _⟩ := hit
      exact Heap.lt_size q
    have hl := p.isList
    have nli : a ≠ it := by
      obtain ⟨o1, q1, c1, _⟩ := hit
      obtain ⟨o2, q2, c2, _⟩ := hl
      exact apart_cls q2 q1 (by rw [c1, c2]; decide)
    have nel : e ≠ a := by
      obtain ⟨o2, q2, c2, _⟩ := hl
      exact apart_cls he q2 (by rw [c2]; show Value.type "enumerate" ≠ Value.type "list"; decide)
    have D := Draws.list (prog := X.prog) (w := X.w) (A := X.A.in1) (I.ok.hd hc) it a nli its.toArray
    have hlt : i < its.toArray.size := by
      have := (List.getElem?_eq_some_iff.mp hu).1
      simpa using this
    refine wpAny_pyNext_enum_itemC D he ⟨hit, hl⟩ hlt hne (by simp [hne, nel]) ?_
    intro y h' tk hy ho hst hT hsz hk
    have ey : y = u := by
      have h1 : its.toArray[i]? = some y := hy
      rw [List.getElem?_toArray, hu] at h1
      exact (Option.some.inj h1).symm
    subst ey
    refine ⟨_, rfl, wpAny_letOwnedTupleGo_enum (s := { s with heap := h', toks := tk + 1 }) ho ?_⟩
    intro h2 he2 sb
    have hT2 : h2.get? s.heap.objs.size = some { cls := .type "tuple", data := .seq #[.int (c + (i : Nat)) tk, y] } := (sb.2 _ (Nat.ne_of_gt hel)).trans hT
    have new : ObjOk X.prog X.w (upd H s.heap.objs.size (.tup [.int (c + (i : Nat)), x])) h2 s.heap.objs.size (.tup [.int (c + (i : Nat)), x]) :=
      ⟨by show 2 ≤ sizeLine; decide, [.int (c + (i : Nat)) tk, y], .cons ⟨_, rfl⟩ (.cons ru .nil), ⟨_, hT2, rfl, _, rfl⟩⟩
    have I1 := I.turnedNew (ch := [e, it]) (h' := h2) (t' := tk + 1) (T := s.heap.objs.size) (ob := .tup [.int (c + (i : Nat)), x])
      (fun b ob hb q => (sb.2 b (fun z => hb (by simp [z]))).trans (hk b ob (fun z => hb (by simp [z])) (fun z => hb (by simp [z])) q)) hf (Nat.le_refl _) new
    refine ⟨.ref s.heap.objs.size, _, I1, rfl, ⟨_, x, rfl, I.hok.fresh (Nat.le_refl _), rfl, ?_⟩, ⟨⟨y, ?_⟩, hst.1.at fun o q => (sb.2 it (Ne.symm hne)).trans q, hne⟩, ?_⟩
    · intro ys hy
      rw [I.list_inj hy hq]
      exact hx
    · have e1 : c + ((i + 1 : Nat) : Int) = c + (i : Int) + 1 := by omega
      rw [e1]
      exact he2
    · intro b hb
      have e' : b = e ∨ b = it := by simpa using hb
      have hb' : b < s.heap.objs.size := by
        rcases e' with z | z
        · rw [z]; exact hel
        · rw [z]; exact hil
      rw [upd_ne (Nat.ne_of_lt hb')]
      exact (hf b hb).1
  done := by
    intro X hP hw hK hc i pins s σ H E I hf st hg
    subst hP
    subst hw
    subst hK
    obtain ⟨⟨old, he⟩, hit, hne⟩ := st
    obtain ⟨xs, hq, hx⟩ := hg
    obtain ⟨its, rv, p, hz⟩ := I.list hq
    have hl := p.isList
    have nli : a ≠ it := by
      obtain ⟨o1, q1, c1, _⟩ := hit
      obtain ⟨o2, q2, c2, _⟩ := hl
      exact apart_cls q2 q1 (by rw [c1, c2]; decide)
    obtain ⟨f0, f1, f2, f3, f4, f5⟩ := hf it (by simp)
    have len := rv.length
    have hTy : s.TypeIs (.ref e) "enumerate" := ⟨_, he, rfl⟩
    unfold pyNext
    refine wpAny_bind (wpAny_attempt (wpAny_callSpecial?_slot (name := Str.ofString "__next__") hTy F.slot_enumerate_next (wpAny_call_entry F.slot_enumerate_next hTy F.entry_enumerate_next ?_ (F.args_enumerate_next_1 _))))
    show wpAny _ _ (field (.ref e) 2 >>= _) _ _ _
    refine wpAny_bind (wpAny_field he rfl (x := .ref it) rfl ?_)
    refine wpAny_bind (wpAny_nextOf_list_end (I.ok.hd hc) hit hl (by simp; omega) ?_)
    rintro h' x he' ⟨o, ho, hcl⟩
    refine wpAny_bind (wpAny_isInstance (T := "StopIteration") (b := true) ⟨o, ho, hcl⟩ isSubtype_stop ?_)
    exact wpAny_pure ⟨rfl, I.turned (t' := s.toks) (fun b o hb q => he' b o hb q) f0 f1 f3 f4 f5⟩
  self := by
    rintro A i s Q E ⟨⟨_, he⟩, _⟩ h
    exact wpAny_pyIter_enum he h
theorem callWith_tyKw {M : Model} {A : Around} {E : Value → Shared → Prop} {s : Shared} {env : Env} {pos : Pos} {T : String} {e : Expr} {rest : List Expr} {kws : List Keyword} {Q : Value → Shared → Prop}
    (h : wpAny M A (spliced (backTo pos (starEach (e :: rest) env))) (fun vs s1 => wpAny M A (evalAll ((backToKw pos (keywordEach kws env)).map (·.2)))
      (fun kvs s2 => wpAny M A (call (.type T) vs (((backToKw pos (keywordEach kws env)).filterMap (·.1)).zip kvs)) Q E s2) E s1) E s)
    (he : backTo pos (starEach (e :: rest) env) = (false, eval e env) :: backTo pos (starEach rest env) := by rfl)
    (hp : (backTo pos (starEach (e :: rest) env)).any (·.1) = false := by rfl)
    (hall : (backToKw pos (keywordEach kws env)).all (·.1.isSome) = true := by rfl)
    (hkw : (backToKw pos (keywordEach kws env)).any (·.1.isNone) = false := by rfl) :
    wpAny M A (callWith pos (.type T) [] (backTo pos (starEach (e :: rest) env)) (backToKw pos (keywordEach kws env))) Q E s := by
  have g : wpAny M A (evalArgs (.type T) true (backTo pos (starEach (e :: rest) env)) (backToKw pos (keywordEach kws env))) (fun a s1 => wpAny M A (call (.type T) ([] ++ a.pos) a.kw) Q E s1) E s := by
    rw [he] at h ⊢
    exact evalArgs_kwB hall h
  unfold callWith
  refine wpAny_bind (wpAny_holding (wpAny_mono g (fun a s1 h1 => wpAny_bind (wpAny_standAt ?_)) fun _ _ z => z))
  simp only [hp, hkw, Bool.or_false]
  refine wpAny_bind (wpAny_pure ?_)
  exact wpAny_bind (wpAny_mono h1 (fun r s2 hr => wpAny_bind (wpAny_holding (wpAny_point (wpAny_pure hr)))) fun _ _ z => z)
def iEnumC (K : PySem.W.Frag) (ta tk : TA) : TI := fun σ H R => ta σ H fun vs H1 => tk σ H1 fun ks H2 => ∃ (a : Addr) (c : Int) (xs : List V), vs = [.ref a] ∧ ks = [.int c] ∧ -(2 ^ 63) ≤ c ∧ c < 2 ^ 63 ∧ SqL K H2 a xs ∧ R (IteC K c a) H2
theorem pi_enumC {X : Cx} {e se : Expr} {ta tk : TA} {p pos kp tp : Pos} {elts : List Expr} {kk : Nat} (hg : Gl X "enumerate") (hm : X.mg "enumerate" = none) (ha : PA X [e] ta) (hk : PK X [⟨some "start", se, kp⟩] tk)
    (hs : starEach [e] X.env = [(false, eval e X.env)] := by rfl) :
    PI X (.Tuple elts kk tp) (.Call (.Name "enumerate" p) [e] [⟨some "start", se, kp⟩] pos) (iEnumC X.K ta tk) := by
  constructor
  intro pins s σ H R I h
  refine wpAny_Call_Name_kw (ld_blt I hg hm boot_enumerate (callWith_tyKw (kws := [⟨some "start", se, kp⟩]) (thn (ha.run pos pins s σ H _ I h) ?_) (by rw [hs]; rfl) (by rw [hs]; rfl)))
  rintro us s1 ⟨vs, H1, I1, r1, q1⟩
  refine thn (hk.run pos pins s1 σ H1 _ I1 q1) ?_
  rintro ws s2 ⟨ks, H2, I2, r2, a, c, xs, ea, ec, c0, c1, hq, q⟩
  subst ea
  subst ec
  cases r1 with
  | cons r rr =>
    cases rr
    cases r
    cases r2 with
    | cons r' rr' =>
      cases rr'
      obtain ⟨t, et⟩ := r'
      subst et
      obtain ⟨its, rv, p', hz⟩ := I2.list hq
      show wpAny _ _ (call (.type "enumerate") [.ref a] [(Str.ofString "start", .int c t)]) _ _ _
      refine enum_begins_start (begins_list a its.toArray) p'.isList c0 c1 ?_
      intro h' he hit hsz hkp
      have hiter : h'.IsListIter s2.heap.objs.size a 0 := ⟨_, hit, rfl, rfl⟩
      refine wpAny_pyIter_enum he ?_
      have I3 : Inv X pins σ H2 { s2 with heap := h' } := I2.kept (t' := s2.toks) hkp
      refine ⟨s2.heap.objs.size + 1, [s2.heap.objs.size + 1, s2.heap.objs.size], _, _, H2, rfl, I3, turn_enumC c a (s2.heap.objs.size + 1) s2.heap.objs.size, ⟨⟨.none, ?_⟩, hiter, Nat.succ_ne_self _⟩, ?_, q⟩
      · rw [show c + ((0 : Nat) : Int) = c by omega]
        exact he
      · intro b hb
        have e' : b = s2.heap.objs.size + 1 ∨ b = s2.heap.objs.size := by simpa using hb
        have hle : s2.heap.objs.size ≤ b := by
          rcases e' with z | z
          · rw [z]; exact Nat.le_add_right _ _
          · rw [z]; exact Nat.le_refl _
        exact I2.fpOk hle (I2.hok.fresh hle)
theorem walk_enumC {K : PySem.W.Frag} {c : Int} {a : Addr} {xs : List V} : Walk (IteC K c a) xs.length (fun H => SqL K H a xs) (YPair (fun i => some (.int (c + (i : Nat)))) (fun i => xs[i]?)) := by
  refine ⟨fun i _ hi q => ⟨xs, xs[i], q, by simp [hi]⟩, fun _ q => ⟨xs, q, Nat.le_refl _⟩, ?_⟩
  rintro i H v H' _ q ⟨T, x, h1, h2, h3, h4⟩
  exact ⟨T, .int (c + (i : Nat)), x, h1, h2, h3, rfl, h4 xs q⟩
end LW
namespace LW
open PySem PySem.Spec PyProof.Rows L2 GxR
/-- sixteen hexadecimal digits -/
def isAddr (t : Str) : Bool := decide (t.length = 16) && t.cps.toList.all fun c => decide (c ∈ hexDigits)
theorem digits_eq : (Str.ofString "0123456789abcdef").cps.toList = hexDigits := by decide +kernel
/-- a def of the text whose code object stands at c -/
structure FunC (K : PySem.W.Frag) (x qual : Str) (st : Stmt) (f : Addr) (fd : FuncData) (c : Addr) : Prop where
  ex : ∃ (oc : Value) (od : Option Addr) (kV doc pm : Value) (an : Option Addr) (ct : Value) (osl : Array (Option Value)),
    fd = PySem.W.fnOf x qual (defArgs st) (defBody st) (defScope st) .none kV doc pm an (.ref c) ct ∧ K.lookup f = some ⟨oc, od, .func fd, osl⟩ ∧ PySem.W.codeIn K (.ref c) qual = true
  kp : PySem.W.keepIn K (.ref f) = true
theorem FunC.ok {P : Program} {w : World} {K : PySem.W.Frag} {mg : Str → Option Value} {base : Heap} {x qual : Str} {st : Stmt} {f c : Addr} {fd : FuncData} {N ps : List Str} {k : Nat} {sp : Sp} (F : FunC K x qual st f fd c)
    (S : FnScope N ps (defScope st)) (len : ∀ vs H Q E, sp vs H Q E → vs.length = ps.length)
    (body : ∀ (A : Around) (outer : List Env) (s : Shared) (H : Hp) (vs : List V) (Q : VK) (E : XK), Room k (A.deeper (envOfC qual (defScope st) s.heap.objs.size f (.ref c))) → sp vs H Q E →
      ∃ t, PSs (cxOf CX0 P w K mg base N qual (defScope st) f (.ref c) A outer s H E).nox (defBody st) t ∧ t { nx := fun _ H' => Q .non H', rt := Q } (L2.start N vs) H) :
    FnOk P w K mg base CX0 (k + 1) f fd ps sp := by
  obtain ⟨oc, od, kV, doc, pm, an, ct, osl, e, lk, hcd⟩ := F.ex
  subst e
  refine fn_of lk hcd S len fun A outer s H vs Q E hr hsp => ?_
  obtain ⟨t, h, q⟩ := body A outer s H vs Q E hr hsp
  exact ⟨t, h.nox, q⟩
theorem no_free {ns : List (Str × NameKind)} {R : Str × NameKind → Prop} (h : ∀ y ∈ ns, y.2 ≠ .free) : ∀ y ∈ ns, y.2 = .free → R y := fun y hy e => absurd e (h y hy)
/-- a def of the module by its name -/
structure DefAt (K : PySem.W.Frag) (mg : Str → Option Value) (x : Str) (st : Stmt) (ps : List Str) (f : Addr) (fd : FuncData) : Prop where
  fn : Fun K x x st f fd
  at_ : mg x = some (.ref f)
  bd : Binds K fd ps []
theorem tyes {σ : L2.St} {H : Hp} {A B : Hp → Prop} (h : A H) : tYes σ H fun b H3 => if b = true then A H3 else B H3 := by
  show (if true = true then A H else B H)
  rw [if_pos rfl]
  exact h
theorem same_upd {H : Hp} {p : Addr} {o : HO} (h : H p = none) : Same H (upd H p o) := fun b x e => by
  rw [upd_ne (ne_of_none e h)]
  exact e
theorem nat_of {v m : Int} (h0 : 0 ≤ v) (h1 : v < m) : ∃ j : Nat, v = (j : Int) ∧ (j : Int) < m := ⟨v.toNat, by omega, by omega⟩
/-! ### the law's own state: a pair of addresses -/
def LS (H : Hp) (a c : Addr) (n : Int) (cs : List Int) : Prop :=
  H a = some (.lst [.int n, .ref c]) ∧ H c = some (.lst (cs.map V.int)) ∧ a ≠ c ∧ 0 < cs.length ∧ cs.length ≤ 63 ∧ (∀ z ∈ cs, 0 ≤ z) ∧ 0 ≤ n
def SL (H : Hp) (a c : Addr) : Prop := ∃ n cs, LS H a c n cs
theorem SL.eq {H H' : Hp} {a c : Addr} (s : SL H a c) (ea : H' a = H a) (ec : H' c = H c) : SL H' a c := by
  obtain ⟨n, cs, h1, h2, r⟩ := s
  exact ⟨n, cs, by rw [ea]; exact h1, by rw [ec]; exact h2, r⟩
theorem SL.same {H H' : Hp} {a c : Addr} (s : SL H a c) (e : Same H H') : SL H' a c := by
  obtain ⟨n, cs, h1, h2, r⟩ := s
  exact ⟨n, cs, e _ _ h1, e _ _ h2, r⟩
theorem SL.ne {H : Hp} {a c x : Addr} (s : SL H a c) (n : H x = none) : x ≠ a ∧ x ≠ c := by
  obtain ⟨_, cs, h1, h2, r⟩ := s
  exact ⟨(ne_of_none h1 n).symm, (ne_of_none h2 n).symm⟩
theorem SL.tab {H : Hp} {a c B : Addr} (s : SL H a c) (t : TabG H B) : B ≠ a ∧ B ≠ c := by
  obtain ⟨_, cs, h1, h2, r⟩ := s
  obtain ⟨ps, e, _⟩ := t
  exact ⟨ne_of e h1 (by intro q; cases q), ne_of e h2 (by intro q; cases q)⟩
theorem tab_same {H H' : Hp} {B : Addr} (t : TabG H B) (e : Same H H') : TabG H' B := by
  obtain ⟨ps, h, r⟩ := t
  exact ⟨ps, e _ _ h, r⟩
theorem tab_eq {H H' : Hp} {B : Addr} (t : TabG H B) (e : H' B = H B) : TabG H' B := by
  obtain ⟨ps, h, r⟩ := t
  exact ⟨ps, by rw [e]; exact h, r⟩
def spState (K : PySem.W.Frag) : Sp := fun vs H Q _ => ∃ (l : Addr) (ns : List Int), vs = [.ref l] ∧ SqL K H l (ns.map V.int) ∧ ns.length ≤ 63 ∧
  ∀ (a c : Addr) (H' : Hp), H a = none → H c = none → Same H H' → SL H' a c → Q (.ref a) H'
/-- a draw: 0 .. m - 1 -/
def spTake : Sp := fun vs H Q _ => ∃ (a c : Addr) (m : Int), vs = [.ref a, .int m] ∧ SL H a c ∧ 1 ≤ m ∧ m < 1000000 ∧
  ∀ (v : Int) (H' : Hp), 0 ≤ v → v < m → (∀ b, b ≠ a → b ≠ c → H' b = H b) → SL H' a c → Q (.int v) H'
theorem at2_0 {x y : V} : atI [x, y] 0 = some x := rfl
theorem at2_1 {x y : V} : atI [x, y] 1 = some y := rfl
/-! ### as it was, but for tables of code that may have grown -/
structure Gr (H H' : Hp) : Prop where
  keep : ∀ b o, H b = some o → (∀ ps, o ≠ .tbl ps) → H' b = some o
  tab : ∀ b, TabG H b → TabG H' b
  free : ∀ b, H' b = none → H b = none
theorem Gr.refl (H : Hp) : Gr H H := ⟨fun _ _ e _ => e, fun _ t => t, fun _ n => n⟩
theorem Gr.trans {H H1 H2 : Hp} (g : Gr H H1) (h : Gr H1 H2) : Gr H H2 := ⟨fun b o e n => h.keep b o (g.keep b o e n) n, fun b t => h.tab b (g.tab b t), fun b n => g.free b (h.free b n)⟩
theorem Gr.of_same {H H' : Hp} (s : Same H H') : Gr H H' := ⟨fun b o e _ => s b o e, fun b t => tab_same t s, fun b n => by
  cases e : H b with
  | none => rfl
  | some o => rw [s b o e] at n; cases n⟩
theorem Gr.of_tab {H H' : Hp} {B : Addr} (tb : TabG H B) (t : Tabbed B H H') : Gr H H' := ⟨fun b o e n => by
  obtain ⟨ps, h, _⟩ := tb
  rw [t.2 b (fun z => by rw [z, h] at e; cases e; exact n ps rfl)]
  exact e, fun b u => by
    by_cases hb : b = B
    · rw [hb]; exact t.1
    · exact tab_eq u (t.2 b hb), fun b n => by
    by_cases hb : b = B
    · obtain ⟨ps, h, _⟩ := t.1
      rw [hb, h] at n; cases n
    · rw [← t.2 b hb]; exact n⟩
theorem Gr.upd {H H' : Hp} {p : Addr} {o : HO} (g : Gr H H') (n : H' p = none) : Gr H (upd H' p o) := g.trans (.of_same (same_upd n))
theorem Gr.lst {H H' : Hp} {b : Addr} {xs : List V} (g : Gr H H') (e : H b = some (.lst xs)) : H' b = some (.lst xs) := g.keep b _ e (fun ps z => nomatch z)
theorem Gr.tup {H H' : Hp} {b : Addr} {xs : List V} (g : Gr H H') (e : H b = some (.tup xs)) : H' b = some (.tup xs) := g.keep b _ e (fun ps z => nomatch z)
theorem Gr.SL {H H' : Hp} {a c : Addr} (g : Gr H H') (s : SL H a c) : SL H' a c := by
  obtain ⟨n, cs, h1, h2, r⟩ := s
  exact ⟨n, cs, g.lst h1, g.lst h2, r⟩
/-- a promise without a way out is one of the calm kind -/
theorem calm_of {P : Program} {w : World} {K : PySem.W.Frag} {mg : Str → Option Value} {base : Heap} {k : Nat} {f : Addr} {fd : FuncData} {ps : List Str} {sp sp' : Sp} (F : FnOk P w K mg base (L2.CX P w) k f fd ps sp)
    (h : ∀ vs H Q E, sp' vs H Q E → sp vs H Q (fun _ _ _ => False)) : FnOk P w K mg base CX0 k f fd ps sp' := by
  refine ⟨fun vs H Q E q => F.len vs H Q _ (h vs H Q E q), fun A outer s H args us vs Q E hr e0 hb r q => codeAny_mono (F.run A outer s H args us vs Q _ hr e0 hb r (h vs H Q E q)) fun res s' hs => ?_⟩
  cases res with
  | ok fl => cases fl <;> exact hs
  | error e =>
    obtain ⟨_, _, _, _, _, _, _, _, _, _, _, _, z⟩ := hs
    exact z.elim
end LW
namespace LW
open PySem PySem.Spec PyProof.Rows L2
/-- the def of the module by the name x keeps sp -/
def Cal (P : Program) (w : World) (K : PySem.W.Frag) (mg : Str → Option Value) (base : Heap) (CX : CXT) (k : Nat) (x : Str) (ps : List Str) (sp : Sp) : Prop :=
  ∃ (f : Addr) (fd : FuncData), FnOk P w K mg base CX k f fd ps sp ∧ mg x = some (.ref f) ∧ PySem.W.keepIn K (.ref f) = true ∧ L2.Binds K fd ps []
/-- the method m of the class at C keeps sp -/
def CalM (P : Program) (w : World) (K : PySem.W.Frag) (mg : Str → Option Value) (base : Heap) (CX : CXT) (k : Nat) (C : Addr) (m : Str) (ps : List Str) (sp : Sp) : Prop :=
  ∃ (f : Addr) (fd : FuncData), FnOk P w K mg base CX k f fd ps sp ∧ Cls K C ∧ Meth K C m f ∧ L2.Binds K fd ps []
/-- the class x at C is made, its __init__ keeps sp -/
def CalK (P : Program) (w : World) (K : PySem.W.Frag) (mg : Str → Option Value) (base : Heap) (CX : CXT) (k : Nat) (x : Str) (C : Addr) (ps : List Str) (sp : Sp) : Prop :=
  ∃ (f : Addr) (fd : FuncData), FnOk P w K mg base CX k f fd ps sp ∧ Mk K C f ∧ mg x = some (.ref C) ∧ L2.Binds K fd ps []
theorem Cal.of {P : Program} {w : World} {K : PySem.W.Frag} {mg : Str → Option Value} {base : Heap} {CX : CXT} {k : Nat} {x : Str} {st : Stmt} {ps : List Str} {f : Addr} {fd : FuncData} {sp : Sp} (D : DefAt K mg x st ps f fd) (F : FnOk P w K mg base CX k f fd ps sp) : Cal P w K mg base CX k x ps sp :=
  ⟨f, fd, F, D.at_, D.fn.kp, D.bd⟩
theorem Cal.calm {P : Program} {w : World} {K : PySem.W.Frag} {mg : Str → Option Value} {base : Heap} {k : Nat} {x : Str} {ps : List Str} {sp sp' : Sp} (C : Cal P w K mg base (L2.CX P w) k x ps sp) (h : ∀ vs H Q E, sp' vs H Q E → sp vs H Q (fun _ _ _ => False)) : Cal P w K mg base CX0 k x ps sp' := by
  obtain ⟨f, fd, F, a, kp, b⟩ := C
  exact ⟨f, fd, calm_of F h, a, kp, b⟩
section
variable {X : Cx} {k j : Nat} {x m : Str} {C : Addr} {ps : List Str} {sp : Sp} {e o : Expr} {es : List Expr} {t : TA} {ta : TE} {p apos pos : Pos} {W : WX}
theorem pe_cal (c : Cal X.prog X.w X.K X.mg X.base CX0 k x ps sp) (hr : Room j X.A) (ha : PA X (e :: es) t) (hg : Gl X x := by rfl) (hk : k ≤ j := by decide) (hdb : (x == ("__debug__" : Str)) = false := by decide)
    (he : starEach (e :: es) X.env = (false, eval e X.env) :: starEach es X.env := by rfl) (hpl : (backTo pos (starEach es X.env)).any (·.1) = false := by rfl) : PE X (.Call (.Name x p) (e :: es) [] pos) (tCall sp [] E0 t) := by
  obtain ⟨f, fd, F, a, kp, b⟩ := c
  exact pe_call F (hr.mono hk) hg a kp b .nil pass0 ha hdb he hpl
theorem pe_cal0 (c : Cal X.prog X.w X.K X.mg X.base CX0 k x ps sp) (hr : Room j X.A) (hg : Gl X x := by rfl) (hk : k ≤ j := by decide) (hdb : (x == ("__debug__" : Str)) = false := by decide) : PE X (.Call (.Name x p) [] [] pos) (tCall sp [] E0 tNil) := by
  obtain ⟨f, fd, F, a, kp, b⟩ := c
  exact pe_call0 F (hr.mono hk) hg a kp b .nil pass0 hdb
/-- of one that may raise -/
theorem pe_calS (c : Cal X.prog X.w X.K X.mg X.base (L2.CX X.prog X.w) k x ps sp) (hr : Room j X.A) (tk : Takes X W) (ha : PA X (e :: es) t) (hg : Gl X x := by rfl) (hk : k ≤ j := by decide) (hdb : (x == ("__debug__" : Str)) = false := by decide)
    (he : starEach (e :: es) X.env = (false, eval e X.env) :: starEach es X.env := by rfl) (hpl : (backTo pos (starEach es X.env)).any (·.1) = false := by rfl) : PE X (.Call (.Name x p) (e :: es) [] pos) (tCallS sp (WE W) t) := by
  obtain ⟨f, fd, F, a, kp, b⟩ := c
  exact pe_callS F (hr.mono hk) hg a kp b (fun σ => passAt tk σ) ha hdb he hpl
theorem pe_calM {pl : Sem Bool} (he : PE X o ta) (c : CalM X.prog X.w X.K X.mg X.base CX0 k C m ps sp) (hr : Room j X.A) (ha : PA X (e :: es) t) (hk : k ≤ j := by decide)
    (hst : starEach (e :: es) X.env = (false, eval e X.env) :: starEach es X.env := by rfl) (hpl : (backTo pos (starEach es X.env)).any (·.1) = false := by rfl)
    (ht : eval (.Call (.Attribute o m apos) (e :: es) [] pos) X.env = (do
      let ov ← eval o X.env
      standAt apos.atName
      let (f, first) ← holding [ov] (getMethod ov m pl)
      callWith pos f first (backTo pos (starEach (e :: es) X.env)) (backToKw pos (keywordEach [] X.env))) := by rfl) :
    PE X (.Call (.Attribute o m apos) (e :: es) [] pos) (tMeth C m sp [] E0 ta t) := by
  obtain ⟨f, fd, F, cl, me, b⟩ := c
  exact pe_meth he cl me F (hr.mono hk) b .nil pass0 ha hst hpl ht
theorem pe_calM0 {pl : Sem Bool} (he : PE X o ta) (c : CalM X.prog X.w X.K X.mg X.base CX0 k C m ps sp) (hr : Room j X.A) (hk : k ≤ j := by decide)
    (ht : eval (.Call (.Attribute o m apos) [] [] pos) X.env = (do
      let ov ← eval o X.env
      standAt apos.atName
      let (f, first) ← holding [ov] (getMethod ov m pl)
      callWith pos f first (backTo pos (starEach [] X.env)) (backToKw pos (keywordEach [] X.env))) := by rfl) :
    PE X (.Call (.Attribute o m apos) [] [] pos) (tMeth C m sp [] E0 ta tNil) := by
  obtain ⟨f, fd, F, cl, me, b⟩ := c
  exact pe_meth0 he cl me F (hr.mono hk) b .nil pass0 ht
theorem pe_calK (c : CalK X.prog X.w X.K X.mg X.base CX0 k x C ps sp) (hr : Room j X.A) (ha : PA X (e :: es) t) (hg : Gl X x := by rfl) (hk : k + 1 ≤ j := by decide) (hdb : (x == ("__debug__" : Str)) = false := by decide)
    (he : starEach (e :: es) X.env = (false, eval e X.env) :: starEach es X.env := by rfl) (hpl : (backTo pos (starEach es X.env)).any (·.1) = false := by rfl) : PE X (.Call (.Name x p) (e :: es) [] pos) (tMake C sp [] E0 t) := by
  obtain ⟨f, fd, F, M, a, b⟩ := c
  exact pe_make M F (hr.mono hk) hg a b .nil pass0 ha hdb he hpl
theorem pe_calK0 (c : CalK X.prog X.w X.K X.mg X.base CX0 k x C ps sp) (hr : Room j X.A) (hg : Gl X x := by rfl) (hk : k + 1 ≤ j := by decide) (hdb : (x == ("__debug__" : Str)) = false := by decide) : PE X (.Call (.Name x p) [] [] pos) (tMake C sp [] E0 tNil) := by
  obtain ⟨f, fd, F, M, a, b⟩ := c
  exact pe_make0 M F (hr.mono hk) hg a b .nil pass0 hdb
/-- a constant of the module -/
theorem pe_gstr {z : Str} (h : ∃ u, X.mg x = some (.str z u)) (hg : Gl X x := by rfl) (hd : (x == ("__debug__" : Str)) = false := by decide) : PE X (.Name x pos) (tC (.str z)) := by
  obtain ⟨u, e⟩ := h
  exact pe_glob (v := .str z) hg e ⟨u, rfl⟩ hd
theorem pe_gint {z : Int} (h : ∃ u, X.mg x = some (.int z u)) (hg : Gl X x := by rfl) (hd : (x == ("__debug__" : Str)) = false := by decide) : PE X (.Name x pos) (tC (.int z)) := by
  obtain ⟨u, e⟩ := h
  exact pe_glob (v := .int z) hg e ⟨u, rfl⟩ hd
/-- a built-in class as a value -/
theorem pe_gty {T : String} (h : X.mg x = none) (hv : bootBuiltins x = some (.type T) := by decide +kernel) (hg : Gl X x := by rfl) (hn : x ≠ "__name__" := by decide) (hd : (x == ("__debug__" : Str)) = false := by decide) : PE X (.Name x pos) (tC (.ty T)) :=
  pe_bltn (v := .ty T) hg h hv rfl hn hd
end
end LW
namespace LW
open PySem PySem.Spec PyProof.Rows L2 GxR
/-- the end of a law's row: all that the head says is at hand -/
theorem walk_gnd {l : PySem.W.OpenLaw} {n k : Nat} {q : Program} {loose : List Str} {XP : (Str → Option Value) → Heap → Prop} {YP : World → Heap → Prop} {d : DefRec} {K : Params → PySem.W.Frag} {CX : World → CXT} {x : Str}
    (hn : l.most = some n) (hn2 : n ≤ sizeLine) (hdf : d.params.defaults = []) (hr : Room k callerA) (hY : ∀ (w : World) (h : Heap), YP w h → (K w.params).In h)
    (F : ∀ (w : World) (s0 : Shared) (mg mb : Str → Option Value) (fa : Addr) (h : Heap), PySem.W.Ground q loose [] XP w s0 mg mb h → YP w h → (K w.params).In h → mg d.name = some (.ref fa) → LamX.LawAtS l w (K w.params) (CX w) k n x mg fa h)
    (hCX : ∀ (w : World) (H : Hp) (s : Shared) (e : Value) (s' : Shared), CX w [] H s (fun _ _ _ => False) e s' → False) :
    PySem.W.WalkO q loose XP YP l.row.toRowW d [] (fun f vs => PySem.call f vs) := by
  refine Att.attach_callB hn hdf ?_
  intro w s0 s1 mg mb fa o pm cd doc a vs ns G Y ho hd hcd hmg hobj hints hlen hbits hg
  have KX := hY w _ Y
  obtain ⟨fd, cs, sp, hT, nT, C, hb, hsp, hF⟩ := F w s0 mg mb fa _ G Y KX hmg
  refine LamX.law_callTs KX G.T.g G.T.b G.T.builtins G.T.nolimit hg hT nT C G.T.bmain hobj hints (Nat.le_trans hlen hn2) hr hF hb ?_ ?_
  · intro H hH hS
    exact hsp H a ns hlen hbits hH hS
  · intro H e s'
    exact hCX w H s1 e s'
/-- a function of the module as the head leaves it -/
theorem def_at {K : PySem.W.Frag} {h : Heap} {mg : Str → Option Value} {x : Str} {st : Stmt} {ps : List Str} {f : Addr} {oc : Value} {od an : Option Addr} {sl : Array (Option Value)} {kV dc pm cd ct : Value}
    (X : K.In h) (G : h.Ns mainGlobals mg) (a : PySem.W.nsIn K mainGlobals x = some (some (.ref f)))
    (l : K.lookup f = some ⟨oc, od, .func (PySem.W.fnOf x x (defArgs st) (defBody st) (defScope st) .none kV dc pm an cd ct), sl⟩)
    (c : PySem.W.codeIn K cd x = true) (k : PySem.W.keepIn K (.ref f) = true)
    (b : ∀ (kV doc pm : Value) (an : Option Addr) (cdv ct : Value) (us : List Value), us.length = ps.length → bindArgs (PySem.W.fnOf x x (defArgs st) (defBody st) (defScope st) .none kV doc pm an cdv ct) ⟨us, []⟩ = pure (ps.zip us)) :
    DefAt K mg x st ps f (PySem.W.fnOf x x (defArgs st) (defBody st) (defScope st) .none kV dc pm an cd ct) :=
  ⟨fun_mk (st := st) l c k, PySem.W.mg_of X G a, (fun_mk (st := st) l c k).binds b⟩
end LW
namespace LW
open PySem PySem.Spec PyProof.Rows L2
/-- a comprehension over pairs, whose parts make nothing -/
theorem lc_pair {J : It} {n : Nat} {G : Hp → Prop} {Y : Nat → Hp → V → Hp → Prop} {K : PySem.W.Frag} (w : Walk J n G Y) {j1 j2 : Nat} {te : TE} {vs : List Nat} {σ : L2.St} {H1 : Hp} {D : Addr} {Qd : Hp → Prop} (f : Nat → V)
    (hn : n < 16000000) (hG : ∀ H, But D H1 H → G H) (hw : ∀ x y, wipe (((wipe σ vs).set j1 (some x)).set j2 (some y)) vs = wipe σ vs)
    (hs : ∀ i x H H', i < n → But D H1 H → Y i H x H' → ∃ t u v, x = .ref t ∧ H' = H ∧ SqT K H t [u, v] ∧ ∀ Q : VK, Q (f i) H → te (((wipe σ vs).set j1 (some u)).set j2 (some v)) H Q)
    (hd : Qd (upd H1 D (.lst ((List.range n).map f)))) :
    ∃ W : Nat → Nat → Hp → Prop, (∃ m, W 0 m (upd H1 D (.lst []))) ∧ ∀ i m H, W i m H →
      (J.stop i H ∧ Qd H) ∨ (J.go i H ∧ ∃ Nx : Hp → Prop, (∀ H', Nx H' → ∃ m', m' < m ∧ W (i + 1) m' H') ∧ ∀ x H', J.yld i H x H' → gTup K 2 (gCons (gName j1) (gCons (gName j2) gNil)) x (wipe σ vs) H' fun σ2 H2 => wipe σ2 vs = wipe σ vs ∧ tYes σ2 H2 fun b H3 =>
        if b = true then te σ2 H3 fun y H4 => ∃ acc, H4 D = some (.lst acc) ∧ acc.length < sizeLine ∧ Nx (upd H4 D (.lst (acc ++ [y]))) else Nx H3) := by
  refine lc_it w (fun i H => H = upd H1 D (.lst ((List.range i).map f))) rfl (fun i H _ e => hG H (by rw [e]; exact But.upd)) ?_ (fun H e => by rw [e]; exact hd)
  rintro i x H H' hi e hy
  have b1 : But D H1 H := by rw [e]; exact But.upd
  obtain ⟨t, u, v, rfl, e2, hT, he⟩ := hs i x H H' hi b1 hy
  subst e2
  have hD : H' D = some (.lst ((List.range i).map f)) := by rw [e, upd_same]
  refine ⟨t, [u, v], rfl, hT, rfl, u, [v], rfl, v, [], rfl, rfl, hw u v, tyes (he _ ⟨_, hD, ?_, ?_⟩)⟩
  · rw [List.length_map, List.length_range]
    exact Nat.lt_trans hi (Nat.lt_trans hn (by decide))
  · rw [List.range_succ, List.map_append, e, upd_upd]
    rfl
end LW
namespace LW
open PySem PySem.Spec PyProof.Rows L2 GxR
open TL (joinL tl tl_join join_eq spl spl_hit spl_miss spl_nil pre map_tl_inj split_spl kind_ok tl_append ext_tl)
/-! ### lines -/
def nl : Str := Str.ofString "\n"
def sp : Str := Str.ofString " "
theorem tl_nl : tl nl = [10] := by decide +kernel
theorem tl_sp : tl sp = [32] := by decide +kernel
theorem kind_nl : nl.cps.all (· < 256) = true := by decide +kernel
theorem kind_sp : sp.cps.all (· < 256) = true := by decide +kernel
theorem pre1 (c x : Nat) (r : List Nat) : pre [c] (x :: r) = decide (x = c) := by
  show (([x] : List Nat) == [c]) = decide (x = c)
  by_cases h : x = c
  · subst h; simp
  · simp [h]
theorem spl_ne (S : List Nat) : ∀ (l : List Nat) (k : Nat) (acc : List Nat), spl S k acc l ≠ []
  | [], k, acc => by rw [spl_nil]; simp
  | c :: r, 0, acc => by
    show (if pre S (c :: r) = true then acc :: spl S (S.length - 1) [] r else spl S 0 (acc ++ [c]) r) ≠ []
    split
    · simp
    · exact spl_ne S r 0 _
  | c :: r, k + 1, acc => spl_ne S r k acc
theorem spl_len (c : Nat) : ∀ (l acc : List Nat), (spl [c] 0 acc l).length ≤ l.length + 1
  | [], acc => by rw [spl_nil]; simp
  | x :: r, acc => by
    by_cases h : pre [c] (x :: r) = true
    · rw [spl_hit h]
      have := spl_len c r []
      simp only [List.length_cons, List.length_nil] at this ⊢
      show (spl [c] 0 [] r).length + 1 ≤ _
      omega
    · rw [spl_miss (eq_false_of_ne_true h)]
      have := spl_len c r (acc ++ [x])
      simp only [List.length_cons]
      omega
theorem spl_part (c : Nat) : ∀ (l acc : List Nat), ∀ p ∈ spl [c] 0 acc l, p.length ≤ acc.length + l.length
  | [], acc, p, h => by
    rw [spl_nil] at h
    rw [List.mem_singleton.mp h]
    simp
  | x :: r, acc, p, h => by
    by_cases e : pre [c] (x :: r) = true
    · rw [spl_hit e] at h
      rcases List.mem_cons.mp h with h | h
      · rw [h]; omega
      · have := spl_part c r [] p h
        simp only [List.length_cons, List.length_nil] at this ⊢
        omega
    · rw [spl_miss (eq_false_of_ne_true e)] at h
      have := spl_part c r (acc ++ [x]) p h
      simp only [List.length_append, List.length_cons, List.length_nil] at this ⊢
      omega
/-- without the sign: one part -/
theorem spl_no (c : Nat) : ∀ (l acc : List Nat), c ∉ l → spl [c] 0 acc l = [acc ++ l]
  | [], acc, _ => by rw [spl_nil]; simp
  | x :: r, acc, h => by
    have hx : pre [c] (x :: r) = false := by rw [pre1]; exact decide_eq_false fun e => h (by rw [e]; exact List.mem_cons_self)
    rw [spl_miss hx, spl_no c r (acc ++ [x]) fun m => h (List.mem_cons_of_mem _ m)]
    simp
/-- at the first sign -/
theorem spl_at1 (c : Nat) : ∀ (a acc b : List Nat), c ∉ a → spl [c] 0 acc (a ++ c :: b) = (acc ++ a) :: spl [c] 0 [] b
  | [], acc, b, _ => by
    have hx : pre [c] (c :: b) = true := by rw [pre1]; exact decide_eq_true rfl
    rw [List.nil_append, spl_hit hx, List.append_nil]
    rfl
  | x :: r, acc, b, h => by
    have hx : pre [c] (x :: (r ++ c :: b)) = false := by rw [pre1]; exact decide_eq_false fun e => h (by rw [e]; exact List.mem_cons_self)
    rw [List.cons_append, spl_miss hx, spl_at1 c r (acc ++ [x]) b fun m => h (List.mem_cons_of_mem _ m)]
    simp
def lns (t : Str) : List Str := Txt.split t nl
def wds (l : Str) : List Str := Txt.split l sp
theorem lns_tl (t : Str) : (lns t).map tl = spl [10] 0 [] (tl t) := by
  unfold lns
  rw [split_spl _ nl (by rw [tl_nl]; simp) (kind_ok kind_nl), tl_nl]
theorem wds_tl (t : Str) : (wds t).map tl = spl [32] 0 [] (tl t) := by
  unfold wds
  rw [split_spl _ sp (by rw [tl_sp]; simp) (kind_ok kind_sp), tl_sp]
theorem lns_ne (t : Str) : lns t ≠ [] := by
  intro h
  have := lns_tl t
  rw [h] at this
  exact spl_ne _ _ _ _ this.symm
theorem wds_ne (t : Str) : wds t ≠ [] := by
  intro h
  have := wds_tl t
  rw [h] at this
  exact spl_ne _ _ _ _ this.symm
theorem lns_len (t : Str) : (lns t).length ≤ t.length + 1 := by
  have h := congrArg List.length (lns_tl t)
  rw [List.length_map] at h
  have := spl_len 10 (tl t) []
  rw [h, TL.len_tl]
  exact this
theorem lns_mem {t l : Str} (h : l ∈ lns t) : l.length ≤ t.length := by
  have m : tl l ∈ spl [10] 0 [] (tl t) := by rw [← lns_tl]; exact List.mem_map_of_mem h
  have := spl_part 10 (tl t) [] _ m
  rw [TL.len_tl, TL.len_tl]
  simpa using this
theorem wds_mem {t l : Str} (h : l ∈ wds t) : l.length ≤ t.length := by
  have m : tl l ∈ spl [32] 0 [] (tl t) := by rw [← wds_tl]; exact List.mem_map_of_mem h
  have := spl_part 32 (tl t) [] _ m
  rw [TL.len_tl, TL.len_tl]
  simpa using this
/-- a line as a name and an address -/
def nam (l : Str) : Str := (Txt.partition l sp).1
def adr (l : Str) : Str := (Txt.partition l sp).2.2
theorem split_at (x : List Nat) (h : 32 ∈ x) : ∃ a b, x = a ++ 32 :: b ∧ 32 ∉ a := by
  induction x with
  | nil => simp at h
  | cons c r ih =>
    by_cases e : c = 32
    · exact ⟨[], r, by rw [e]; rfl, by simp⟩
    · have hr : 32 ∈ r := by
        rcases List.mem_cons.mp h with h | h
        · exact absurd h.symm e
        · exact h
      obtain ⟨a, b, h1, h2⟩ := ih hr
      exact ⟨c :: a, b, by rw [h1]; rfl, fun m => by
        rcases List.mem_cons.mp m with m | m
        · exact e m.symm
        · exact h2 m⟩
theorem addr_no {t : Str} (h : isAddr t = true) : 32 ∉ tl t ∧ 10 ∉ tl t ∧ t.length = 16 := by
  unfold isAddr at h
  rw [Bool.and_eq_true] at h
  have key : ∀ c ∈ tl t, c ∈ hexDigits := fun c hc => of_decide_eq_true (List.all_eq_true.mp h.2 c hc)
  exact ⟨fun m => absurd (key _ m) (by decide), fun m => absurd (key _ m) (by decide), of_decide_eq_true h.1⟩
theorem addr_empty : isAddr Str.empty = false := by decide +kernel
/-- two words are the name and the address; otherwise the address is none -/
theorem words_of (l : Str) : (wds l = [nam l, adr l]) ∨ ((wds l).length ≠ 2 ∧ isAddr (adr l) = false) := by
  by_cases h : 32 ∈ tl l
  · obtain ⟨a, b, e, ha⟩ := split_at _ h
    have el : l = (⟨a.toArray⟩ : Str) ++ sp ++ (⟨b.toArray⟩ : Str) := by
      apply ext_tl
      rw [tl_append, tl_append, tl_sp]
      show _ = (a ++ [32]) ++ b
      rw [e]
      simp
    have ep : Txt.partition l sp = (⟨a.toArray⟩, sp, ⟨b.toArray⟩) := by
      rw [el]
      exact TL.partition_app tl_sp (by show 32 ∉ a; exact ha)
    have en : nam l = ⟨a.toArray⟩ := by unfold nam; rw [ep]
    have ea : adr l = ⟨b.toArray⟩ := by unfold adr; rw [ep]
    have ew := wds_tl l
    rw [e, spl_at1 32 a [] b ha] at ew
    by_cases hb : 32 ∈ b
    · right
      obtain ⟨a2, b2, e2, ha2⟩ := split_at _ hb
      constructor
      · intro hl
        have hl2 := congrArg List.length ew
        rw [List.length_map, hl, e2, spl_at1 32 a2 [] b2 ha2] at hl2
        simp only [List.length_cons] at hl2
        have := spl_ne [32] b2 0 []
        cases hs : spl [32] 0 [] b2 with
        | nil => exact this hs
        | cons _ _ => rw [hs] at hl2; simp at hl2
      · rw [ea]
        cases hh : isAddr (⟨b.toArray⟩ : Str) with
        | false => rfl
        | true => exact absurd (show 32 ∈ tl (⟨b.toArray⟩ : Str) from hb) (addr_no hh).1
    · left
      rw [spl_no 32 b [] hb] at ew
      refine map_tl_inj ?_
      rw [ew, en, ea]
      simp [tl]
  · right
    have ep : Txt.partition l sp = (l, Str.empty, Str.empty) := TL.partition_none tl_sp h
    have ew := wds_tl l
    rw [spl_no 32 _ [] h] at ew
    refine ⟨fun hl => ?_, ?_⟩
    · have := congrArg List.length ew
      rw [List.length_map, hl] at this
      simp at this
    · unfold adr
      rw [ep]
      exact addr_empty
/-! ### faults -/
def letters : List Nat := [97, 98, 99, 100, 101, 102, 103, 104, 105, 106, 107, 108, 109, 110, 111, 112, 113, 114, 115, 116, 117, 118, 119, 120, 121, 122]
theorem letters_eq : (Str.ofString "abcdefghijklmnopqrstuvwxyz").cps.toList = letters := by decide +kernel
def isPlat (t : Str) : Bool := (decide (1 ≤ t.length) && decide (t.length ≤ 10)) && t.cps.toList.all fun c => decide (c ∈ letters)
def word (b : Bool) : Str := if b then "bundle" else "image"
def mid (ls : List Str) : List Str := (ls.drop 1).dropLast
theorem mid_len (ls : List Str) : (mid ls).length = ls.length - 2 := by
  unfold mid
  rw [List.length_dropLast, List.length_drop]
  omega
/-- line i (from 0) of those between is not as it must be -/
def bad (b : Bool) (ms : List Str) (i : Nat) : Bool :=
  if b then decide (nam (ms.getD i "") ∈ (ms.take i).map nam) || !isPlat (nam (ms.getD i "")) || !isAddr (adr (ms.getD i "")) else !isAddr (ms.getD i "")
def behN (w : Str) (ls : List Str) : Option Nat :=
  if ls.head? ≠ some w then some 0 else if ls.getLast? ≠ some ("" : Str) then some (ls.length - 1) else if 52 < ls.length then some 51 else none
def faultN (b : Bool) (ls : List Str) : Option Nat :=
  match behN (word b) ls with
  | some k => some k
  | none => if b = true ∧ ls.length = 2 then some 1 else ((List.range (ls.length - 2)).find? (bad b (mid ls))).map (· + 1)
theorem find_hit {p : Nat → Bool} {n i : Nat} (hi : i < n) (h1 : ∀ j, j < i → p j = false) (h2 : p i = true) : (List.range n).find? p = some i := by
  rw [List.find?_range_eq_some]
  exact ⟨h2, List.mem_range.mpr hi, fun j hj => by rw [h1 j hj]; rfl⟩
theorem find_miss {p : Nat → Bool} {n : Nat} (h1 : ∀ j, j < n → p j = false) : (List.range n).find? p = none := by
  rw [List.find?_eq_none]
  intro j hj
  rw [h1 j (List.mem_range.mp hj)]
  exact Bool.false_ne_true
end LW
namespace LW
open PySem PySem.Spec PyProof.Rows L2 GxR
open TL (joinL tl tl_join join_eq tl_append ext_tl)
theorem tl_empty : tl (Str.ofString "") = [] := by decide +kernel
theorem joinL_nil : ∀ l : List (List Nat), joinL [] l = l.flatten
  | [] => rfl
  | [p] => by simp [joinL]
  | p :: q :: r => by
    show p ++ ([] ++ joinL [] (q :: r)) = _
    rw [joinL_nil (q :: r)]
    simp
theorem joinL_end (c : Nat) : ∀ l : List (List Nat), joinL [c] (l ++ [[]]) = (l.map (· ++ [c])).flatten
  | [] => by simp [joinL]
  | [p] => by
    show p ++ ([c] ++ joinL [c] [[]]) = _
    simp [joinL]
  | p :: q :: r => by
    show p ++ ([c] ++ joinL [c] ((q :: r) ++ [[]])) = _
    rw [joinL_end c (q :: r)]
    simp
/-- one line of a text -/
def lin (l : Str) : Str := Str.empty ++ l ++ nl
theorem tl_lin (l : Str) : tl (lin l) = tl l ++ [10] := by
  unfold lin
  rw [tl_append, tl_append, tl_nl]
  rfl
theorem lin_len (l : Str) : (lin l).length = l.length + 1 := by
  rw [TL.len_tl, TL.len_tl, tl_lin]
  simp
def textOf (ls : List Str) : Str := Txt.join (Str.ofString "") (ls.map lin)
theorem textOf_tl (ls : List Str) : tl (textOf ls) = ((ls.map tl).map (· ++ [10])).flatten := by
  unfold textOf
  rw [join_eq, tl_join, tl_empty, joinL_nil, List.map_map, List.map_map]
  congr 1
  apply List.map_congr_left
  intro l _
  exact tl_lin l
theorem textOf_nl (ls : List Str) : textOf ls = Txt.join nl (ls ++ [("" : Str)]) := by
  apply ext_tl
  rw [textOf_tl, join_eq, tl_join, tl_nl, List.map_append, ← joinL_end]
  rfl
theorem lns_textOf {ls : List Str} (h : ∀ l ∈ ls, 10 ∉ tl l) : lns (textOf ls) = ls ++ [("" : Str)] := by
  unfold lns
  rw [textOf_nl]
  refine TL.split_join (s := 10) (S := []) tl_nl kind_nl (by simp) fun p hp => ?_
  rcases List.mem_append.mp hp with hp | hp
  · exact h p hp
  · rw [List.mem_singleton.mp hp]
    decide +kernel
theorem textOf_len : ∀ ls : List Str, (textOf ls).length = (ls.map fun l => l.length + 1).sum := by
  intro ls
  rw [TL.len_tl, textOf_tl, List.length_flatten, List.map_map, List.map_map]
  congr 1
  apply List.map_congr_left
  intro l _
  simp [TL.len_tl]
theorem sum_le {α : Type} (f : α → Nat) (m : Nat) : ∀ l : List α, (∀ x ∈ l, f x ≤ m) → (l.map f).sum ≤ l.length * m
  | [], _ => by simp
  | x :: r, h => by
    have := sum_le f m r fun y hy => h y (List.mem_cons_of_mem _ hy)
    have h1 := h x List.mem_cons_self
    simp only [List.map_cons, List.sum_cons, List.length_cons, Nat.succ_mul]
    omega
theorem mid_text (w : Str) (ls : List Str) : mid (w :: ls ++ [("" : Str)]) = ls := by
  unfold mid
  simp
theorem beh_text (w : Str) (ls : List Str) : behN w (w :: ls ++ [("" : Str)]) = if 50 < ls.length then some 51 else none := by
  unfold behN
  have e1 : (w :: ls ++ [("" : Str)]).head? = some w := rfl
  have e2 : (w :: ls ++ [("" : Str)]).getLast? = some ("" : Str) := by rw [List.getLast?_append]; rfl
  rw [if_neg (by rw [e1]; simp), if_neg (by rw [e2]; simp)]
  have e3 : (w :: ls ++ [("" : Str)]).length = ls.length + 2 := by simp
  rw [e3]
  by_cases h : 50 < ls.length
  · rw [if_pos h, if_pos (by omega)]
  · rw [if_neg h, if_neg (by omega)]
/-- the text of an image -/
theorem fault_image {ls : List Str} (h : ∀ l ∈ ls, isAddr l = true) (hl : ls.length ≤ 51) : faultN false (word false :: ls ++ [("" : Str)]) = if ls.length = 51 then some 51 else none := by
  unfold faultN
  rw [beh_text, mid_text]
  by_cases e : 50 < ls.length
  · rw [if_pos e]
    show some 51 = _
    rw [if_pos (by omega)]
  · rw [if_neg e, if_neg (show ¬ ls.length = 51 by omega)]
    have e3 : (word false :: ls ++ [("" : Str)]).length - 2 = ls.length := by simp
    rw [e3]
    simp only [Bool.false_eq_true, false_and, if_false]
    rw [find_miss (p := bad false ls) fun j hj => ?_]
    · rfl
    · have hg : ls.getD j "" = ls[j] := by rw [List.getD_eq_getElem?_getD, List.getElem?_eq_getElem hj]; rfl
      show (!isAddr (ls.getD j "")) = false
      rw [hg, h _ (List.getElem_mem hj)]
      rfl
theorem plat_no {t : Str} (h : isPlat t = true) : 32 ∉ tl t ∧ 10 ∉ tl t ∧ 1 ≤ t.length ∧ t.length ≤ 10 := by
  unfold isPlat at h
  rw [Bool.and_eq_true, Bool.and_eq_true] at h
  have key : ∀ c ∈ tl t, c ∈ letters := fun c hc => of_decide_eq_true (List.all_eq_true.mp h.2 c hc)
  exact ⟨fun m => absurd (key _ m) (by decide), fun m => absurd (key _ m) (by decide), of_decide_eq_true h.1.1, of_decide_eq_true h.1.2⟩
/-- a line of a bundle -/
def ent (p : Str × Str) : Str := Str.empty ++ p.1 ++ sp ++ p.2
theorem ent_tl (p : Str × Str) : tl (ent p) = tl p.1 ++ 32 :: tl p.2 := by
  unfold ent
  rw [tl_append, tl_append, tl_append, tl_sp]
  show ([] ++ tl p.1 ++ [32]) ++ tl p.2 = _
  simp
theorem ent_part {p : Str × Str} (h : 32 ∉ tl p.1) : nam (ent p) = p.1 ∧ adr (ent p) = p.2 := by
  have e : ent p = p.1 ++ sp ++ p.2 := by
    apply ext_tl
    rw [ent_tl, tl_append, tl_append, tl_sp]
    simp
  have ep : Txt.partition (ent p) sp = (p.1, sp, p.2) := by
    rw [e]
    exact TL.partition_app tl_sp h
  unfold nam adr
  rw [ep]
  exact ⟨rfl, rfl⟩
theorem fault_bundle {es : List (Str × Str)} (h : ∀ p ∈ es, isPlat p.1 = true ∧ isAddr p.2 = true) (hd : (es.map (·.1)).Nodup) (h1 : 1 ≤ es.length) (hl : es.length ≤ 50) : faultN true (word true :: es.map ent ++ [("" : Str)]) = none := by
  unfold faultN
  rw [beh_text, mid_text, if_neg (show ¬ 50 < (es.map ent).length by rw [List.length_map]; omega)]
  have e3 : (word true :: es.map ent ++ [("" : Str)]).length = es.length + 2 := by simp
  rw [e3]
  show (if true = true ∧ es.length + 2 = 2 then some 1 else _) = _
  rw [if_neg (by omega), find_miss (p := bad true (es.map ent)) fun j hj => ?_]
  · rfl
  · have hj' : j < es.length := by omega
    have hg : (es.map ent).getD j "" = ent es[j] := by rw [List.getD_eq_getElem?_getD, List.getElem?_map, List.getElem?_eq_getElem hj']; rfl
    have hm := h _ (List.getElem_mem hj')
    have pt := ent_part (p := es[j]) (plat_no hm.1).1
    unfold bad
    rw [if_pos rfl, hg, pt.1, pt.2, hm.1, hm.2]
    have nm : ∀ q ∈ es, nam (ent q) = q.1 := fun q hq => (ent_part (plat_no (h q hq).1).1).1
    have e4 : ((es.map ent).take j).map nam = (es.map (·.1)).take j := by
      rw [List.map_take, List.map_map]
      congr 1
      exact List.map_congr_left nm
    rw [e4]
    have e5 : es[j].1 ∉ (es.map (·.1)).take j := by
      intro m
      obtain ⟨i, hi, e⟩ := List.getElem_of_mem m
      rw [List.length_take, List.length_map] at hi
      rw [List.getElem_take] at e
      have : (es.map (·.1))[i]'(by rw [List.length_map]; omega) = (es.map (·.1))[j]'(by rw [List.length_map]; omega) := by rw [e, List.getElem_map]
      have := (List.getElem_inj hd).mp this
      omega
    rw [decide_eq_false e5]
    rfl
end LW
/-! Sets of texts: made, added to, sorted. -/
namespace LW
open PySem PySem.Spec PyProof.Rows L2
/-- the text that a row of a set's table holds -/
def rowTxt (e : Int × Value) : Str := match e.2 with | .str x _ => x | _ => Str.empty
/-- a row that holds a text under its own hash -/
def RowT (P : Program) (w : World) (e : Int × Value) : Prop := ∃ x tk, e.2 = Value.str x tk ∧ e.1 = (PySem.strKind P w).hash x
/-- the set of texts at a: S tells the members, n how many; its table can be walked -/
def SetT (P : Program) (w : World) (h : Heap) (a : Addr) (S : Str → Bool) (n : Nat) : Prop :=
  ∃ o rows ep t, h.get? a = some o ∧ o.ExactSet ∧ o.data = .set rows ep t ∧ (∀ e ∈ rows.toList, RowT P w e) ∧ (rows.toList.map rowTxt).Nodup ∧ (∀ k, S k = true ↔ k ∈ rows.toList.map rowTxt) ∧
    rows.size < scanBound ∧ t.fits rows.size = true ∧ rows.size = n ∧ Ris t.place.toList ∧ (w.params.followText "set-order" = true ∨ t.led = true)
section
variable {P : Program} {w : World} {h h' : Heap} {a : Addr} {S : Str → Bool} {n : Nat}
theorem SetT.keep (R : SetT P w h a S n) (k : ∀ o, h.get? a = some o → h'.get? a = some o) : SetT P w h' a S n := let ⟨o, rows, ep, t, ho, r⟩ := R; ⟨o, rows, ep, t, k o ho, r⟩
theorem rowT_elems {l : List (Int × Value)} (g : ∀ e ∈ l, RowT P w e) : ElemsOf (PySem.strKind P w) l := fun e he => by
  have ⟨x, tk, q1, q2⟩ := g e he
  refine ⟨⟨x, ?_, q2⟩, ?_⟩
  · rw [q1]; exact strKind_is P w x tk
  · rw [q1] <;> rfl
theorem rowT_is {e : Int × Value} (g : RowT P w e) (k : Str) : (PySem.strKind P w).is k e.2 = true ↔ rowTxt e = k := by
  obtain ⟨x, tk, q1, _⟩ := g
  have e1 : rowTxt e = x := by unfold rowTxt; rw [q1]
  rw [e1, q1]
  constructor
  · intro q
    exact ((PySem.strKind P w).inj _ _ _ q (strKind_is P w x tk)).symm
  · rintro rfl
    exact strKind_is P w x tk
theorem rowT_mem {l : List (Int × Value)} (g : ∀ e ∈ l, RowT P w e) (k : Str) : k ∈ l.map rowTxt ↔ ∃ e ∈ l, (PySem.strKind P w).is k e.2 = true :=
  ⟨fun m => let ⟨e, he, q⟩ := List.mem_map.mp m; ⟨e, he, (rowT_is (g e he) k).2 q⟩, fun ⟨e, he, q⟩ => List.mem_map.mpr ⟨e, he, (rowT_is (g e he) k).1 q⟩⟩
theorem SetT.of (R : SetT P w h a S n) : h.SetOf (PySem.strKind P w) a S n := by
  obtain ⟨o, rows, ep, t, h1, h2, h3, g, _, m, b, f, z, _⟩ := R
  exact ⟨o, rows, ep, t, h1, h2, h3, rowT_elems g, fun k => (m k).trans (rowT_mem g k), b, f, z⟩
theorem setT_fresh (P : Program) (w : World) {h : Heap} {b : Addr} (e : h.get? b = some { cls := .type "set", dict := none, data := .set #[] 0 (.fresh 0 0 (!w.params.followText "set-order")) }) : SetT P w h b (fun _ => false) 0 := by
  refine ⟨_, #[], 0, _, e, ⟨rfl, rfl, rfl⟩, rfl, ?_, ?_, ?_, by decide, by rfl, rfl, List.Pairwise.nil, ?_⟩
  · intro e he; simp at he
  · simp
  · intro k; simp
  · show _ ∨ (!w.params.followText "set-order") = true
    cases w.params.followText "set-order" <;> simp
end
section
variable {P : Program} {w : World} {A : Around} {E : Value → Shared → Prop} {s : Shared} {a : Addr} {S : Str → Bool} {n : Nat}
theorem laidT {h : Heap} {a : Addr} {o : Obj} {r1 r2 : Array (Int × Value)} {ep : Nat} {t1 t2 : SetTable} (ho : h.get? a = some o) (hd : o.data = .set r1 ep t1) :
    (h.update a (Obj.putSet r2 t2)).get? a = some { o with data := .set r2 (ep + 1) t2 } := store_at ho hd
theorem giveWay {b : Bool} {s1 : Shared} {Q : Unit → Shared → Prop} (q : Q () s1) : wpAny (model P w) A (match b with | true => rule "set.scan.the-table-gave-way" | false => pure ()) Q E s1 := by
  cases b
  · exact wpAny_pure q
  · exact wpAny_rule q
/-- what follows the new row: the table is stored, and laid anew where it is too full -/
theorem setT_tail {g : Bool → Sem Unit} (hg : ∀ (b : Bool) (s1 : Shared) (Q' : Unit → Shared → Prop), Q' () s1 → wpAny (model P w) A (g b) Q' E s1) {o : Obj} {rows : Array (Int × Value)} {ep : Nat} {t : SetTable}
    (ho : s.heap.get? a = some o) (hx : o.ExactSet) (hd : o.data = .set rows ep t) {r1 : Array (Int × Value)} {t2 : SetTable} {S' : Str → Bool}
    (new : ∀ {h'' : Heap} {o' : Obj} {r2 : Array (Int × Value)} {e2 : Nat} {t3 : SetTable}, h''.get? a = some o' → o'.ExactSet → o'.data = .set r2 e2 t3 → r2.toList.Perm r1.toList → t3.fits r2.size = true → Ris t3.place.toList → t3.led = t2.led → SetT P w h'' a S' r1.size)
    (hb : r1.size < scanBound) (hf : t2.fits r1.size = true) (hr : Ris t2.place.toList) {wasDummy : Bool} {R : Option Bool → Shared → Prop}
    (hR : ∀ h'', Heap.SameBut a s.heap h'' → SetT P w h'' a S' r1.size → R (some true) { s with heap := h'' }) :
    wpAny (model P w) A (do
        storeSet a r1 t2
        if (!wasDummy && t2.tooFull) = true then do
            g (relayAll t2 r1 (SetTable.grown r1.size)).2.2
            storeSet a (relayAll t2 r1 (SetTable.grown r1.size)).1 (relayAll t2 r1 (SetTable.grown r1.size)).2.1
            pure (some true)
          else pure (some true)) R E s := by
  have ho1 := laidT (r2 := r1) (t2 := t2) ho hd
  have sb := Heap.SameBut.update s.heap a (Obj.putSet r1 t2)
  refine wpAny_bind (wpAny_storeSet_of ho hd ?_ (fits_of_scanBound hb))
  by_cases full : (!wasDummy && t2.tooFull) = true
  · rw [if_pos full]
    have p := relayAll_perm t2 r1 (SetTable.grown r1.size)
    have q1 := relayAll_fits t2 r1 (SetTable.grown r1.size)
    have q2 := relayAll_ris t2 r1 (SetTable.grown r1.size)
    have q3 := relayAll_led t2 r1 (SetTable.grown r1.size)
    revert p q1 q2 q3
    generalize relayAll t2 r1 (SetTable.grown r1.size) = Z
    obtain ⟨r2, t3, gv⟩ := Z
    intro p q1 q2 q3
    have z2 : r2.size = r1.size := by have := p.length_eq; simpa using this
    refine wpAny_bind (hg _ _ _ (wpAny_bind (wpAny_storeSet_of ho1 rfl ?_ (fits_of_scanBound (by show r2.size < scanBound; rw [z2]; exact hb)))))
    exact wpAny_pure (hR _ (sb.trans (Heap.SameBut.update _ a _)) (new (laidT ho1 rfl) hx rfl p q1 q2 q3))
  · rw [if_neg full]
    exact wpAny_pure (hR _ sb (new ho1 hx rfl (List.Perm.refl _) hf hr rfl))
/-- a text that is not there comes in, or one that is there stays -/
theorem setT_put {k : Str} {tk : Tok} {Q : Bool → Shared → Prop} (R : SetT P w s.heap a S n) (room : n + 1 < scanBound)
    (hQ : ∀ h'', Heap.SameBut a s.heap h'' → SetT P w h'' a (fun j => S j || decide (j = k)) (if S k = true then n else n + 1) → Q (!S k) { s with heap := h'' }) :
    wpAny (model P w) A (setAddHashed a (.str k tk) ((PySem.strKind P w).hash k)) Q E s := by
  obtain ⟨o, rows, ep, t, ho, hx, hd, g, nd, m, b, f, z, ris, led⟩ := R
  have kk : (PySem.strKind P w).is k (.str k tk) = true := strKind_is P w k tk
  have sc : (Value.str k tk).scannable = true := rfl
  have el := rowT_elems (P := P) (w := w) g
  unfold setAddHashed setAddHashedIn
  refine wpAny_holding (wpAny_bind (wpAny_setState_of ho hd f ?_))
  dsimp only
  rw [byScan_of sc b el]
  simp only [↓reduceIte]
  unfold setAddByScan
  refine wpAny_bind (wpAny_bind (wpAny_rule (wpAny_bind (wpAny_setScan_of kk ho hd f el ?_))))
  cases fi : List.findIdx? (fun e => (PySem.strKind P w).is k e.2) rows.toList with
  | some j =>
    dsimp only
    obtain ⟨hj, pj, _⟩ := List.findIdx?_eq_some_iff_getElem.mp fi
    have there : S k = true := (m k).2 ((rowT_mem g k).2 ⟨_, List.getElem_mem hj, pj⟩)
    have fin := hQ s.heap (Heap.SameBut.refl a s.heap) ⟨o, rows, ep, t, ho, hx, hd, g, nd, fun i => ?_, b, f, by rw [if_pos there]; exact z, ris, led⟩
    · rw [there] at fin
      exact wpAny_pure (wpAny_pure fin)
    · rw [Bool.or_eq_true, decide_eq_true_eq, ← m i]
      constructor
      · rintro (q | q)
        · exact q
        · rw [q]; exact there
      · exact .inl
  | none =>
    dsimp only
    have out : k ∉ rows.toList.map rowTxt := fun q => by
      obtain ⟨e, he, q1⟩ := (rowT_mem (P := P) (w := w) g k).1 q
      exact absurd q1 (by rw [List.findIdx?_eq_none_iff.mp fi e he]; exact Bool.false_ne_true)
    have gone : S k = false := Bool.eq_false_iff.mpr fun q => out ((m k).1 q)
    have p0 := layNew_perm t rows ((PySem.strKind P w).hash k) (.str k tk)
    have f0 := layNew_fits t rows ((PySem.strKind P w).hash k) (.str k tk)
    have r0 := layNew_ris t rows ((PySem.strKind P w).hash k) (.str k tk) ris
    have l0 := layNew_led t rows ((PySem.strKind P w).hash k) (.str k tk)
    revert p0 f0 r0 l0
    generalize layNew t rows ((PySem.strKind P w).hash k) (.str k tk) = Z
    obtain ⟨r1, t1, dum, gv⟩ := Z
    intro p0 f0 r0 l0
    dsimp only at p0 f0 r0 l0 ⊢
    have p1 : r1.toList.Perm (((PySem.strKind P w).hash k, Value.str k tk) :: rows.toList) := by
      refine p0.trans ?_
      rw [Array.toList_push]
      exact List.perm_append_singleton _ _
    have p2 : (r1.toList.map rowTxt).Perm (k :: rows.toList.map rowTxt) := p1.map rowTxt
    have z1 : r1.size = n + 1 := by
      have := p1.length_eq
      simp only [Array.length_toList, List.length_cons] at this
      omega
    have new : ∀ {tt : SetTable}, tt.led = t1.led → ∀ {h'' : Heap} {o' : Obj} {r2 : Array (Int × Value)} {e2 : Nat} {t3 : SetTable}, h''.get? a = some o' → o'.ExactSet → o'.data = .set r2 e2 t3 → r2.toList.Perm r1.toList → t3.fits r2.size = true → Ris t3.place.toList → t3.led = tt.led →
        SetT P w h'' a (fun j => S j || decide (j = k)) r1.size := fun {tt} hl {h'' o' r2 e2 t3} u1 u2 u3 u4 u5 u6 u7 => by
      have v2 := u4.map rowTxt
      have sz : r2.size = r1.size := by have := u4.length_eq; simpa using this
      refine ⟨o', r2, e2, t3, u1, u2, u3, fun e he => ?_, ?_, fun i => ?_, by rw [sz, z1]; exact room, u5, sz, u6, led.imp id fun q => by rw [u7, hl, l0]; exact q⟩
      · rcases List.mem_cons.mp ((u4.trans p1).mem_iff.mp he) with q | q
        · exact ⟨k, tk, by rw [q], by rw [q]⟩
        · exact g e q
      · exact (v2.trans p2).nodup_iff.mpr (List.nodup_cons.mpr ⟨out, nd⟩)
      · rw [(v2.trans p2).mem_iff, List.mem_cons, ← m i, Bool.or_eq_true, decide_eq_true_eq]
        exact Or.comm
    have fin : ∀ h'', Heap.SameBut a s.heap h'' → SetT P w h'' a (fun j => S j || decide (j = k)) r1.size → Q true { s with heap := h'' } := fun h'' sb r => by
      have q := hQ h'' sb
      rw [gone, if_neg Bool.false_ne_true, ← z1] at q
      exact q r
    refine wpAny_bind (giveWay ?_)
    split
    · refine wpAny_bind ?_
      rw [hashByValue_scannable 8 sc]
      refine wpAny_pure (setT_tail (fun b1 s1 Q' q => giveWay q) ho hx hd (new ?_) (by rw [z1]; exact room) ?_ ?_ fun h'' sb r => ?_)
      · first | rfl | (split <;> rfl)
      · first | exact f0 | (split <;> first | exact f0 | exact SetTable.fits_plain_off f0)
      · first | exact r0 | (split <;> exact r0)
      · exact wpAny_pure (fin h'' sb r)
    · refine wpAny_bind (wpAny_pure ?_)
      simp only [↓reduceIte]
      exact setT_tail (fun b1 s1 Q' q => giveWay q) ho hx hd (new rfl) (by rw [z1]; exact room) f0 r0 fun h'' sb r => wpAny_pure (fin h'' sb r)
/-- found.add(x) -/
theorem setT_add {k : Str} {tk : Tok} {Q : Value → Shared → Prop} (R : SetT P w s.heap a S n) (room : n + 1 < scanBound)
    (hQ : ∀ h'', Heap.SameBut a s.heap h'' → SetT P w h'' a (fun j => S j || decide (j = k)) (if S k = true then n else n + 1) → Q .none { s with heap := h'', toks := s.toks + 1 }) :
    wpAny (model P w) A (call (.builtin "set.add") [.ref a, .str k tk]) Q E s := by
  refine wpAny_call_entry F.slot_set_add R.of.typeIs F.entry_set_add ?_ (F.args_set_add_2 _ _)
  unfold Builtin.«set.add» Builtin.Frozenset.oneOther
  simp only [List.isEmpty_nil, bind_assoc]
  unfold Builtin.Frozenset.addrOf setAdd
  refine wpAny_bind (wpAny_pure ?_)
  refine wpAny_bind (wpAny_pure ?_)
  refine wpAny_bind (wpAny_holding (wpAny_bind ((PySem.strKind P w).pyHash (strKind_is P w k tk) ?_)))
  refine setT_put (s := { s with toks := s.toks + 1 }) R room fun h'' sb r => ?_
  exact wpAny_pure ⟨_, rfl, hQ h'' sb r⟩
end
end LW
namespace LW
open PySem PySem.Spec PyProof.Rows L2
theorem SetT.alike {P : Program} {w : World} {h : Heap} {a : Addr} {S S' : Str → Bool} {n : Nat} (R : SetT P w h a S n) (e : ∀ k, S' k = S k) : SetT P w h a S' n := by
  rw [show S' = S from funext e]; exact R
section
variable {P : Program} {w : World} {A : Around} {R : Result → Shared → Prop} {I : Addr} {fp wr : List Addr} {G : Array GenState → Array GenState → Prop} {n : Nat} {Pv : Nat → Value → Prop} {St : Nat → Shared → Prop}
/-- the members of xs, one after another, into the set at b -/
theorem fill_set (W : WalksS P w A.in1 I fp wr G n Pv St) (b : Addr) (nb : b ∉ fp) (xs : List Str) (lx : xs.length = n) (room : n < scanBound) (val : ∀ i v, Pv i v → ∃ t, v = .str (xs.getD i Str.empty) t) :
    ∀ (m i : Nat) (s : Shared), n - i = m → i ≤ n → St i s → (∃ c, c ≤ i ∧ SetT P w s.heap b (fun k => decide (k ∈ xs.take i)) c) →
      (∀ s', Moved (b :: wr) G s s' → (∃ c, c ≤ n ∧ SetT P w s'.heap b (fun k => decide (k ∈ xs)) c) → R (.ok (.ret .none)) s') →
      codeAny (model P w) A (.builtin "set.update.loop" ⟨[.ref b, .ref I], []⟩) R s := by
  have nw : b ∉ wr := fun h => nb (W.sub _ h)
  have up : ∀ y ∈ wr, y ∈ b :: wr := fun y hy => List.mem_cons_of_mem _ hy
  intro m
  induction m with
  | zero =>
    intro i s e hi st hs fin
    obtain rfl : i = n := by omega
    refine codeAny_builtin PyProof.Rows.F.entry_set_update_loop ?_
    rw [Around.under_plainId PyProof.Rows.F.plain_set_update_loop _]
    refine wpAny_bind (m := pyNext (.ref I)) (W.done s _ _ st fun s1 mv => ?_)
    refine wpAny_pure (fin s1 (mv.mono up) ?_)
    obtain ⟨c, hc, r⟩ := hs
    refine ⟨c, hc, (r.keep fun o ho => mv.heap b _ nw ho).alike fun k => ?_⟩
    rw [← lx, List.take_length]
  | succ m ih =>
    intro i s e hi st hs fin
    have lt : i < n := by omega
    refine codeAny_builtin PyProof.Rows.F.entry_set_update_loop ?_
    rw [Around.under_plainId PyProof.Rows.F.plain_set_update_loop _]
    refine wpAny_bind (m := pyNext (.ref I)) (W.item i s _ _ lt st fun v s1 pv st1 mv => ?_)
    obtain ⟨t, rfl⟩ := val i v pv
    obtain ⟨c, hc, r⟩ := hs
    have r1 := r.keep (h' := s1.heap) fun o ho => mv.heap b _ nw ho
    refine wpAny_bind (m := holding [Value.str (xs.getD i Str.empty) t] (setAdd b (.str (xs.getD i Str.empty) t))) (wpAny_holding ?_)
    unfold setAdd
    refine wpAny_holding (wpAny_bind ((PySem.strKind P w).pyHash (strKind_is P w _ t) ?_))
    refine setT_put (s := { s1 with toks := s1.toks + 1 }) r1 (by omega) fun h2 sb r2 => ?_
    have xi : xs[i]? = some (xs.getD i Str.empty) := by
      rw [List.getD_eq_getElem?_getD, List.getElem?_eq_getElem (by omega)]; rfl
    have tk : xs.take (i + 1) = xs.take i ++ [xs.getD i Str.empty] := by
      rw [List.take_add_one, xi]; rfl
    refine wpAny_pure ⟨plainId_quiet PyProof.Rows.F.plain_set_update_loop _, ih (i + 1) _ (by omega) lt (W.frame _ s1 _ _ st1 (Nat.le_succ _) fun y hy o ho => ?_) ⟨_, ?_, r2.alike fun k => ?_⟩ fun s2 mv2 r3 => ?_⟩
    · rw [sb.2 y fun q => nb (q ▸ hy)]; exact ho
    · split <;> omega
    · rw [tk, ← Bool.decide_or]
      exact decide_eq_decide.mpr (by rw [List.mem_append, List.mem_singleton])
    · refine fin s2 (Moved.trans W.gtrans ((mv.mono up).then_heap (Nat.le_succ _) fun y o hy ho => ?_) mv2) r3
      rw [sb.2 y fun q => hy (by rw [q]; exact List.mem_cons_self)]; exact ho
end
section
variable {P : Program} {w : World} {A : Around} {E : Value → Shared → Prop} {s : Shared}
/-- set(xs), a list of texts -/
theorem set_of_list {l : Addr} {its : Array Value} {xs : List Str} {Q : Value → Shared → Prop} (hh : A.handled = none) (hl : s.heap.IsList l its) (hi : PyProof.Rows.StrsAre its.toList xs) (room : xs.length < scanBound)
    (q : ∀ (h' : Heap) (tk : Nat), (∃ c, c ≤ xs.length ∧ SetT P w h' s.heap.objs.size (fun k => decide (k ∈ xs)) c) → (∀ b o, b < s.heap.objs.size → s.heap.get? b = some o → h'.get? b = some o) → Q (.ref s.heap.objs.size) { s with heap := h', toks := tk }) :
    wpAny (model P w) A (call (.type "set") [.ref l]) Q E s := by
  obtain ⟨_, _, m0⟩ := PySem.F.called_set.mro
  have m1 := PySem.F.called_set.made
  have m2 := PySem.F.called_set.sub
  have m3 := PySem.F.called_set.notType
  have m4 := PySem.F.called_set.canCreate
  have m5 := PySem.F.typeCall_set_1 (.ref l)
  have hlt : l < s.heap.objs.size := by obtain ⟨o, ho, _⟩ := hl; exact Heap.lt_size ho
  have hz : its.size = xs.length := by rw [← Array.length_toList, ← StrsAre.len_eq hi]
  refine wpAny_call (codeAny_of_tree ?_)
  show wpAny _ _ (callAny (.type "set") _) _ _ _
  refine wpAny_pure ⟨Code.quiet_builtin _ (by decide +kernel), codeAny_builtin PySem.F.entry_type_call ?_⟩
  rw [Around.under_plain (weight_type_call_type "set" [.ref l] []) rfl]
  repeat (any_goals (first | assumption | wp_step))
  let s1 : Shared := { s with heap := s.heap.push { cls := .type "set", dict := none, data := .set #[] 0 (.fresh 0 0 (!w.params.followText "set-order")) } }
  refine codeAny_mono (code_set_led1 (.ref l) (E := E) (Q₁ := fun v s' => v = .ref s.heap.objs.size ∧ s' = s1) ⟨rfl, rfl⟩) fun r s' hr => ?_
  match r, hr with
  | .error _, hr => exact hr
  | .ok (.ret obj), hr =>
    obtain ⟨rfl, rfl⟩ := hr
    have b0 : s1.heap.get? s.heap.objs.size = some { cls := .type "set", dict := none, data := .set #[] 0 (.fresh 0 0 (!w.params.followText "set-order")) } := Heap.get?_push_size _ rfl
    have b1 : s1.TypeIs (.ref s.heap.objs.size) "set" := ⟨_, b0, rfl⟩
    have b2 := PySem.F.called_set.init.lookup
    have b3 := PySem.F.called_set.init.bind (.ref s.heap.objs.size)
    repeat (any_goals (first | assumption | wp_step))
    refine codeAny_mono (codeAny_call_builtin (R := wants (fun v s' => v = .none ∧ Q (.ref s.heap.objs.size) s') E) PySem.F.called_set.init.plain PySem.F.entry_set_init (check_set_init_1 b1 ?_)) fun r2 s2 hr2 => ?_
    · obtain ⟨⟨c0, d0, data0, sl0⟩, o1, o2, nl, o3⟩ := id hl
      simp only at o2 o3
      subst o2; subst o3
      have o4 : s1.heap.get? l = some { cls := .type "list", dict := d0, data := .seq its nl, slots := sl0 } := Heap.get?_push_of_some _ o1
      have k1 := PySem.F.sub_list_set
      have k2 := PySem.F.sub_list_frozenset
      have k3 : (Value.type "list" == Value.type "dict") = false := by decide
      have l1 : s1.heap.IsList l its := ⟨_, o4, rfl, nl, rfl⟩
      unfold Builtin.«set.__init__» noKeywords Builtin.Frozenset.updateFrom
      generalize hPI : pyIter = PI
      wp_walk
      subst hPI
      refine wpAny_pyIter_list l1 (wpAny_bind (wpAny_runValue ?_))
      have z1 : s1.heap.objs.size = s.heap.objs.size + 1 := Heap.size_push ..
      have nI : l ≠ s1.heap.objs.size := Nat.ne_of_lt (by rw [z1]; exact Nat.lt_succ_of_lt hlt)
      have nf : s.heap.objs.size ∉ [s1.heap.objs.size, l] := by
        intro m
        rcases List.mem_cons.mp m with m | m
        · have m' : s.heap.objs.size = s1.heap.objs.size := m
          omega
        · have m' : s.heap.objs.size = l := List.mem_singleton.mp m
          exact absurd hlt (by rw [← m']; exact Nat.lt_irrefl _)
      have h3 : A.in1.in1.in1.handled = none := by simp [hh]
      have vl : ∀ (i : Nat) (v : Value), its[i]? = some v → ∃ t, v = .str (xs.getD i Str.empty) t := fun i v e => SS.strs_at hi i v (by rw [Array.getElem?_toList]; exact e)
      refine fill_set ((Walks.list h3 _ l nI its).toS) s.heap.objs.size nf xs hz.symm (by rw [hz]; exact room) vl (its.size - 0) 0 _ rfl (Nat.zero_le _) ⟨⟨_, Heap.get?_push_size _ rfl, rfl, rfl⟩, l1.push _⟩ ⟨0, Nat.le_refl _, ?_⟩ ?_
      · exact (setT_fresh P w (Heap.get?_push_of_some _ b0)).alike fun k => by simp
      · rintro ⟨h', g', d', tk', os'⟩ mv r
        obtain rfl : g' = s.gens := mv.gens
        obtain rfl : d' = s.drawn := mv.drawn
        obtain rfl : os' = s.os := mv.os
        show wpAny _ _ _ _ _ _
        refine wpAny_pure ?_
        show wpAny _ _ (ret Value.none) _ _ _
        refine wpAny_pure ⟨rfl, q h' tk' (by rw [hz] at r; exact r) fun b o hb e => mv.heap b o (fun m => ?_) (Heap.get?_push_of_some _ (Heap.get?_push_of_some _ e))⟩
        rcases List.mem_cons.mp m with m | m
        · have m' : b = s.heap.objs.size := m
          omega
        · have m' : b = s1.heap.objs.size := List.mem_singleton.mp m
          omega
    · match r2, hr2 with
      | .error _, hr2 => exact hr2
      | .ok (.ret v), hr2 =>
        obtain ⟨rfl, q2⟩ := hr2
        repeat (any_goals (first | assumption | wp_step))
      | .ok .next, hr2 => exact hr2.elim
      | .ok .brk, hr2 => exact hr2.elim
      | .ok .cont, hr2 => exact hr2.elim
  | .ok .next, hr => exact hr.elim
  | .ok .brk, hr => exact hr.elim
  | .ok .cont, hr => exact hr.elim
end
end LW
namespace LW
open PySem PySem.Spec PyProof.Rows L2
section
variable {P : Program} {w : World} {A : Around} {E : Value → Shared → Prop} {s : Shared}
/-- the texts that the values hold -/
theorem strs_are : ∀ (l : List Value), (∀ v ∈ l, ∃ x tk, v = Value.str x tk) → StrsAre l (l.map fun v => rowTxt (0, v))
  | [], _ => .nil
  | v :: l, h => by
    obtain ⟨x, tk, rfl⟩ := h v List.mem_cons_self
    exact .cons x tk (strs_are l fun u m => h u (List.mem_cons_of_mem _ m))
/-- sorted(found), a set of texts -/
theorem sorted_setT {a : Addr} {S : Str → Bool} {n : Nat} {Q : Value → Shared → Prop} (R : SetT P w s.heap a S n) (hh : A.handled = none)
    (q : ∀ s' p (out : Array Value) (c : Nat) (xs : List Str), (∀ b o, s.heap.get? b = some o → s'.heap.get? b = some o) → s'.gens = s.gens → s'.os = s.os → s.heap.objs.size ≤ p →
      s'.heap.get? p = some (seqObj "list" out c) → StrsAre out.toList xs → sortedS xs = true → xs.Nodup → (∀ k, k ∈ xs ↔ S k = true) → xs.length = n → Q (.ref p) s') :
    wpAny (model P w) A (call (.builtin "sorted") [.ref a]) Q E s := by
  obtain ⟨o, rows, ep, t, ho, hx, hd, g, nd, m, b, f, z, ris, led⟩ := R
  have fits := fits_of_scanBound b
  refine Calls.call_function_entry kind_sorted plain_sorted entry_sorted (args_sorted1 _) ?_
  unfold Builtin.«sorted»
  refine wpAny_bind (m := checkCount "sorted" 1 1 _) (wpAny_pure (wpAny_bind (collect_set (A := A.in1) hh ⟨o, ho, hx.1, hd⟩ f b ris led fun s1 vs keep big e1 e2 pm => ?_)))
  have lv : vs.length = n := by have := pm.length_eq; simp only [List.length_map, Array.length_toList] at this; omega
  have all : ∀ v ∈ vs, ∃ x tk, v = Value.str x tk := fun v hv => by
    obtain ⟨e, he, rfl⟩ := List.mem_map.mp (pm.mem_iff.mp hv)
    obtain ⟨x, tk, u, _⟩ := g e he
    exact ⟨x, tk, u⟩
  have sa := strs_are vs all
  have pk : (vs.map fun v => rowTxt (0, v)).Perm (rows.toList.map rowTxt) := by
    have r := pm.map fun v => rowTxt (0, v)
    rw [List.map_map] at r
    exact r
  refine wpAny_bind (wpAny_newList ?_ (by rw [lv]; omega))
  have ob : (s1.heap.push (seqObj "list" vs.toArray 0)).get? s1.heap.objs.size = some (seqObj "list" vs.toArray 0) := Heap.get?_push_size _ rfl
  refine wpAny_bind (wpAny_holding (wpAny_call_entry slot_list_sort ⟨_, ob, rfl⟩ entry_list_sort
    (list_sort_treeKAny strKind_oneLt ob sa.keysOf (fun v1 v2 rest e => keyKind_strs (by rw [← e]; exact sa)) (by rw [lv]; omega) fun st p1 p2 => ⟨_, rfl, ?_⟩) (args_list_sort _)))
  obtain ⟨ys, y1, y2, y3⟩ := sorted_out_str sa p1 p2
  obtain ⟨c, hc⟩ := sortedHeap_at (vs := vs) (out := (arrOf st).map (·.2)) ob
  have py := y2.trans pk
  refine wpAny_pure ⟨_, rfl, q _ s1.heap.objs.size _ c ys (fun b' u e => ?_) e1 e2 big hc y1 y3 (py.nodup_iff.mpr nd) (fun k => by rw [py.mem_iff, ← m k]) (by have := py.length_eq; simp only [List.length_map, Array.length_toList] at this; omega)⟩
  have k1 := keep b' u e
  have lt := Heap.lt_size k1
  rw [show ({ s1 with heap := sortedHeap (s1.heap.push (seqObj "list" vs.toArray 0)) s1.heap.objs.size vs ((arrOf st).map (·.2)) } : Shared).heap = sortedHeap (s1.heap.push (seqObj "list" vs.toArray 0)) s1.heap.objs.size vs ((arrOf st).map (·.2)) from rfl,
    sortedHeap_old (Nat.ne_of_lt lt) (by rw [size_push']; exact Nat.lt_succ_of_lt lt)]
  exact Heap.get?_push_of_some _ k1
end
/-- the set of texts at a, as a tracked thing -/
def SetTO (P : Program) (w : World) (a : Addr) (S : Str → Bool) (n : Nat) : HO := .ext fun h => SetT P w h a S n
theorem setTO_new {w : World} {P : Program} {H : Hp} {h : Heap} {a : Addr} {S : Str → Bool} {n : Nat} (R : SetT P w h a S n) : ObjOk P w H h a (SetTO P w a S n) :=
  ⟨R, let ⟨o, _, _, _, ho, _⟩ := R; ⟨o, ho⟩, fun _ _ r k => r.keep k⟩
section
variable {X : Cx}
theorem setTO_get {pins : List (Addr × Obj)} {σ : L2.St} {H : Hp} {s : Shared} {a : Addr} {S : Str → Bool} {n : Nat} (I : Inv X pins σ H s) (ha : H a = some (SetTO X.prog X.w a S n)) : SetT X.prog X.w s.heap a S n := (I.hok a _ ha).1
/-- set.add of a text -/
theorem addT_ok {pins : List (Addr × Obj)} {σ : L2.St} {H : Hp} {s : Shared} {E : Value → Shared → Prop} {D : Addr} {S : Str → Bool} {n : Nat} {y : Str} {tk : Tok} {Q : Value → Shared → Prop} (I : Inv X pins σ H s) (hD : H D = some (SetTO X.prog X.w D S n)) (room : n + 1 < scanBound)
    (q : ∀ s', Inv X pins σ (L2.upd H D (SetTO X.prog X.w D (fun j => S j || decide (j = y)) (if S y = true then n else n + 1))) s' → Q .none s') : wpAny (model X.prog X.w) X.A (call (.builtin "set.add") [.ref D, .str y tk]) Q E s :=
  setT_add (setTO_get I hD) room fun h' sb r => q _ (I.write (e := D) (t' := s.toks + 1) (by rw [hD]; trivial) (.inl rfl) (fun b u hb hu => (sb.2 b hb).trans hu) (let ⟨o, _, _, _, ho, _⟩ := r; ⟨o, ho⟩) (setTO_new r))
/-- set(xs), a list of texts -/
def rSetOfS (K : PySem.W.Frag) (P : Program) (w : World) : List V → Hp → VK → Prop := fun xs H Q => ∃ (l : Addr) (zs : List Str), xs = [V.ref l] ∧ SqL K H l (zs.map V.str) ∧ zs.length < scanBound ∧
  ∀ p c, c ≤ zs.length → H p = none → Q (.ref p) (L2.upd H p (SetTO P w p (fun k => decide (k ∈ zs)) c))
theorem cr_setOfS (hc : X.calm = true) : CallR X (.type "set") (rSetOfS X.K X.prog X.w) := by
  intro pins s σ H xs us Q I r h
  obtain ⟨l, zs, rfl, hs, room, q⟩ := h
  obtain ⟨its, rv, hl, _⟩ := I.list hs
  rw [Vals.ref1 r]
  refine set_of_list (I.ok.hd hc) hl.isList (by simpa using rv.strs) room fun h' tk ⟨c, hc', R⟩ keep => ?_
  exact ⟨.ref _, _, I.laid (t' := tk) (fun b o e => keep b o (Heap.lt_size e) e) (Nat.le_refl _) (setTO_new R), rfl, q _ c hc' (I.hok.fresh (Nat.le_refl _))⟩
/-- sorted(found), a set of texts -/
def rSortedT (P : Program) (w : World) : List V → Hp → VK → Prop := fun vs H Q => ∃ (a : Addr) (S : Str → Bool) (n : Nat), vs = [V.ref a] ∧ H a = some (SetTO P w a S n) ∧
  ∀ (xs : List Str) (p : Addr), sortedS xs = true → xs.Nodup → (∀ k, k ∈ xs ↔ S k = true) → xs.length = n → H p = none → Q (.ref p) (L2.upd H p (.lst (xs.map V.str)))
theorem cr_sortedT (hc : X.calm = true) : CallR X (.builtin "sorted") (rSortedT X.prog X.w) := by
  intro pins s σ H vs us Q I r h
  obtain ⟨a, S, n, rfl, ha, q⟩ := h
  have R := setTO_get I ha
  have small : n ≤ sizeLine := by
    obtain ⟨_, rows, _, _, _, _, _, _, _, _, b, _, z, _⟩ := R
    rw [← z]; exact fits_of_scanBound b
  rw [Vals.ref1 r]
  refine sorted_setT R (I.ok.hd hc) fun s' p out c xs k g o hp hg hi h1 h2 h3 h4 => ?_
  have nx : H p = none := I.hok.fresh hp
  obtain ⟨hp', gens', drawn', toks', os'⟩ := s'
  obtain rfl : os' = s.os := o
  refine ⟨.ref p, _, ?_, rfl, q xs p h1 h2 h3 h4 nx⟩
  exact I.call (ch := []) (Un.laid k hp nx) (I.hok.laid k hp ⟨by rw [List.length_map, h4]; exact small, out.toList, c, vals_of_strs hi, hg⟩) (by rw [show gens' = s.gens from g]; exact I.bare) (fun _ z => nomatch z)
/-- sorted(xs), a list of texts of any length -/
def rSortedL (K : PySem.W.Frag) : List V → Hp → VK → Prop := fun vs H Q => ∃ (a : Addr) (xs : List Str), vs = [V.ref a] ∧ SqL K H a (xs.map V.str) ∧
  ∀ (ys : List Str) (p : Addr), ys.Perm xs → sortedS ys = true → H p = none → Q (.ref p) (L2.upd H p (.lst (ys.map V.str)))
theorem cr_sortedL : CallR X (.builtin "sorted") (rSortedL X.K) := by
  intro pins s σ H vs us Q I r h
  obtain ⟨a, xs, rfl, hs, q⟩ := h
  obtain ⟨its, rv, hl, hz⟩ := I.list hs
  rw [Vals.ref1 r]
  refine sorted_strsAny hl.isList rv.strs (by rw [← rv.length]; exact hz) fun out ys h1 h2 h3 => ?_
  obtain ⟨ep, he⟩ := PyProof.Rows.sortedAll_at s.heap its out
  rw [List.length_map] at hz
  exact ⟨.ref _, _, I.laid (t' := s.toks) (fun _ _ => PyProof.Rows.sortedAll_old) (Nat.le_succ _) (show ObjOk X.prog X.w _ _ _ (.lst (ys.map V.str)) from ⟨by rw [List.length_map, h2.length_eq]; exact hz, out.toList, ep, vals_of_strs h1, he⟩), rfl, q ys _ h2 h3 (I.hok.fresh (Nat.le_succ _))⟩
end
/-! ### two sorted lists with the same members -/
theorem sorted_pw : ∀ (p : Str) (l : List Str), risingS p l = true → (∀ y ∈ l, ¬ y.cps.toList < p.cps.toList) ∧ l.Pairwise fun x y => ¬ y.cps.toList < x.cps.toList := by
  intro p l
  induction l generalizing p with
  | nil => exact fun _ => ⟨(fun _ h => nomatch h), List.Pairwise.nil⟩
  | cons x r ih =>
    intro h
    unfold risingS at h
    rw [Bool.and_eq_true, Bool.not_eq_true', ltCps_eq] at h
    obtain ⟨h1, h2⟩ := h
    have h1 := of_decide_eq_false h1
    obtain ⟨i1, i2⟩ := ih x h2
    refine ⟨fun y hy => ?_, List.pairwise_cons.mpr ⟨i1, i2⟩⟩
    rcases List.mem_cons.mp hy with rfl | hy
    · exact h1
    · exact fun z => h1 (List.lt_of_le_of_lt (List.not_lt.mp (i1 y hy)) z)
theorem sorted_pairwise {l : List Str} (h : sortedS l = true) : l.Pairwise fun x y => ¬ y.cps.toList < x.cps.toList := by
  cases l with
  | nil => exact List.Pairwise.nil
  | cons x r => exact List.pairwise_cons.mpr (sorted_pw x r h)
theorem str_cps {x y : Str} (h : x.cps.toList = y.cps.toList) : x = y := by
  cases x; cases y
  exact congrArg Str.mk (Array.toList_inj.mp h)
/-- sorted lists that are rearrangements of one another are equal -/
theorem sorted_perm {l m : List Str} (h1 : sortedS l = true) (h2 : sortedS m = true) (p : l.Perm m) : l = m :=
  p.eq_of_pairwise (fun a b _ _ q1 q2 => str_cps (List.le_antisymm (List.not_lt.mp q1) (List.not_lt.mp q2))) (sorted_pairwise h1) (sorted_pairwise h2)
theorem sorted_mem {l m : List Str} (h1 : sortedS l = true) (h2 : sortedS m = true) (n1 : l.Nodup) (n2 : m.Nodup) (e : ∀ k, k ∈ l ↔ k ∈ m) : l = m :=
  sorted_perm h1 h2 ((List.perm_ext_iff_of_nodup n1 n2).mpr e)
theorem sorted_ints {l m : List Int} (h1 : l.Pairwise (· ≤ ·)) (h2 : m.Pairwise (· ≤ ·)) (p : l.Perm m) : l = m :=
  p.eq_of_pairwise (fun a b _ _ q1 q2 => Int.le_antisymm q1 q2) h1 h2
end LW
/-! {elt for tg in iter if .. for tg1 in iter1 if ..}: a set of texts over two clauses. -/
namespace LW
open PySem PySem.Spec PyProof.Rows L2 PpSet
abbrev sc2 (elt t0 i0 t1 i1 : Expr) (f0 f1 : List Expr) (scope : Scope) (pos : Pos) : Expr := .SetComp elt [⟨t0, i0, f0, 0⟩, ⟨t1, i1, f1, 0⟩] scope pos
theorem sc2_turn0 (elt t0 i0 t1 i1 : Expr) (f0 f1 : List Expr) (scope : Scope) (pos : Pos) (it acc : Value) (env : Env) : compTurn (sc2 elt t0 i0 t1 i1 f0 f1 scope pos) 0 it acc env = (do
      standAt i0.pos
      match ← pyNext it with
      | none => pure (.done .next)
      | some u =>
        letOwnedTupleGo t0 it u
        assign t0 env u
        let mut go := true
        for test in f0 do
          if go then go ← isTrue test env (eval test env)
        if go then
          let src ← eval i1 env
          standAt i1.pos
          let src ← foldedSetIterable i1 env src
          let _ ← runOwn (.compStart (sc2 elt t0 i0 t1 i1 f0 f1 scope pos) 1 (← holding [src] (pyIter src)) acc env) env
        again (.compLoop (sc2 elt t0 i0 t1 i1 f0 f1 scope pos) 0 it acc env)) := by rfl
theorem sc2_turn1 (elt t0 i0 t1 i1 : Expr) (f0 f1 : List Expr) (scope : Scope) (pos : Pos) (it acc : Value) (env : Env) : compTurn (sc2 elt t0 i0 t1 i1 f0 f1 scope pos) 1 it acc env = (do
      standAt i1.pos
      match ← pyNext it with
      | none => pure (.done .next)
      | some u =>
        letOwnedTupleGo t1 it u
        assign t1 env u
        let mut go := true
        for test in f1 do
          if go then go ← isTrue test env (eval test env)
        if go then
          (do let new ← eval elt env; standAt elt.pos; let _ ← call (.builtin "set.add") [acc, new])
        again (.compLoop (sc2 elt t0 i0 t1 i1 f0 f1 scope pos) 1 it acc env)) := by rfl
section
variable {P : Program} {w : World} {A : Around} {R : Result → Shared → Prop} {s : Shared} {elt t0 i0 t1 i1 : Expr} {f0 f1 : List Expr} {scope : Scope} {pos : Pos} {it acc : Value} {env : Env}
/-- what is wanted where something is raised in the block -/
abbrev Up (P : Program) (w : World) (A : Around) (env : Env) (R : Result → Shared → Prop) : Value → Shared → Prop := notedBy (model P w) A env fun e s' => R (.error e) s'
/-- the tests of a clause -/
abbrev tests (fs : List Expr) (env : Env) : Sem Bool := forIn fs true fun c r => if r = true then do let ok ← isTrue c env (eval c env); pure (ForInStep.yield ok) else pure (ForInStep.yield r)
theorem sc2_loop0 (plain : ∀ x, foldedSetIterable i1 env x = pure x) (Go : Nat → Shared → Prop) (turn : ∀ n s, Go n s → wpAny (model P w) A (pyNext it) (fun r s1 => match r with
      | none => R (.ok .next) s1
      | some u => wpAny (model P w) A (letOwnedTupleGo t0 it u) (fun _ s2 => wpAny (model P w) A (assign t0 env u) (fun _ s3 => wpAny (model P w) A (tests f0 env) (fun go s4 =>
            if go = true then wpAny (model P w) A (eval i1 env) (fun src s5 => wpAny (model P w) A (pyIter src) (fun inner s6 =>
              codeAny (model P w) A (.compStart (sc2 elt t0 i0 t1 i1 f0 f1 scope pos) 1 inner acc env) (fun r s7 => match r with
                | .ok _ => ∃ m, m < n ∧ Go m s7
                | .error _ => False) s6) (Up P w A env R) s5) (Up P w A env R) s4
            else ∃ m, m < n ∧ Go m s4) (Up P w A env R) s3) (Up P w A env R) s2) (Up P w A env R) s1) (Up P w A env R) s) (n : Nat) (h : Go n s) :
    codeAny (model P w) A (.compLoop (sc2 elt t0 i0 t1 i1 f0 f1 scope pos) 0 it acc env) R s := by
  refine codeAny_loop rfl Go (fun n s g => ?_) n h
  show wpAny _ A ((compTurn (sc2 elt t0 i0 t1 i1 f0 f1 scope pos) 0 it acc env).onRaise (fun x => do noteFrame x env; theTreesLotGoes x)) _ _ s
  have up : ∀ (e : Value) (s' : Shared), Up P w A env R e s' → Up P w A env R e s' := fun _ _ z => z
  refine wpAny_noted ?_
  rw [sc2_turn0]
  refine wpAny_bind (wpAny_standAt (wpAny_bind (wpAny_mono (turn n s g) (fun r s1 h1 => ?_) up)))
  match r, h1 with
  | none, h1 => exact wpAny_pure h1
  | some u, h1 =>
    refine wpAny_bind (wpAny_mono h1 (fun _ s2 h2 => wpAny_bind (wpAny_mono h2 (fun _ s3 h3 => wpAny_bind (wpAny_mono h3 (fun go s4 h4 => ?_) up)) up)) up)
    match go, h4 with
    | false, h4 => exact wpAny_pure ⟨rfl, h4⟩
    | true, h4 =>
      refine wpAny_bind (wpAny_mono h4 (fun src s5 h5 => wpAny_bind (wpAny_standAt (wpAny_bind (wpAny_of_eq (plain src) (wpAny_bind (wpAny_holding (wpAny_mono h5 (fun inner s6 h6 => ?_) up))))))) up)
      refine wpAny_bind (wpAny_runOwn ?_)
      rw [Around.mark_none]
      refine codeAny_mono h6 fun r s7 h7 => ?_
      match r, h7 with
      | .ok _, h7 => first | exact wpAny_pure ⟨rfl, h7⟩ | exact wpAny_bind (wpAny_pure (wpAny_pure ⟨rfl, h7⟩))
      | .error _, h7 => exact h7.elim
theorem sc2_loop1 (Go : Nat → Shared → Prop) (turn : ∀ n s, Go n s → wpAny (model P w) A (pyNext it) (fun r s1 => match r with
      | none => R (.ok .next) s1
      | some u => wpAny (model P w) A (letOwnedTupleGo t1 it u) (fun _ s2 => wpAny (model P w) A (assign t1 env u) (fun _ s3 => wpAny (model P w) A (tests f1 env) (fun go s4 =>
            if go = true then wpAny (model P w) A (eval elt env) (fun new s5 => wpAny (model P w) A (call (.builtin "set.add") [acc, new]) (fun _ s6 => ∃ m, m < n ∧ Go m s6) (Up P w A env R) s5) (Up P w A env R) s4
            else ∃ m, m < n ∧ Go m s4) (Up P w A env R) s3) (Up P w A env R) s2) (Up P w A env R) s1) (Up P w A env R) s) (n : Nat) (h : Go n s) :
    codeAny (model P w) A (.compLoop (sc2 elt t0 i0 t1 i1 f0 f1 scope pos) 1 it acc env) R s := by
  refine codeAny_loop rfl Go (fun n s g => ?_) n h
  show wpAny _ A ((compTurn (sc2 elt t0 i0 t1 i1 f0 f1 scope pos) 1 it acc env).onRaise (fun x => do noteFrame x env; theTreesLotGoes x)) _ _ s
  have up : ∀ (e : Value) (s' : Shared), Up P w A env R e s' → Up P w A env R e s' := fun _ _ z => z
  refine wpAny_noted ?_
  rw [sc2_turn1]
  refine wpAny_bind (wpAny_standAt (wpAny_bind (wpAny_mono (turn n s g) (fun r s1 h1 => ?_) up)))
  match r, h1 with
  | none, h1 => exact wpAny_pure h1
  | some u, h1 =>
    refine wpAny_bind (wpAny_mono h1 (fun _ s2 h2 => wpAny_bind (wpAny_mono h2 (fun _ s3 h3 => wpAny_bind (wpAny_mono h3 (fun go s4 h4 => ?_) up)) up)) up)
    match go, h4 with
    | false, h4 => exact wpAny_pure ⟨rfl, h4⟩
    | true, h4 =>
      refine wpAny_bind (wpAny_bind (wpAny_mono h4 (fun new s5 h5 => wpAny_bind (wpAny_standAt (wpAny_bind (wpAny_mono h5 (fun _ s6 h6 => ?_) up)))) up))
      exact wpAny_pure (wpAny_pure ⟨rfl, h6⟩)
/-- a clause's start -/
theorem sc2_start (k : Nat) (hk : k = 0 ∨ k = 1) (h0 : codeAny (model P w) A (.compLoop (sc2 elt t0 i0 t1 i1 f0 f1 scope pos) k it acc env) R s)
    (h : wpAny (model P w) A (pyIter it) (fun it' s' => codeAny (model P w) A (.compLoop (sc2 elt t0 i0 t1 i1 f0 f1 scope pos) k it' acc env) R s') (Up P w A env R) s) :
    codeAny (model P w) A (.compStart (sc2 elt t0 i0 t1 i1 f0 f1 scope pos) k it acc env) R s := by
  refine codeAny_of_tree ?_
  show wpAny _ _ ((compStart (sc2 elt t0 i0 t1 i1 f0 f1 scope pos) k it acc env).onRaise (fun x => do noteFrame x env; standAt theWindowsPlace)) _ _ s
  refine wpAny_notedAt ?_
  unfold compStart
  rcases hk with rfl | rfl
  all_goals
    show wpAny _ _ (ask >>= _) _ _ s
    refine wpAny_bind (wpAny_askSetting (wpAny_ite ?_))
    split
    · first | exact wpAny_bind (wpAny_pure (wpAny_pure (And.intro rfl h0))) | exact wpAny_pure (And.intro rfl h0)
    · refine wpAny_bind (wpAny_rule ?_)
      show wpAny _ _ (standAt _ >>= _) _ _ s
      exact wpAny_bind (wpAny_standAt (wpAny_bind (wpAny_mono h (fun it' s' z => wpAny_pure (And.intro rfl z)) fun _ _ x => x)))
end
end LW
namespace LW
open PySem PySem.Spec PyProof.Rows L2 PpSet
/-- behind the first clause's target and tests the second source is walked; where its walk ends, Nx; D: the new set -/
def tScT2 (P : Program) (w : World) (wi : TI) (g : TG) (tt : TT) (wi1 : TI) (g1 : TG) (tt1 : TT) (te : TE) (vs vs1 : List Nat) : TE := fun σ H Q => wi σ H fun J H1 => ∀ D, H1 D = none →
  ∃ W : Nat → Nat → Hp → Prop, (∃ m, W 0 m (L2.upd H1 D (SetTO P w D (fun _ => false) 0))) ∧ ∀ i m H, W i m H →
    (J.stop i H ∧ Q (.ref D) H) ∨ (J.go i H ∧ ∃ Nx : Hp → Prop, (∀ H', Nx H' → ∃ m', m' < m ∧ W (i + 1) m' H') ∧ ∀ x H', J.yld i H x H' → g x (wipe σ vs) H' fun σ2 H2 => wipe σ2 vs = wipe σ vs ∧ tt σ2 H2 fun b H3 =>
      if b = true then wi1 σ2 H3 fun J1 H4 => ∃ W1 : Nat → Nat → Hp → Prop, (∃ m, W1 0 m H4) ∧ ∀ j k H, W1 j k H →
        (J1.stop j H ∧ Nx H) ∨ (J1.go j H ∧ ∃ Ny : Hp → Prop, (∀ H', Ny H' → ∃ k', k' < k ∧ W1 (j + 1) k' H') ∧ ∀ x H', J1.yld j H x H' → g1 x (wipe σ2 vs1) H' fun σ3 H5 => wipe σ3 vs1 = wipe σ2 vs1 ∧ tt1 σ3 H5 fun b H6 =>
          if b = true then te σ3 H6 fun y H7 => ∃ (z : Str) (S : Str → Bool) (n : Nat), y = .str z ∧ H7 D = some (SetTO P w D S n) ∧ n + 1 < scanBound ∧ Ny (L2.upd H7 D (SetTO P w D (fun k => S k || decide (k = z)) (if S z = true then n else n + 1))) else Ny H6)
      else Nx H3)
section
variable {X : Cx} {elt tg iter tg1 iter1 : Expr} {ifs ifs1 : List Expr} {scope : Scope} {own : List (Str × Nat)} {vs1 : List Nat} {pos : Pos} {wi wi1 : TI} {g g1 : TG} {tt tt1 : TT} {te : TE}
/-- the block's own context -/
abbrev Bk (X : Cx) (scope : Scope) (s : Shared) (H : Hp) (C : Addr) (cl : List (Str × Addr)) (fp : List Addr) : Cx := X.blk s H scope (compEnvC scope cl C X.env) fp
theorem pe_scT2 (hc : X.calm = true) (hN : X.N.Nodup) (hi : PI X tg iter wi) (ok : BlkOk X.N X.env.scope scope own) (hv : ∀ i ∈ vs1, i ∈ own.map (·.2))
    (hg : ∀ s H C cl fp, PG (Bk X scope s H C cl fp) tg g) (ht : ∀ s H C cl fp, PTs (Bk X scope s H C cl fp) ifs tt) (hi1 : ∀ s H C cl fp, PI (Bk X scope s H C cl fp) tg1 iter1 wi1)
    (hg1 : ∀ s H C cl fp, PG (Bk X scope s H C cl fp) tg1 g1) (ht1 : ∀ s H C cl fp, PTs (Bk X scope s H C cl fp) ifs1 tt1) (he : ∀ s H C cl fp, PE (Bk X scope s H C cl fp) elt te)
    (hs : ∀ x, foldedSetIterable iter X.env x = pure x := by intro _; rfl) (hs1 : ∀ env x, foldedSetIterable iter1 env x = pure x := by intro _ _; rfl) :
    PE X (sc2 elt tg iter tg1 iter1 ifs ifs1 scope pos) (tScT2 X.prog X.w wi g tt wi1 g1 tt1 te (own.map (·.2)) vs1) := by
  refine ⟨fun pins s σ H Q I h => ?_⟩
  rw [eval_SetComp]
  have cells : ∀ y ∈ scope.names, y.2 = .free → ∃ c, X.env.cells.lookup y.1 = some c := fun y hy e => (ok.free y hy e).elim (fun k => I.ok.has _ (.inl k)) fun k => I.ok.has _ (.inr k)
  refine wpAny_comprehension_free (use := none) rfl hs (closure_ok cells) ok.kind (fun y hy e => by rw [ok.uniq y hy, e]) (thn (hi.run pins s σ H _ I h) fun _ s1 h1 => thn h1 fun _ s2 h2 => ?_)
  obtain ⟨it, fp, at0, J, H2, rfl, I2, T, a2, f2, q⟩ := h2
  refine newSet_ok (newEnv_comp ?_)
  generalize eD : s2.heap.objs.size = D
  obtain ⟨W, ⟨m0, w0⟩, turn⟩ := q D (I2.hok.fresh (Nat.le_of_eq eD))
  generalize e3 : ({ s2 with heap := s2.heap.push { cls := .type "set", dict := none, data := .set #[] 0 (.fresh 0 0 (!X.w.params.followText "set-order")) } } : Shared) = s3
  generalize eH : L2.upd H2 D (SetTO X.prog X.w D (fun _ => false) 0) = H3 at w0
  have h3 : s3.heap = s2.heap.push { cls := .type "set", dict := none, data := .set #[] 0 (.fresh 0 0 (!X.w.params.followText "set-order")) } := by rw [← e3]
  have I3 : Inv X pins σ H3 s3 := by
    rw [← e3, ← eH, ← eD]
    exact I2.laid (t' := s2.toks) (fun _ _ e => Heap.get?_push_of_some _ e) (Nat.le_refl _) (setTO_new (setT_fresh X.prog X.w (Heap.get?_push_size _ rfl)))
  have f3 : ∀ b ∈ fp, FpOk X pins H3 b ∧ b < s3.heap.objs.size := fun b hb => by
    obtain ⟨o, eo, _⟩ := T.obj _ _ a2 b hb
    have lt := Heap.lt_size eo
    refine ⟨⟨?_, (f2 b hb).2⟩, by rw [h3, Heap.size_push]; exact Nat.lt_succ_of_lt lt⟩
    rw [← eH, upd_ne (by rw [← eD]; exact Nat.ne_of_lt lt)]
    exact (f2 b hb).1
  have a3 : at0 0 s3.heap := T.keep _ _ _ a2 fun _ _ _ e => by rw [h3]; exact Heap.get?_push_of_some _ e
  have I4 := block_start I3 ok hN f3
  generalize eC : cellsFrom (s3.heap.objs.size + 1) scope.names (cloFrom X.env.cells scope.names []) = cl at I4 ⊢
  have G : PG (X.blk s3 H3 scope (compEnvC scope cl s3.heap.objs.size X.env) fp) tg g := hg s3 H3 s3.heap.objs.size cl fp
  have Ts : PTs (X.blk s3 H3 scope (compEnvC scope cl s3.heap.objs.size X.env) fp) ifs tt := ht s3 H3 s3.heap.objs.size cl fp
  have It1 : PI (X.blk s3 H3 scope (compEnvC scope cl s3.heap.objs.size X.env) fp) tg1 iter1 wi1 := hi1 s3 H3 s3.heap.objs.size cl fp
  have G1 : PG (X.blk s3 H3 scope (compEnvC scope cl s3.heap.objs.size X.env) fp) tg1 g1 := hg1 s3 H3 s3.heap.objs.size cl fp
  have Ts1 : PTs (X.blk s3 H3 scope (compEnvC scope cl s3.heap.objs.size X.env) fp) ifs1 tt1 := ht1 s3 H3 s3.heap.objs.size cl fp
  have El : PE (X.blk s3 H3 scope (compEnvC scope cl s3.heap.objs.size X.env) fp) elt te := he s3 H3 s3.heap.objs.size cl fp
  have nf : ∀ b ∈ fp, H3 b = none := fun b hb => (f3 b hb).1.1
  show codeAny _ _ (.compStart (sc2 elt tg iter tg1 iter1 ifs ifs1 scope pos) 0 (.ref it) (.ref D) (compEnvC scope cl s3.heap.objs.size X.env)) (compPost (model X.prog X.w) X.A X.xe none (fun v s' => EP X pins σ Q v s') (.ref D) s3.heap.objs.size) { s3 with heap := pushCells (s3.heap.push { cls := .type "dict", data := .dict #[] }) scope.names }
  generalize e4 : ({ s3 with heap := pushCells (s3.heap.push { cls := .type "dict", data := .dict #[] }) scope.names } : Shared) = s4 at I4 ⊢
  have a4 : at0 0 s4.heap := T.keep _ _ _ a3 fun _ _ _ e => by rw [← e4]; exact pushCells_keeps _ _ _ _ (Heap.get?_push_of_some _ e)
  generalize eE : compEnvC scope cl s3.heap.objs.size X.env = ce at I4 G Ts It1 G1 Ts1 El ⊢
  have loc : ce.locals = s3.heap.objs.size := by subst eE; rfl
  -- what stands of an iterator's own things, within the block
  have own0 : ∀ {ps : List (Addr × Obj)} {σ' : L2.St} {H' : Hp} {s' : Shared}, Inv (X.blk s3 H3 scope ce fp) [] σ' H' s' → (∀ b ∈ fp, H' b = none) → ∀ b ∈ fp, FpOk (X.blk s3 H3 scope ce fp) [] H' b := fun {ps σ' H' s'} I' n b hb =>
    ⟨n b hb, (I'.ok.exf b hb).1, I'.ok.exfs b hb, .inl hb, (fun x c e => (I'.ok.exf b hb).2 x c e), fun p hp => absurd (show p ∈ ([] : List (Addr × Obj)) ++ [] from hp) (by simp)⟩
  let At : Nat → Shared → Prop := fun n s' => ∃ i H', Inv (X.blk s3 H3 scope ce fp) [] (wipe σ (own.map (·.2))) H' s' ∧ at0 i s'.heap ∧ (∀ b ∈ fp, H' b = none) ∧ W i n H'
  have main : codeAny (model X.prog X.w) X.A (.compLoop (sc2 elt tg iter tg1 iter1 ifs ifs1 scope pos) 0 (.ref it) (.ref D) ce) (compPost (model X.prog X.w) X.A X.xe none (fun v s' => EP X pins σ Q v s') (.ref D) s3.heap.objs.size) s4 := by
    refine sc2_loop0 (hs1 ce) At ?_ m0 ⟨0, H3, I4, a4, nf, w0⟩
    rintro n s5 ⟨i, H5, I5, a5, n5, w5⟩
    rcases turn i n H5 w5 with ⟨stop, fin⟩ | ⟨go, Nx, down, step⟩
    · refine thnF (T.done (X.blk s3 H3 scope ce fp) rfl rfl rfl hc i [] s5 _ H5 (fun _ _ => False) I5 (own0 (ps := []) I5 n5) a5 stop) fun r s6 ⟨er, I6⟩ => ?_
      subst er
      obtain ⟨m, hm, _⟩ := I6.loc
      have nC : H5 s3.heap.objs.size = none := by rw [← loc]; exact I6.free
      have I7 : Inv X pins σ H5 s6 := I3.call' (ch := fp) I6.os I6.base I6.hok I6.bare fun b hb => have z := (f3 b hb).1.2; ⟨z.2.2.1, z.1, z.2.2.2.1, z.2.2.2.2⟩
      obtain ⟨_, k1, _, k3, k4, k5⟩ := I3.fpOk (Nat.le_refl _) nC
      refine ⟨m, by rw [← loc]; exact hm, fun h'' sb => ?_⟩
      exact ⟨.ref D, H5, I7.turned (t' := s6.toks) (fun b o hb e => (sb.2 b hb).trans e) nC k1 k3 k4 k5, rfl, fin⟩
    · refine thnF (T.item (X.blk s3 H3 scope ce fp) rfl rfl rfl hc i [] s5 _ H5 (fun _ _ => False) I5 (own0 (ps := []) I5 n5) a5 go) fun r s6 ⟨u, er, h6⟩ => ?_
      subst er
      refine thnF h6 fun _ s7 ⟨x, H7, I7, r7, y7, a7, n7⟩ => ?_
      have P7 := I7.pinned (own0 (ps := []) I7 n7) (T.obj _ _ a7)
      refine thnF (G.run _ s7 _ H7 x u _ P7 r7 (step x H7 y7)) fun _ s8 ⟨σ8, H8, I8, e8, q8⟩ => ?_
      refine thnF (Ts.run _ s8 σ8 H8 _ I8 q8) fun b s9 ⟨H9, I9, q9⟩ => ?_
      have back : ∀ {σ9 : L2.St} {s' : Shared} {H' : Hp}, Inv (X.blk s3 H3 scope ce fp) ([] ++ pinsAt fp s7.heap) σ9 H' s' → (wipe σ (own.map (·.2))).length = σ9.length → (∀ (j : Nat) v, (wipe σ (own.map (·.2)))[j]? = some (some v) → σ9[j]? = some (some v)) → Nx H' →
          ∃ m, m < n ∧ At m s' := fun {σ9 s' H'} I' l k nx => by
        obtain ⟨m', lt, w'⟩ := down H' nx
        have st : ∀ b ∈ fp, ∀ o, s7.heap.get? b = some o → s'.heap.get? b = some o ∧ H' b = none := fun b hb o e =>
          have z := I'.pin (b, o) (List.mem_append_right _ (List.mem_append_right _ (mem_pinsAt hb e)))
          ⟨z.1, z.2.1⟩
        refine ⟨m', lt, i + 1, H', (I'.unpinned (pins := [])).weak l k, T.keep _ _ _ a7 fun b hb o e => (st b hb o e).1, fun b hb => ?_, w'⟩
        obtain ⟨o, e, _⟩ := T.obj _ _ a7 b hb
        exact (st b hb o e).2
      have len8 : (wipe σ (own.map (·.2))).length = σ8.length := by rw [← e8, wipe_length]
      have known8 : ∀ (j : Nat) v, (wipe σ (own.map (·.2)))[j]? = some (some v) → σ8[j]? = some (some v) := fun j v e => (wipe_some (by rw [e8]; exact e)).1
      cases b with
      | false =>
        rw [if_neg Bool.false_ne_true] at q9
        exact back I9 len8 known8 q9
      | true =>
        rw [if_pos rfl] at q9
        refine thnF (It1.run _ s9 σ8 H9 _ I9 q9) fun _ s10 h10 => thnF h10 fun _ s11 h11 => ?_
        obtain ⟨it1, fp1, at1, J1, H11, rfl, I11, T1, a11, f11, W1, ⟨m1, w1⟩, turn1⟩ := h11
        have own1 : ∀ {H' : Hp}, (∀ b ∈ fp1, H' b = none) → ∀ b ∈ fp1, FpOk (X.blk s3 H3 scope ce fp) ([] ++ pinsAt fp s7.heap) H' b := fun n b hb => ⟨n b hb, (f11 b hb).2⟩
        have inner : codeAny (model X.prog X.w) X.A (.compLoop (sc2 elt tg iter tg1 iter1 ifs ifs1 scope pos) 1 (.ref it1) (.ref D) ce) (fun r s' => match r with
              | .ok _ => ∃ m, m < n ∧ At m s'
              | .error _ => False) s11 := by
          refine sc2_loop1 (fun k s' => ∃ j H', Inv (X.blk s3 H3 scope ce fp) ([] ++ pinsAt fp s7.heap) (wipe σ8 vs1) H' s' ∧ at1 j s'.heap ∧ (∀ b ∈ fp1, H' b = none) ∧ W1 j k H') ?_ m1 ⟨0, H11, I11.weak (wipe_length _ _) (fun j v e => (wipe_some e).1), a11, (fun b hb => (f11 b hb).1), w1⟩
          rintro k s12 ⟨j, H12, I12, a12, n12, w12⟩
          rcases turn1 j k H12 w12 with ⟨stop1, nx1⟩ | ⟨go1, Ny, down1, step1⟩
          · refine thnF (T1.done (X.blk s3 H3 scope ce fp) rfl rfl rfl hc j _ s12 (wipe σ8 vs1) H12 (fun _ _ => False) I12 (own1 n12) a12 stop1) fun r s13 ⟨er, I13⟩ => ?_
            subst er
            refine back I13 (len8.trans (wipe_length σ8 vs1).symm) (fun j v e => ?_) nx1
            obtain ⟨z1, z2⟩ := wipe_some (by rw [e8]; exact e)
            rw [wipe_out fun z => z2 (hv j z)]
            exact z1
          · refine thnF (T1.item (X.blk s3 H3 scope ce fp) rfl rfl rfl hc j _ s12 (wipe σ8 vs1) H12 (fun _ _ => False) I12 (own1 n12) a12 go1) fun r s13 ⟨u1, er, h13⟩ => ?_
            subst er
            refine thnF h13 fun _ s14 ⟨x1, H14, I14, r14, y14, a14, n14⟩ => ?_
            refine thnF (G1.run _ s14 (wipe σ8 vs1) H14 x1 u1 _ (I14.pinned (own1 n14) (T1.obj _ _ a14)) r14 (step1 x1 H14 y14)) fun _ s15 ⟨σ15, H15, I15, e15, q15⟩ => ?_
            refine thnF (Ts1.run _ s15 σ15 H15 _ I15 q15) fun b1 s16 ⟨H16, I16, q16⟩ => ?_
            have back1 : ∀ {s' : Shared} {H' : Hp}, Inv (X.blk s3 H3 scope ce fp) (([] ++ pinsAt fp s7.heap) ++ pinsAt fp1 s14.heap) σ15 H' s' → Ny H' →
                ∃ m, m < k ∧ ∃ j H', Inv (X.blk s3 H3 scope ce fp) ([] ++ pinsAt fp s7.heap) (wipe σ8 vs1) H' s' ∧ at1 j s'.heap ∧ (∀ b ∈ fp1, H' b = none) ∧ W1 j m H' := fun {s' H'} I' nx => by
              obtain ⟨m', lt, w'⟩ := down1 H' nx
              have st : ∀ b ∈ fp1, ∀ o, s14.heap.get? b = some o → s'.heap.get? b = some o ∧ H' b = none := fun b hb o e =>
                have z := I'.pin (b, o) (List.mem_append_right _ (List.mem_append_right _ (mem_pinsAt hb e)))
                ⟨z.1, z.2.1⟩
              refine ⟨m', lt, j + 1, H', I'.unpinned.weak (by rw [← e15, wipe_length]) (fun j v e => (wipe_some (by rw [e15]; exact e)).1), T1.keep _ _ _ a14 fun b hb o e => (st b hb o e).1, fun b hb => ?_, w'⟩
              obtain ⟨o, e, _⟩ := T1.obj _ _ a14 b hb
              exact (st b hb o e).2
            cases b1 with
            | false =>
              rw [if_neg Bool.false_ne_true] at q16
              exact back1 I16 q16
            | true =>
              rw [if_pos rfl] at q16
              refine thnF (El.run _ s16 σ15 H16 _ I16 q16) fun v s17 ⟨yv, H17, I17, r17, z, S, c, ey, eD17, room, nx⟩ => ?_
              subst ey
              obtain ⟨tk, rfl⟩ := r17
              exact addT_ok (X := X.blk s3 H3 scope ce fp) I17 eD17 room fun s18 I18 => back1 I18 nx
        exact sc2_start 1 (.inr rfl) inner (T1.self X.A 0 _ _ _ a11 inner)
  exact sc2_start 0 (.inl rfl) main (T.self X.A 0 _ _ _ a4 main)
end
end LW
/-! Several dicts locked while an expression runs. -/
namespace LW
open PySem PySem.Spec PyProof.Rows L2 GxR
def tLk (t : TE) : List Addr → TE
  | [] => t
  | d :: ds => tLockE1 d (tLk t ds)
where tLockE1 (d : Addr) (t : TE) : TE := fun σ H Q => ∃ u, H d = some u ∧ Mut (some u) ∧ ∀ od, t σ (L2.upd H d (.frz od u)) fun v H' => H' d = some (.frz od u) ∧ Q v (L2.upd H' d u)
/-- the reading chooses the dicts -/
def tLocks (t : TE) : TE := fun σ H Q => ∃ ds, tLk t ds σ H Q
theorem pe_locks {X : Cx} {e : Expr} {t : TE} (h : PE X e t) : PE X e (tLocks t) := by
  refine ⟨fun pins s σ H Q I ⟨ds, q⟩ => ?_⟩
  have all : ∀ ds : List Addr, PE X e (tLk t ds) := fun ds => by
    induction ds with
    | nil => exact h
    | cons d ds ih => exact ⟨fun pins s σ H Q I ⟨u, e1, e2, q⟩ => (pe_lock ih).run pins s σ H Q I ⟨d, u, e1, e2, q⟩⟩
  exact (all ds).run pins s σ H Q I q
/-- the heap with the dicts ds as they were in H -/
def back (ds : List Addr) (H H' : Hp) : Hp := fun b => if b ∈ ds then H b else H' b
theorem lk_all {t : TE} {σ : L2.St} : ∀ (ds : List Addr) (H : Hp) (Q : VK), ds.Nodup → (∀ d ∈ ds, ∃ kvs, H d = some (.dK kvs)) →
    (∀ H2 : Hp, (∀ b, b ∉ ds → H2 b = H b) → (∀ d ∈ ds, ∀ kvs, H d = some (.dK kvs) → ∃ o, H2 d = some (.frz o (.dK kvs))) → t σ H2 (fun v H' => (∀ d ∈ ds, H' d = H2 d) ∧ Q v (back ds H H'))) → tLk t ds σ H Q := by
  intro ds
  induction ds with
  | nil =>
    intro H Q _ _ k
    have e : (fun (v : V) (H' : Hp) => (∀ d ∈ ([] : List Addr), H' d = H d) ∧ Q v (back [] H H')) = Q := by
      funext v H'
      apply propext
      have : back [] H H' = H' := by funext b; unfold back; simp
      rw [this]
      exact ⟨fun z => z.2, fun z => ⟨by simp, z⟩⟩
    have := k H (fun _ _ => rfl) (fun d hd => by simp at hd)
    rw [e] at this
    exact this
  | cons d ds ih =>
    intro H Q nd hk k
    obtain ⟨n1, n2⟩ := List.nodup_cons.mp nd
    obtain ⟨kvs, hd⟩ := hk d List.mem_cons_self
    refine ⟨.dK kvs, hd, True.intro, fun od => ?_⟩
    have ne : ∀ {b}, b ∈ ds → b ≠ d := fun hb e => n1 (e ▸ hb)
    refine ih _ _ n2 (fun b hb => ?_) (fun H2 a1 a2 => ?_)
    · obtain ⟨kv, e⟩ := hk b (List.mem_cons_of_mem _ hb)
      exact ⟨kv, by rw [upd_ne (ne hb)]; exact e⟩
    · have hd2 : H2 d = some (.frz od (.dK kvs)) := by rw [a1 d n1, upd_same]
      have q := k H2 (fun b hb => by
        rw [a1 b fun z => hb (List.mem_cons_of_mem _ z), upd_ne fun z => hb (by rw [z]; exact List.mem_cons_self)]) (fun b hb kv e => by
        rcases List.mem_cons.mp hb with rfl | hb
        · rw [hd] at e
          cases e
          exact ⟨od, hd2⟩
        · exact a2 b hb kv (by rw [upd_ne (ne hb)]; exact e))
      have e : (fun (v : V) (H' : Hp) => (∀ b ∈ d :: ds, H' b = H2 b) ∧ Q v (back (d :: ds) H H')) = fun v H' => (∀ b ∈ ds, H' b = H2 b) ∧ ((back ds (L2.upd H d (.frz od (.dK kvs))) H') d = some (.frz od (.dK kvs)) ∧ Q v (L2.upd (back ds (L2.upd H d (.frz od (.dK kvs))) H') d (.dK kvs))) := by
        funext v H'
        apply propext
        have e1 : (back ds (L2.upd H d (.frz od (.dK kvs))) H') d = H' d := by unfold back; rw [if_neg n1]
        have e2 : L2.upd (back ds (L2.upd H d (.frz od (.dK kvs))) H') d (.dK kvs) = back (d :: ds) H H' := by
          funext b
          by_cases hb : b = d
          · subst hb
            rw [upd_same]
            unfold back
            rw [if_pos List.mem_cons_self, hd]
          · rw [upd_ne hb]
            unfold back
            by_cases hm : b ∈ ds
            · rw [if_pos hm, if_pos (List.mem_cons_of_mem _ hm), upd_ne hb]
            · rw [if_neg hm, if_neg (fun z => (List.mem_cons.mp z).elim hb hm)]
        rw [e1, e2]
        constructor
        · rintro ⟨z1, z2⟩
          exact ⟨fun b hb => z1 b (List.mem_cons_of_mem _ hb), (z1 d List.mem_cons_self).trans hd2, z2⟩
        · rintro ⟨z1, z2, z3⟩
          exact ⟨fun b hb => by
            rcases List.mem_cons.mp hb with rfl | hb
            · exact z2.trans hd2.symm
            · exact z1 b hb, z3⟩
      rw [e] at q
      exact q
end LW
namespace LW
open PySem PySem.Spec PyProof.Rows L2 GxR
/-- a walk by its invariant, whatever is done with an item -/
theorem walk_inv {J : It} {n : Nat} {G : Hp → Prop} {Y : Nat → Hp → V → Hp → Prop} (w : Walk J n G Y) {Body : V → Hp → (Hp → Prop) → Prop} {H0 : Hp} {Qd : Hp → Prop} (Pv : Nat → Hp → Prop) (h0 : Pv 0 H0) (hG : ∀ i H, i ≤ n → Pv i H → G H)
    (hs : ∀ i x H H', i < n → Pv i H → Y i H x H' → Body x H' (Pv (i + 1))) (hd : ∀ H, Pv n H → Qd H) :
    ∃ W : Nat → Nat → Hp → Prop, (∃ m, W 0 m H0) ∧ ∀ i m H, W i m H → (J.stop i H ∧ Qd H) ∨ (J.go i H ∧ ∃ Nx : Hp → Prop, (∀ H', Nx H' → ∃ m', m' < m ∧ W (i + 1) m' H') ∧ ∀ x H', J.yld i H x H' → Body x H' Nx) := by
  refine ⟨fun i m H => m = n - i ∧ i ≤ n ∧ Pv i H, ⟨n, rfl, Nat.zero_le _, h0⟩, ?_⟩
  rintro i m H ⟨rfl, hi, p⟩
  have g := hG i H hi p
  by_cases lt : i < n
  · exact .inr ⟨w.goes i H lt g, Pv (i + 1), fun H' p' => ⟨n - (i + 1), by omega, rfl, lt, p'⟩, fun x H' y => hs i x H H' lt p (w.yields i H x H' lt g y)⟩
  · obtain rfl : i = n := by omega
    exact .inl ⟨w.stops H g, hd H p⟩
end LW
namespace LW
open PySem PySem.Spec PyProof.Rows L2 GxR
/-- all is kept but the law's state -/
structure Mv (a c : Addr) (H H' : Hp) : Prop where
  keep : ∀ b o, b ≠ a → b ≠ c → H b = some o → H' b = some o
  free : ∀ b, H' b = none → H b = none
theorem Mv.refl (a c : Addr) (H : Hp) : Mv a c H H := ⟨fun _ _ _ _ e => e, fun _ n => n⟩
theorem Mv.trans {a c : Addr} {H H1 H2 : Hp} (m : Mv a c H H1) (n : Mv a c H1 H2) : Mv a c H H2 := ⟨fun b o h1 h2 e => n.keep b o h1 h2 (m.keep b o h1 h2 e), fun b z => m.free b (n.free b z)⟩
theorem Mv.same {a c : Addr} {H H' : Hp} (s : Same H H') : Mv a c H H' := ⟨fun b o _ _ e => s b o e, fun b n => s.free n⟩
theorem Mv.take {a c : Addr} {H H' : Hp} (s : SL H a c) (s' : SL H' a c) (e : ∀ b, b ≠ a → b ≠ c → H' b = H b) : Mv a c H H' := ⟨fun b o h1 h2 z => by rw [e b h1 h2]; exact z, fun b z => by
  by_cases h1 : b = a
  · obtain ⟨n, cs, q, _⟩ := s'
    rw [h1, q] at z; cases z
  · by_cases h2 : b = c
    · obtain ⟨n, cs, _, q, _⟩ := s'
      rw [h2, q] at z; cases z
    · rw [← e b h1 h2]; exact z⟩
theorem Mv.new {a c : Addr} {H H' : Hp} {p : Addr} {o : HO} (m : Mv a c H H') (n : H p = none) : Mv a c H (L2.upd H' p o) := ⟨fun b u h1 h2 e => by rw [upd_ne (ne_of_none e n)]; exact m.keep b u h1 h2 e, fun b z => by
  by_cases h : b = p
  · rw [h]; exact n
  · rw [upd_ne h] at z; exact m.free b z⟩
theorem Mv.tab {a c : Addr} {H H' : Hp} {B : Addr} (m : Mv a c H H') (s : SL H a c) (t : TabG H B) : TabG H' B := by
  have n := s.tab t
  obtain ⟨ps, e, r⟩ := t
  exact ⟨ps, m.keep _ _ n.1 n.2 e, r⟩
theorem join_one (xs : List Nat) : TL.tl (Txt.join (Str.ofString "") (xs.map fun c => (⟨#[c]⟩ : Str))) = xs := by
  rw [TL.join_eq, TL.tl_join, tl_empty, joinL_nil, List.map_map]
  induction xs with
  | nil => rfl
  | cons z r ih =>
    rw [List.map_cons, List.flatten_cons, ih]
    rfl
/-- the signs of a drawn text -/
def drawn : List Nat := [97, 98, 99, 88, 89, 32, 48, 49]
theorem drawn_eq : (Str.ofString "abcXY 01").cps.toList = drawn := by decide +kernel
/-- a text at will, of at most m signs -/
def spText : Sp := fun vs H Q _ => ∃ (a c : Addr) (m : Nat), vs = [.ref a, .int (m : Int)] ∧ SL H a c ∧ m < 1000 ∧ ∀ x H', x.length ≤ m → (∀ z ∈ x.cps.toList, z ∈ drawn) → SL H' a c → Mv a c H H' → Q (.str x) H'
/-- all is kept but at the addresses F -/
structure Kp (F : Addr → Prop) (H H' : Hp) : Prop where
  keep : ∀ b o, ¬ F b → H b = some o → H' b = some o
  free : ∀ b, H' b = none → H b = none
theorem Kp.refl (F : Addr → Prop) (H : Hp) : Kp F H H := ⟨fun _ _ _ e => e, fun _ n => n⟩
theorem Kp.trans {F : Addr → Prop} {H H1 H2 : Hp} (m : Kp F H H1) (n : Kp F H1 H2) : Kp F H H2 := ⟨fun b o h e => n.keep b o h (m.keep b o h e), fun b z => m.free b (n.free b z)⟩
theorem Kp.weak {F G : Addr → Prop} {H H' : Hp} (m : Kp F H H') (h : ∀ b, F b → G b) : Kp G H H' := ⟨fun b o n e => m.keep b o (fun z => n (h b z)) e, m.free⟩
theorem Kp.same {F : Addr → Prop} {H H' : Hp} (s : Same H H') : Kp F H H' := ⟨fun b o _ e => s b o e, fun b n => s.free n⟩
theorem Kp.mv {a c : Addr} {F : Addr → Prop} {H H' : Hp} (m : Mv a c H H') (ha : F a) (hc : F c) : Kp F H H' := ⟨fun b o n e => m.keep b o (fun z => n (z ▸ ha)) (fun z => n (z ▸ hc)) e, m.free⟩
theorem Kp.new {F : Addr → Prop} {H H' : Hp} {p : Addr} {o : HO} (m : Kp F H H') (n : H' p = none) : Kp F H (L2.upd H' p o) := m.trans (.same (same_upd n))
theorem Kp.put {F : Addr → Prop} {H H' : Hp} {p : Addr} {o : HO} (m : Kp F H H') (h : F p) (n : H' p ≠ none) : Kp F H (L2.upd H' p o) := m.trans ⟨fun b u nb e => by
  rw [upd_ne (show b ≠ p from fun z => nb (by rw [z]; exact h))]; exact e, fun b z => by
  by_cases e : b = p
  · rw [e, upd_same] at z; cases z
  · rw [upd_ne e] at z; exact z⟩
theorem kp_take {a c : Addr} {H H' : Hp} (s : SL H a c) (s' : SL H' a c) (e : ∀ b, b ≠ a → b ≠ c → H' b = H b) : Kp (fun b => b = a ∨ b = c) H H' := .mv (Mv.take s s' e) (.inl rfl) (.inr rfl)
end LW
namespace LW
open PySem PySem.Spec PyProof.Rows L2 GxR
theorem dp_txt {K : PySem.W.Frag} {H : Hp} : ∀ ls : List Str, DpAll K H (ls.map V.str) (ls.map PyData.str)
  | [] => .nil
  | x :: r => .cons (.str x) (dp_txt r)
theorem dp_num {K : PySem.W.Frag} {H : Hp} : ∀ ls : List Int, DpAll K H (ls.map V.int) (ls.map PyData.int)
  | [] => .nil
  | x :: r => .cons (.int x) (dp_num r)
theorem lay_txt : ∀ ls : List Str, (∀ x ∈ ls, PyData.strOk x = true) → PyData.canLayAll0 (ls.map PyData.str) = true ∧ PyData.depthAll (ls.map PyData.str) = 0
  | [], _ => ⟨rfl, rfl⟩
  | x :: r, h => by
    have ih := lay_txt r fun y hy => h y (List.mem_cons_of_mem _ hy)
    constructor
    · rw [List.map_cons, PyData.canLayAll0, ih.1, PyData.canLay0, h x List.mem_cons_self]; rfl
    · rw [List.map_cons, PyData.depthAll, ih.2, PyData.depth]; rfl
theorem lay_num : ∀ ls : List Int, PyData.canLayAll0 (ls.map PyData.int) = true ∧ PyData.depthAll (ls.map PyData.int) = 0
  | [] => ⟨rfl, rfl⟩
  | x :: r => by
    have ih := lay_num r
    constructor
    · rw [List.map_cons, PyData.canLayAll0, ih.1, PyData.canLay0]; rfl
    · rw [List.map_cons, PyData.depthAll, ih.2, PyData.depth]; rfl
theorem shaped_txt {ls : List Str} (h : ∀ x ∈ ls, PyData.strOk x = true) : SeqAt.shaped (.list (ls.map PyData.str)) = true := by
  have l := lay_txt ls h
  unfold SeqAt.shaped
  rw [PyData.canLay0, l.1, PyData.depth, l.2]
  rfl
theorem shaped_num {ls : List Int} : SeqAt.shaped (.list (ls.map PyData.int)) = true := by
  have l := lay_num ls
  unfold SeqAt.shaped
  rw [PyData.canLay0, l.1, PyData.depth, l.2]
  rfl
theorem same_txt {ls : List Str} (h : ∀ x ∈ ls, PyData.strOk x = true) : PyData.eqv (.list (ls.map PyData.str)) (.list (ls.map PyData.str)) = true := SeqAt.eqv_refl _ (by rw [PyData.canLay0]; exact (lay_txt ls h).1)
theorem same_num {ls : List Int} : PyData.eqv (.list (ls.map PyData.int)) (.list (ls.map PyData.int)) = true := SeqAt.eqv_refl _ (by rw [PyData.canLay0]; exact (lay_num ls).1)
end LW
namespace LW
open PySem PySem.Spec PyProof.Rows L2 GxR
def topS (i : Nat) : Stmt := PySem.Challenge.pw_layerwharf_k04_claims_and_uploads.main.body.getD i (.Pass ⟨0, 0, 0, 0⟩)
structure Tx (K : PySem.W.Frag) (mg : Str → Option Value) (cC cU : Addr) : Prop where
  z_abs : mg "abs" = none
  z_int : mg "int" = none
  z_len : mg "len" = none
  z_max : mg "max" = none
  z_range : mg "range" = none
  z_repr : mg "repr" = none
  z_sorted : mg "sorted" = none
  z_set : mg "set" = none
  gC : mg "Claims" = some (.ref cC)
  gU : mg "Uploads" = some (.ref cU)
  clC : Cls K cC
  clU : Cls K cU
  nCl : NoAttr K cC "_last"
  nCp : NoAttr K cC "_pins"
  nUl : NoAttr K cU "_last"
  nUt : NoAttr K cU "_texts"
/-! ### an object with a number and a dict -/
def flP (n : Int) (d : Addr) : List (Str × V) := [("_last", .int n), ("_pins", .ref d)]
def flT (n : Int) (d : Addr) : List (Str × V) := [("_last", .int n), ("_texts", .ref d)]
theorem look_pl (n : Int) (d : Addr) : (flP n d).lookup ("_last" : Str) = some (V.int n) := rfl
theorem look_pp (n : Int) (d : Addr) : (flP n d).lookup ("_pins" : Str) = some (V.ref d) := rfl
theorem look_tl (n : Int) (d : Addr) : (flT n d).lookup ("_last" : Str) = some (V.int n) := rfl
theorem look_tt (n : Int) (d : Addr) : (flT n d).lookup ("_texts" : Str) = some (V.ref d) := rfl
theorem put_pl (n m : Int) (d : Addr) : putF "_last" (.int m) (flP n d) = flP m d := rfl
theorem put_tl (n m : Int) (d : Addr) : putF "_last" (.int m) (flT n d) = flT m d := rfl
theorem put_tt (n : Int) (d e : Addr) : putF "_texts" (.ref e) (flT n d) = flT n e := by rfl
section
variable {P : Program} {w : World} {K : PySem.W.Frag} {mg : Str → Option Value} {base : Heap} {cC cU : Addr}
/-! ### Claims -/
abbrev s_Claims___init : Stmt := inClass (topS 1) 0
abbrev N_Claims___init : List Str := ["self"]
abbrev P_Claims___init : List Str := ["self"]
theorem sc_Claims___init : FnScope N_Claims___init P_Claims___init (defScope s_Claims___init) := ⟨rfl, rfl, rfl, by decide +kernel, rfl, by decide +kernel, by decide +kernel⟩
def sp_Claims___init (C : Addr) : Sp := fun vs H Q _ => ∃ (o dx : Addr), vs = [.ref o] ∧ H o = some (.ins C dx []) ∧ ∀ d, H d = none → Q .non (L2.upd (L2.upd (L2.upd H o (.ins C dx [("_last", .int 0)])) d (.dK [])) o (.ins C dx (flP 0 d)))
theorem ok_Claims___init {f : Addr} {fd : FuncData} (F : Fun K "__init__" "Claims.__init__" s_Claims___init f fd) (T : Tx K mg cC cU) : FnOk P w K mg base CX0 1 f fd P_Claims___init (sp_Claims___init cC) := by
  refine F.ok sc_Claims___init (fun vs H Q E h => ?_) (fun cdv A outer s H vs Q E hr h => ?_)
  · obtain ⟨_, _, rfl, _⟩ := h
    rfl
  · obtain ⟨o, dx, rfl, ho, q⟩ := h
    have nd := sc_Claims___init.nd
    refine ⟨_, pss_cons (ps_fld (pv 0) pe_int rfl)
  (pss_one (ps_fld (pv 0) pe_dnewK rfl)), ?_⟩
    refine ⟨_, rfl, o, cC, dx, [], rfl, ho, T.clC, T.nCl, by decide, fun d nd => ⟨_, rfl, o, cC, dx, [("_last", .int 0)], rfl, ?_, T.clC, T.nCp, by decide, ?_⟩⟩
    · have : o ≠ d := fun e => by rw [← e, upd_same] at nd; cases nd
      rw [upd_ne this]
      exact upd_same
    · refine q d ?_
      by_cases e : d = o
      · rw [e, upd_same] at nd; cases nd
      · rw [upd_ne e] at nd; exact nd
abbrev s_Claims_begin : Stmt := inClass (topS 1) 1
abbrev N_Claims_begin : List Str := ["self"]
abbrev P_Claims_begin : List Str := ["self"]
theorem sc_Claims_begin : FnScope N_Claims_begin P_Claims_begin (defScope s_Claims_begin) := ⟨rfl, rfl, rfl, by decide +kernel, rfl, by decide +kernel, by decide +kernel⟩
def sp_Claims_begin (C : Addr) : Sp := fun vs H Q _ => ∃ (o dx d : Addr) (n : Nat) (kvs : List (Key × V)), vs = [.ref o] ∧ H o = some (.ins C dx (flP n d)) ∧ H d = some (.dK kvs) ∧ kvs.length < sizeLine ∧
  ∀ p, H p = none → Q (.int ((n + 1 : Nat) : Int)) (L2.upd (L2.upd (L2.upd H o (.ins C dx (flP ((n + 1 : Nat) : Int) d))) p (.dK [])) d (.dK (putK kvs (.inl ((n + 1 : Nat) : Int)) (.ref p))))
theorem ok_Claims_begin {f : Addr} {fd : FuncData} (F : Fun K "begin" "Claims.begin" s_Claims_begin f fd) (T : Tx K mg cC cU) : FnOk P w K mg base CX0 1 f fd P_Claims_begin (sp_Claims_begin cC) := by
  refine F.ok sc_Claims_begin (fun vs H Q E h => ?_) (fun cdv A outer s H vs Q E hr h => ?_)
  · obtain ⟨_, _, _, _, _, rfl, _⟩ := h
    rfl
  · obtain ⟨o, dx, d, n, kvs, rfl, ho, hd, hl, q⟩ := h
    have nd := sc_Claims_begin.nd
    have hu := hu_of hr
    refine ⟨_, pss_cons (ps_fldaug (pv 0) pe_int in_add)
  (pss_cons (ps_dput hu (pe_fld (pv 0) rfl) (pe_fld (pv 0) rfl) pe_dnewK rfl)
  (pss_one (ps_ret (pe_fld (pv 0) rfl)))), ?_⟩
    have e1 : (n : Int) + 1 = ((n + 1 : Nat) : Int) := by omega
    have od : o ≠ d := ne_of ho hd (by intro z; cases z)
    refine ⟨_, rfl, o, cC, dx, flP n d, _, rfl, ho, T.clC, T.nCl, look_pl _ _, _, _, rfl, rfl, dx, flP n d, ho, (by show 2 < 1000; decide), fun p np => ?_⟩
    rw [e1, put_pl]
    rw [e1, put_pl] at np
    have np0 : H p = none := by
      by_cases e : p = o
      · rw [e, upd_same] at np; cases np
      · rw [upd_ne e] at np; exact np
    have hop : o ≠ p := ne_of_none ho np0
    have hdp : d ≠ p := ne_of_none hd np0
    have ho2 : (L2.upd (L2.upd H o (.ins cC dx (flP ((n + 1 : Nat) : Int) d))) p (.dK [])) o = some (.ins cC dx (flP ((n + 1 : Nat) : Int) d)) := by rw [upd_ne hop, upd_same]
    have hd2 : (L2.upd (L2.upd H o (.ins cC dx (flP ((n + 1 : Nat) : Int) d))) p (.dK [])) d = some (.dK kvs) := by rw [upd_ne hdp, upd_ne od.symm]; exact hd
    refine ⟨_, rfl, o, cC, dx, _, _, rfl, ho2, T.clC, T.nCp, look_pp _ _, _, rfl, o, cC, dx, _, _, rfl, ho2, T.clC, T.nCl, look_pl _ _, d, _, rfl, DPut.k (k := .inl ((n + 1 : Nat) : Int)) hd2 hl, ?_⟩
    refine ⟨_, rfl, o, cC, dx, _, _, rfl, ?_, T.clC, T.nCl, look_pl ((n + 1 : Nat) : Int) d, ?_⟩
    · rw [upd_ne od]; exact ho2
    · exact q p np0
abbrev s_Claims_is_open : Stmt := inClass (topS 1) 2
abbrev N_Claims_is_open : List Str := ["self", "claim"]
abbrev P_Claims_is_open : List Str := ["self", "claim"]
theorem sc_Claims_is_open : FnScope N_Claims_is_open P_Claims_is_open (defScope s_Claims_is_open) := ⟨rfl, rfl, rfl, by decide +kernel, rfl, by decide +kernel, by decide +kernel⟩
def sp_Claims_is_open (C : Addr) : Sp := fun vs H Q _ => ∃ (o dx d : Addr) (n c : Int) (kvs : List (Key × V)), vs = [.ref o, .int c] ∧ H o = some (.ins C dx (flP n d)) ∧ H d = some (.dK kvs) ∧ Q (.bl (valV kvs (.inl c)).isSome) H
theorem ok_Claims_is_open {f : Addr} {fd : FuncData} (F : Fun K "is_open" "Claims.is_open" s_Claims_is_open f fd) (T : Tx K mg cC cU) : FnOk P w K mg base CX0 1 f fd P_Claims_is_open (sp_Claims_is_open cC) := by
  refine F.ok sc_Claims_is_open (fun vs H Q E h => ?_) (fun cdv A outer s H vs Q E hr h => ?_)
  · obtain ⟨_, _, _, _, _, _, rfl, _⟩ := h
    rfl
  · obtain ⟨o, dx, d, n, c, kvs, rfl, ho, hd, q⟩ := h
    have nd := sc_Claims_is_open.nd
    have hu := hu_of hr
    refine ⟨_, pss_one (ps_ret (pe_cmp (pc_din hu (pv 1) (pe_fld (pv 0) rfl)))), ?_⟩
    exact ⟨_, rfl, _, rfl, o, cC, dx, _, _, rfl, ho, T.clC, T.nCp, look_pp _ _, d, _, rfl, DGet.k (k := .inl c) hd, q⟩
abbrev s_Claims_pin : Stmt := inClass (topS 1) 3
abbrev N_Claims_pin : List Str := ["self", "claim", "address"]
abbrev P_Claims_pin : List Str := ["self", "claim", "address"]
theorem sc_Claims_pin : FnScope N_Claims_pin P_Claims_pin (defScope s_Claims_pin) := ⟨rfl, rfl, rfl, by decide +kernel, rfl, by decide +kernel, by decide +kernel⟩
def sp_Claims_pin (C : Addr) : Sp := fun vs H Q _ => ∃ (o dx d di : Addr) (n c : Int) (x : Str) (kvs ks : List (Key × V)), vs = [.ref o, .int c, .str x] ∧ H o = some (.ins C dx (flP n d)) ∧ H d = some (.dK kvs) ∧ valV kvs (.inl c) = some (.ref di) ∧ H di = some (.dK ks) ∧ ks.length < sizeLine ∧
  Q .non (L2.upd H di (.dK (putK ks (.inr x) (.bl true))))
theorem ok_Claims_pin {f : Addr} {fd : FuncData} (F : Fun K "pin" "Claims.pin" s_Claims_pin f fd) (T : Tx K mg cC cU) : FnOk P w K mg base CX0 1 f fd P_Claims_pin (sp_Claims_pin cC) := by
  refine F.ok sc_Claims_pin (fun vs H Q E h => ?_) (fun cdv A outer s H vs Q E hr h => ?_)
  · obtain ⟨_, _, _, _, _, _, _, _, _, rfl, _⟩ := h
    rfl
  · obtain ⟨o, dx, d, di, n, c, x, kvs, ks, rfl, ho, hd, hv, hi, hl, q⟩ := h
    have nd := sc_Claims_pin.nd
    have hu := hu_of hr
    refine ⟨_, pss_one (ps_dput hu (pe_dget hu (pe_fld (pv 0) rfl) (pv 1) (fun _ _ => rfl)) (pv 2) pe_bl rfl), ?_⟩
    exact ⟨_, rfl, o, cC, dx, _, _, rfl, ho, T.clC, T.nCp, look_pp _ _, _, rfl, d, _, rfl, by rw [← hv]; exact DGet.k (k := .inl c) hd, _, rfl, di, _, rfl, DPut.k (k := .inr x) hi hl, q⟩
abbrev s_Claims_end : Stmt := inClass (topS 1) 4
abbrev N_Claims_end : List Str := ["self", "claim"]
abbrev P_Claims_end : List Str := ["self", "claim"]
theorem sc_Claims_end : FnScope N_Claims_end P_Claims_end (defScope s_Claims_end) := ⟨rfl, rfl, rfl, by decide +kernel, rfl, by decide +kernel, by decide +kernel⟩
def sp_Claims_end (C : Addr) : Sp := fun vs H Q _ => ∃ (o dx d : Addr) (n c : Int) (kvs : List (Key × V)), vs = [.ref o, .int c] ∧ H o = some (.ins C dx (flP n d)) ∧ H d = some (.dK kvs) ∧
  (∀ v, valV kvs (.inl c) = some v → Q .non (L2.upd H d (.dK (dropK kvs (.inl c))))) ∧ (valV kvs (.inl c) = none → Q .non H)
theorem ok_Claims_end {f : Addr} {fd : FuncData} (F : Fun K "end" "Claims.end" s_Claims_end f fd) (T : Tx K mg cC cU) : FnOk P w K mg base CX0 1 f fd P_Claims_end (sp_Claims_end cC) := by
  refine F.ok sc_Claims_end (fun vs H Q E h => ?_) (fun cdv A outer s H vs Q E hr h => ?_)
  · obtain ⟨_, _, _, _, _, _, rfl, _⟩ := h
    rfl
  · obtain ⟨o, dx, d, n, c, kvs, rfl, ho, hd, q1, q2⟩ := h
    have nd := sc_Claims_end.nd
    refine ⟨_, pss_one (ps_expr (pe_dpop2 (pe_fld (pv 0) rfl) (pv 1) pe_non ⟨rfl, rfl, rfl, rfl⟩)), ?_⟩
    exact ⟨_, rfl, o, cC, dx, _, _, rfl, ho, T.clC, T.nCp, look_pp _ _, d, rfl, .inl ⟨_, .inl hd⟩, _, rfl, kvs, .inl c, hd, rfl, q1, q2⟩
abbrev s_Claims_numbers : Stmt := inClass (topS 1) 5
abbrev N_Claims_numbers : List Str := ["self"]
abbrev P_Claims_numbers : List Str := ["self"]
theorem sc_Claims_numbers : FnScope N_Claims_numbers P_Claims_numbers (defScope s_Claims_numbers) := ⟨rfl, rfl, rfl, by decide +kernel, rfl, by decide +kernel, by decide +kernel⟩
def sp_Claims_numbers (C : Addr) : Sp := fun vs H Q _ => ∃ (o dx d : Addr) (n : Int) (kvs : List (Key × V)) (ks : List Int), vs = [.ref o] ∧ H o = some (.ins C dx (flP n d)) ∧ H d = some (.dK kvs) ∧ kvs.map (·.1) = ks.map Sum.inl ∧ ks.length < 64 ∧
  ∀ (ys : List Int) p, ys.Perm ks → ys.Pairwise (· ≤ ·) → H p = none → Q (.ref p) (L2.upd H p (.lst (ys.map V.int)))
theorem ok_Claims_numbers {f : Addr} {fd : FuncData} (F : Fun K "numbers" "Claims.numbers" s_Claims_numbers f fd) (T : Tx K mg cC cU) : FnOk P w K mg base CX0 1 f fd P_Claims_numbers (sp_Claims_numbers cC) := by
  refine F.ok sc_Claims_numbers (fun vs H Q E h => ?_) (fun cdv A outer s H vs Q E hr h => ?_)
  · obtain ⟨_, _, _, _, _, _, rfl, _⟩ := h
    rfl
  · obtain ⟨o, dx, d, n, kvs, ks, rfl, ho, hd, ek, hl, q⟩ := h
    have nd := sc_Claims_numbers.nd
    refine ⟨_, pss_one (ps_ret (pe_callB (call_sortedDI rfl) (by rfl) T.z_sorted (by decide +kernel) (pa_cons (pe_fld (pv 0) rfl) pa_nil))), ?_⟩
    exact ⟨_, rfl, o, cC, dx, _, _, rfl, ho, T.clC, T.nCp, look_pp _ _, d, kvs, ks, rfl, .inl hd, ek, hl, q⟩
/-! ### Uploads -/
abbrev s_Uploads___init : Stmt := inClass (topS 3) 0
abbrev N_Uploads___init : List Str := ["self"]
abbrev P_Uploads___init : List Str := ["self"]
theorem sc_Uploads___init : FnScope N_Uploads___init P_Uploads___init (defScope s_Uploads___init) := ⟨rfl, rfl, rfl, by decide +kernel, rfl, by decide +kernel, by decide +kernel⟩
def sp_Uploads___init (C : Addr) : Sp := fun vs H Q _ => ∃ (o dx : Addr), vs = [.ref o] ∧ H o = some (.ins C dx []) ∧ ∀ d, H d = none → Q .non (L2.upd (L2.upd (L2.upd H o (.ins C dx [("_last", .int 0)])) d (.dK [])) o (.ins C dx (flT 0 d)))
theorem ok_Uploads___init {f : Addr} {fd : FuncData} (F : Fun K "__init__" "Uploads.__init__" s_Uploads___init f fd) (T : Tx K mg cC cU) : FnOk P w K mg base CX0 1 f fd P_Uploads___init (sp_Uploads___init cU) := by
  refine F.ok sc_Uploads___init (fun vs H Q E h => ?_) (fun cdv A outer s H vs Q E hr h => ?_)
  · obtain ⟨_, _, rfl, _⟩ := h
    rfl
  · obtain ⟨o, dx, rfl, ho, q⟩ := h
    have nd := sc_Uploads___init.nd
    refine ⟨_, pss_cons (ps_fld (pv 0) pe_int rfl)
  (pss_one (ps_fld (pv 0) pe_dnewK rfl)), ?_⟩
    refine ⟨_, rfl, o, cU, dx, [], rfl, ho, T.clU, T.nUl, by decide, fun d nd => ⟨_, rfl, o, cU, dx, [("_last", .int 0)], rfl, ?_, T.clU, T.nUt, by decide, ?_⟩⟩
    · have : o ≠ d := fun e => by rw [← e, upd_same] at nd; cases nd
      rw [upd_ne this]
      exact upd_same
    · refine q d ?_
      by_cases e : d = o
      · rw [e, upd_same] at nd; cases nd
      · rw [upd_ne e] at nd; exact nd
abbrev s_Uploads_begin : Stmt := inClass (topS 3) 1
abbrev N_Uploads_begin : List Str := ["self"]
abbrev P_Uploads_begin : List Str := ["self"]
theorem sc_Uploads_begin : FnScope N_Uploads_begin P_Uploads_begin (defScope s_Uploads_begin) := ⟨rfl, rfl, rfl, by decide +kernel, rfl, by decide +kernel, by decide +kernel⟩
def sp_Uploads_begin (C : Addr) : Sp := fun vs H Q _ => ∃ (o dx d : Addr) (n : Nat) (kvs : List (Key × V)), vs = [.ref o] ∧ H o = some (.ins C dx (flT n d)) ∧ H d = some (.dK kvs) ∧ kvs.length < sizeLine ∧
  Q (.int ((n + 1 : Nat) : Int)) (L2.upd (L2.upd H o (.ins C dx (flT ((n + 1 : Nat) : Int) d))) d (.dK (putK kvs (.inl ((n + 1 : Nat) : Int)) (.str ""))))
theorem ok_Uploads_begin {f : Addr} {fd : FuncData} (F : Fun K "begin" "Uploads.begin" s_Uploads_begin f fd) (T : Tx K mg cC cU) : FnOk P w K mg base CX0 1 f fd P_Uploads_begin (sp_Uploads_begin cU) := by
  refine F.ok sc_Uploads_begin (fun vs H Q E h => ?_) (fun cdv A outer s H vs Q E hr h => ?_)
  · obtain ⟨_, _, _, _, _, rfl, _⟩ := h
    rfl
  · obtain ⟨o, dx, d, n, kvs, rfl, ho, hd, hl, q⟩ := h
    have nd := sc_Uploads_begin.nd
    have hu := hu_of hr
    refine ⟨_, pss_cons (ps_fldaug (pv 0) pe_int in_add)
  (pss_cons (ps_dput hu (pe_fld (pv 0) rfl) (pe_fld (pv 0) rfl) pe_str rfl)
  (pss_one (ps_ret (pe_fld (pv 0) rfl)))), ?_⟩
    have e1 : (n : Int) + 1 = ((n + 1 : Nat) : Int) := by omega
    have od : o ≠ d := ne_of ho hd (by intro z; cases z)
    refine ⟨_, rfl, o, cU, dx, flT n d, _, rfl, ho, T.clU, T.nUl, look_tl _ _, _, _, rfl, rfl, dx, flT n d, ho, (by show 2 < 1000; decide), ?_⟩
    rw [e1, put_tl]
    have hd2 : (L2.upd H o (.ins cU dx (flT ((n + 1 : Nat) : Int) d))) d = some (.dK kvs) := by rw [upd_ne od.symm]; exact hd
    refine ⟨_, rfl, o, cU, dx, _, _, rfl, upd_same, T.clU, T.nUt, look_tt _ _, _, rfl, o, cU, dx, _, _, rfl, upd_same, T.clU, T.nUl, look_tl _ _, d, _, rfl, DPut.k (k := .inl ((n + 1 : Nat) : Int)) hd2 hl, ?_⟩
    refine ⟨_, rfl, o, cU, dx, _, _, rfl, ?_, T.clU, T.nUl, look_tl ((n + 1 : Nat) : Int) d, q⟩
    rw [upd_ne od]; exact upd_same
abbrev s_Uploads_add_part : Stmt := inClass (topS 3) 2
abbrev N_Uploads_add_part : List Str := ["self", "upload", "at", "part"]
abbrev P_Uploads_add_part : List Str := ["self", "upload", "at", "part"]
theorem sc_Uploads_add_part : FnScope N_Uploads_add_part P_Uploads_add_part (defScope s_Uploads_add_part) := ⟨rfl, rfl, rfl, by decide +kernel, rfl, by decide +kernel, by decide +kernel⟩
/-- the dict behind a part -/
def parted (kvs : List (Key × V)) (u : Int) (z part : Str) (at_ : Int) : List (Key × V) := if at_ = (z.length : Int) then putK kvs (.inl u) (.str (z ++ part)) else kvs
def sp_Uploads_add_part (C : Addr) : Sp := fun vs H Q _ => ∃ (o dx d : Addr) (n u at_ : Int) (part : Str) (kvs : List (Key × V)), vs = [.ref o, .int u, .int at_, .str part] ∧ H o = some (.ins C dx (flT n d)) ∧ H d = some (.dK kvs) ∧ kvs.length < sizeLine ∧
  (valV kvs (.inl u) = none → Q .non H) ∧ (∀ v, valV kvs (.inl u) = some v → ∃ z : Str, v = .str z ∧ z.length + part.length ≤ sizeLine ∧
    (at_ = (z.length : Int) → Q (.int ((z ++ part).length : Nat)) (L2.upd H d (.dK (putK kvs (.inl u) (.str (z ++ part)))))) ∧ (at_ ≠ (z.length : Int) → Q (.int (z.length : Nat)) H))
theorem ok_Uploads_add_part {f : Addr} {fd : FuncData} (F : Fun K "add_part" "Uploads.add_part" s_Uploads_add_part f fd) (T : Tx K mg cC cU) : FnOk P w K mg base CX0 1 f fd P_Uploads_add_part (sp_Uploads_add_part cU) := by
  refine F.ok sc_Uploads_add_part (fun vs H Q E h => ?_) (fun cdv A outer s H vs Q E hr h => ?_)
  · obtain ⟨_, _, _, _, _, _, _, _, rfl, _⟩ := h
    rfl
  · obtain ⟨o, dx, d, n, u, at_, part, kvs, rfl, ho, hd, hl, q1, q2⟩ := h
    have nd := sc_Uploads_add_part.nd
    have hu := hu_of hr
    refine ⟨_, pss_cons (ps_if (pt_cmp (pc_dnotin hu (pv 1) (pe_fld (pv 0) rfl)))
    (pss_one (ps_ret pe_non))
    (pss_nil))
  (pss_cons (ps_if (pt_cmpR op_eq (pv 2) (pe_callB call_len_str (by rfl) T.z_len (by decide +kernel) (pa_cons (pe_dget hu (pe_fld (pv 0) rfl) (pv 1) (fun _ _ => rfl)) pa_nil)) (nomark _))
    (pss_one (ps_daug hu (pe_fld (pv 0) rfl) (pv 1) (pv 3) in_addS (fun _ _ _ => rfl)))
    (pss_nil))
  (pss_one (ps_ret (pe_callB call_len_str (by rfl) T.z_len (by decide +kernel) (pa_cons (pe_dget hu (pe_fld (pv 0) rfl) (pv 1) (fun _ _ => rfl)) pa_nil))))), ?_⟩
    refine ⟨_, rfl, _, rfl, o, cU, dx, _, _, rfl, ho, T.clU, T.nUt, look_tt _ _, d, _, rfl, DGet.k (k := .inl u) hd, _, rfl, ?_⟩
    cases e : valV kvs (.inl u : Key) with
    | none => exact iteT (q1 e)
    | some v =>
      obtain ⟨z, rfl, hz, qa, qb⟩ := q2 v e
      refine iteF ⟨_, rfl, _, rfl, o, cU, dx, _, _, rfl, ho, T.clU, T.nUt, look_tt _ _, _, rfl, d, .str z, rfl, ?_, z, rfl, ?_, rfl, _, rfl, ?_⟩
      · rw [← e]; exact DGet.k (k := .inl u) hd
      · omega
      · refine ite2 (fun h => ?_) (fun h => ?_)
        · have hat : at_ = (z.length : Int) := by
            have := of_decide_eq_true h
            injection this
          have ne : o ≠ d := ne_of ho hd (by intro z; cases z)
          refine ⟨_, rfl, o, cU, dx, _, _, rfl, ho, T.clU, T.nUt, look_tt _ _, _, rfl, d, .str z, rfl, by rw [← e]; exact DGet.k (k := .inl u) hd, _, rfl, z, part, rfl, rfl, hz, _, DPut.k (k := .inl u) hd hl, ?_⟩
          refine ⟨_, rfl, o, cU, dx, _, _, rfl, by rw [upd_ne ne]; exact ho, T.clU, T.nUt, look_tt _ _, _, rfl, d, .str (z ++ part), rfl, ?_, z ++ part, rfl, ?_, qa hat⟩
          · have := DGet.k (k := .inl u) (show (L2.upd H d (.dK (putK kvs (.inl u) (.str (z ++ part))))) d = some (.dK (putK kvs (.inl u) (.str (z ++ part)))) from upd_same)
            rw [valV_put, if_pos rfl] at this
            exact this
          · rw [TL.len_tl, TL.tl_append, List.length_append, ← TL.len_tl, ← TL.len_tl]; exact hz
        · have hat : at_ ≠ (z.length : Int) := fun e2 => h (decide_eq_true (by rw [e2]))
          refine ⟨_, rfl, o, cU, dx, _, _, rfl, ho, T.clU, T.nUt, look_tt _ _, _, rfl, d, .str z, rfl, ?_, z, rfl, ?_, qb hat⟩
          · rw [← e]; exact DGet.k (k := .inl u) hd
          · omega
abbrev s_Uploads_finish : Stmt := inClass (topS 3) 3
abbrev N_Uploads_finish : List Str := ["self", "upload"]
abbrev P_Uploads_finish : List Str := ["self", "upload"]
theorem sc_Uploads_finish : FnScope N_Uploads_finish P_Uploads_finish (defScope s_Uploads_finish) := ⟨rfl, rfl, rfl, by decide +kernel, rfl, by decide +kernel, by decide +kernel⟩
def sp_Uploads_finish (C : Addr) : Sp := fun vs H Q _ => ∃ (o dx d : Addr) (n u : Int) (kvs : List (Key × V)), vs = [.ref o, .int u] ∧ H o = some (.ins C dx (flT n d)) ∧ H d = some (.dK kvs) ∧
  (∀ v, valV kvs (.inl u) = some v → Q v (L2.upd H d (.dK (dropK kvs (.inl u))))) ∧ (valV kvs (.inl u) = none → Q .non H)
theorem ok_Uploads_finish {f : Addr} {fd : FuncData} (F : Fun K "finish" "Uploads.finish" s_Uploads_finish f fd) (T : Tx K mg cC cU) : FnOk P w K mg base CX0 1 f fd P_Uploads_finish (sp_Uploads_finish cU) := by
  refine F.ok sc_Uploads_finish (fun vs H Q E h => ?_) (fun cdv A outer s H vs Q E hr h => ?_)
  · obtain ⟨_, _, _, _, _, _, rfl, _⟩ := h
    rfl
  · obtain ⟨o, dx, d, n, u, kvs, rfl, ho, hd, q1, q2⟩ := h
    have nd := sc_Uploads_finish.nd
    refine ⟨_, pss_one (ps_ret (pe_dpop2 (pe_fld (pv 0) rfl) (pv 1) pe_non ⟨rfl, rfl, rfl, rfl⟩)), ?_⟩
    exact ⟨_, rfl, o, cU, dx, _, _, rfl, ho, T.clU, T.nUt, look_tt _ _, d, rfl, .inl ⟨_, .inl hd⟩, _, rfl, kvs, .inl u, hd, rfl, q1, q2⟩
abbrev s_Uploads_forget : Stmt := inClass (topS 3) 4
abbrev N_Uploads_forget : List Str := ["self"]
abbrev P_Uploads_forget : List Str := ["self"]
theorem sc_Uploads_forget : FnScope N_Uploads_forget P_Uploads_forget (defScope s_Uploads_forget) := ⟨rfl, rfl, rfl, by decide +kernel, rfl, by decide +kernel, by decide +kernel⟩
def sp_Uploads_forget (C : Addr) : Sp := fun vs H Q _ => ∃ (o dx d : Addr) (n : Int), vs = [.ref o] ∧ H o = some (.ins C dx (flT n d)) ∧ ∀ p, H p = none → Q .non (L2.upd (L2.upd H p (.dK [])) o (.ins C dx (flT n p)))
theorem ok_Uploads_forget {f : Addr} {fd : FuncData} (F : Fun K "forget" "Uploads.forget" s_Uploads_forget f fd) (T : Tx K mg cC cU) : FnOk P w K mg base CX0 1 f fd P_Uploads_forget (sp_Uploads_forget cU) := by
  refine F.ok sc_Uploads_forget (fun vs H Q E h => ?_) (fun cdv A outer s H vs Q E hr h => ?_)
  · obtain ⟨_, _, _, _, rfl, _⟩ := h
    rfl
  · obtain ⟨o, dx, d, n, rfl, ho, q⟩ := h
    have nd := sc_Uploads_forget.nd
    refine ⟨_, pss_one (ps_fld (pv 0) pe_dnewK rfl), ?_⟩
    exact fun p np => ⟨_, rfl, o, cU, dx, flT n d, rfl, by rw [upd_ne (ne_of_none ho np)]; exact ho, T.clU, T.nUt, (by show 2 < 1000; decide), q p np⟩
end
end LW
namespace LW
open PySem PySem.Spec PyProof.Rows L2 GxR
/-- an entry: the claim's number, its inner dict, that dict's keys, the law's list, its texts -/
structure Ent where
  i : Nat
  di : Addr
  ks : List Str
  li : Addr
  xs : List Str
def inn (ks : List Str) : List (Key × V) := ks.map fun x => (Sum.inr x, V.bl true)
def outD (E : List Ent) : List (Key × V) := E.map fun e => (Sum.inl (e.i : Int), V.ref e.di)
def outL (E : List Ent) : List (Key × V) := E.map fun e => (Sum.inl (e.i : Int), V.ref e.li)
abbrev s_Claims_pinned : Stmt := inClass (topS 1) 6
abbrev N_Claims_pinned : List Str := ["self", "pins", "address"]
abbrev P_Claims_pinned : List Str := ["self"]
theorem sc_Claims_pinned : FnScope N_Claims_pinned P_Claims_pinned (defScope s_Claims_pinned) := ⟨rfl, rfl, rfl, by decide +kernel, rfl, by decide +kernel, by decide +kernel⟩
def sp_Claims_pinned (C : Addr) : Sp := fun vs H Q _ => ∃ (o dx d : Addr) (n : Int) (E : List Ent), vs = [.ref o] ∧ H o = some (.ins C dx (flP n d)) ∧ H d = some (.dK (outD E)) ∧ (∀ e ∈ E, H e.di = some (.dK (inn e.ks))) ∧ (d :: E.map (·.di)).Nodup ∧
  (∀ e ∈ E, e.ks.length ≤ 50) ∧ E.length ≤ 50 ∧ ∀ (ys : List Str) p H', H p = none → Same H H' → H' p = some (.lst (ys.map V.str)) → sortedS ys = true → ys.Nodup → (∀ x, x ∈ ys ↔ ∃ e ∈ E, x ∈ e.ks) → Q (.ref p) H'
theorem But.trans' {D : Addr} {H H1 H2 : Hp} (h : But D H H1) (k : But D H1 H2) : But D H H2 := fun b hb => (k b hb).trans (h b hb)
section
variable {P : Program} {w : World} {K : PySem.W.Frag} {mg : Str → Option Value} {base : Heap} {cC cU : Addr}
theorem ok_Claims_pinned {f : Addr} {fd : FuncData} (F : Fun K "pinned" "Claims.pinned" s_Claims_pinned f fd) (T : Tx K mg cC cU) : FnOk P w K mg base CX0 1 f fd P_Claims_pinned (sp_Claims_pinned cC) := by
  refine F.ok sc_Claims_pinned (fun vs H Q E h => ?_) (fun cdv A outer s H vs Q E hr h => ?_)
  · obtain ⟨_, _, _, _, _, rfl, _⟩ := h
    rfl
  · obtain ⟨o, dx, d, n, E', rfl, ho, hd, hi, ndp, h100, hE, q⟩ := h
    have nd := sc_Claims_pinned.nd
    refine ⟨_, pss_one (ps_ret (pe_callB (cr_sortedT rfl) (by rfl) T.z_sorted (by decide +kernel) (pa_cons (pe_locks (pe_scT2 (own := [("pins", 1), ("address", 2)]) (g := gName 1) (tt := tYes) (g1 := gName 2) (tt1 := tYes) (vs1 := [2]) rfl nd
      (pi_values (pe_fld (pv 0) rfl)) (blkOk_by (N := N_Claims_pinned) (sc := defScope s_Claims_pinned) (by decide +kernel)) (by decide)
      (fun _ _ _ _ _ => pg_name (i := 1) nd rfl (Or.inl rfl)) (fun _ _ _ _ _ => pts_nil) (fun _ _ _ _ _ => pi_keys (pv 1)) (fun _ _ _ _ _ => pg_name (i := 2) nd rfl (Or.inl rfl)) (fun _ _ _ _ _ => pts_nil) (fun _ _ _ _ _ => pv 2))) pa_nil))), ?_⟩
    have at_i : ∀ {i : Nat} {e : Ent}, E'[i]? = some e → e ∈ E' := fun h => List.mem_of_getElem? h
    refine ⟨d :: E'.map (·.di), lk_all _ H _ ndp (fun b hb => ?_) (fun H2 a1 a2 => ?_)⟩
    · rcases List.mem_cons.mp hb with rfl | hb
      · exact ⟨_, hd⟩
      · obtain ⟨e, he, rfl⟩ := List.mem_map.mp hb
        exact ⟨_, hi e he⟩
    have odn : o ∉ d :: E'.map (·.di) := fun z => by
      rcases List.mem_cons.mp z with rfl | z
      · rw [ho] at hd; cases hd
      · obtain ⟨e, he, rfl⟩ := List.mem_map.mp z
        have := hi e he
        rw [ho] at this; cases this
    have ho2 : H2 o = some (.ins cC dx (flP n d)) := by rw [a1 o odn]; exact ho
    obtain ⟨od, hd2⟩ := a2 d List.mem_cons_self _ hd
    refine ⟨_, rfl, o, cC, dx, _, _, rfl, ho2, T.clC, T.nCp, look_pp n d, d, od, _, rfl, hd2, fun D nD => ?_⟩
    have tr : ∀ b ∈ d :: E'.map (·.di), b ≠ D := fun b hb z => by
      subst z
      rcases List.mem_cons.mp hb with rfl | hb'
      · rw [hd2] at nD; cases nD
      · obtain ⟨e, he, rfl⟩ := List.mem_map.mp hb'
        obtain ⟨_, z⟩ := a2 e.di hb _ (hi e he)
        rw [z] at nD; cases nD
    have Dn : D ∉ d :: E'.map (·.di) := fun z => tr D z rfl
    have lo : (outD E').length = E'.length := List.length_map _
    refine walk_inv (walk_values (d := d) (o := od) (kvs := outD E')) (Body := fun x H' Nx => gName 1 x (wipe (L2.start N_Claims_pinned [V.ref o]) [1, 2]) H' fun σ2 H2 => wipe σ2 [1, 2] = wipe (L2.start N_Claims_pinned [V.ref o]) [1, 2] ∧ _)
      (fun i H' => But D H2 H' ∧ ∃ (S : Str → Bool) (c : Nat), H' D = some (SetTO P w D S c) ∧ c ≤ 50 * i ∧ ∀ x, S x = true ↔ ∃ e ∈ E'.take i, x ∈ e.ks) ⟨But.upd, fun _ => false, 0, upd_same, by omega, by simp⟩ (fun i H' _ h => ?_) (fun i v H4 H' hlt h y => ?_) (fun H' h => ?_)
    · rw [h.1 d (tr d List.mem_cons_self)]; exact hd2
    · obtain ⟨rfl, k0, hk⟩ := y
      obtain ⟨bt, S, c, hD, hc, hS⟩ := h
      rw [outD, List.getElem?_map] at hk
      cases ei : E'[i]? with
      | none => rw [ei] at hk; cases hk
      | some e =>
        rw [ei] at hk
        cases hk
        have he := at_i ei
        obtain ⟨oe, hoe⟩ := a2 e.di (List.mem_cons_of_mem _ (List.mem_map.mpr ⟨e, he, rfl⟩)) _ (hi e he)
        have nde : e.di ≠ D := tr _ (List.mem_cons_of_mem _ (List.mem_map.mpr ⟨e, he, rfl⟩))
        have tk : E'.take (i + 1) = E'.take i ++ [e] := by rw [List.take_add_one, ei]; rfl
        refine ⟨rfl, tyes ⟨_, rfl, e.di, oe, rfl, .inl ⟨inn e.ks, by rw [bt e.di nde]; exact hoe, ?_⟩⟩⟩
        have li : (inn e.ks).length = e.ks.length := List.length_map _
        have hk100 := h100 e he
        refine walk_inv (walk_keys (d := e.di) (o := oe) (kvs := inn e.ks))
          (fun j H' => But D H2 H' ∧ ∃ (S : Str → Bool) (c : Nat), H' D = some (SetTO P w D S c) ∧ c ≤ 50 * i + j ∧ ∀ x, S x = true ↔ (∃ e ∈ E'.take i, x ∈ e.ks) ∨ x ∈ e.ks.take j) ⟨bt, S, c, hD, hc, by simp [hS]⟩ (fun j H' _ h => ?_) (fun j v H5 H' hlj h y => ?_) (fun H' h => ?_)
        · rw [h.1 e.di nde]; exact hoe
        · obtain ⟨rfl, k1, v1, hk1, rfl⟩ := y
          obtain ⟨bt1, S1, c1, hD1, hc1, hS1⟩ := h
          rw [inn, List.getElem?_map] at hk1
          cases ej : e.ks[j]? with
          | none => rw [ej] at hk1; cases hk1
          | some x =>
            rw [ej] at hk1
            cases hk1
            have tj : e.ks.take (j + 1) = e.ks.take j ++ [x] := by rw [List.take_add_one, ej]; rfl
            refine ⟨rfl, tyes ⟨_, rfl, x, S1, c1, rfl, hD1, ?_, bt1.trans' But.upd, _, _, upd_same, ?_, fun y => ?_⟩⟩
            · have : (2600 : Nat) + 1 < scanBound := by unfold scanBound; decide
              have : i < E'.length := by omega
              have : 50 * i ≤ 50 * 50 := by omega
              omega
            · split <;> omega
            · rw [tj, List.mem_append, List.mem_singleton, Bool.or_eq_true, decide_eq_true_eq, hS1 y, or_assoc]
        · obtain ⟨bt1, S1, c1, hD1, hc1, hS1⟩ := h
          refine ⟨bt1, S1, c1, hD1, by omega, fun x => ?_⟩
          rw [hS1 x, tk, li, List.take_length]
          constructor
          · rintro (⟨e1, h1, h2⟩ | h1)
            · exact ⟨e1, List.mem_append_left _ h1, h2⟩
            · exact ⟨e, List.mem_append_right _ (List.mem_singleton.mpr rfl), h1⟩
          · rintro ⟨e1, h1, h2⟩
            rcases List.mem_append.mp h1 with h1 | h1
            · exact .inl ⟨e1, h1, h2⟩
            · rw [List.mem_singleton.mp h1] at h2
              exact .inr h2
    · obtain ⟨bt, S, c, hD, hc, hS⟩ := h
      refine ⟨fun b hb => bt b (tr b hb), ?_⟩
      have eb : back (d :: E'.map (·.di)) H H' = L2.upd H D (SetTO P w D S c) := by
        funext b
        unfold back
        by_cases hb : b ∈ d :: E'.map (·.di)
        · rw [if_pos hb, upd_ne (tr b hb)]
        · rw [if_neg hb]
          by_cases hbD : b = D
          · rw [hbD, hD, upd_same]
          · rw [upd_ne hbD, bt b hbD, a1 b hb]
      have nD0 : H D = none := by rw [← a1 D Dn]; exact nD
      rw [eb]
      refine ⟨D, S, c, rfl, upd_same, fun ys p h1 h2 h3 h4 np => ?_⟩
      have np0 : H p = none := by
        by_cases z : p = D
        · rw [z, upd_same] at np; cases np
        · rw [upd_ne z] at np; exact np
      refine q ys p _ np0 ((same_upd nD0).trans (same_upd np)) upd_same h1 h2 fun x => ?_
      rw [h3 x, hS x, lo, List.take_length]
end
end LW
namespace LW
open PySem PySem.Spec PyProof.Rows L2 GxR
abbrev s_law_state : Stmt := topS 5
abbrev N_law_state : List Str := ["script", "cells", "cell"]
abbrev P_law_state : List Str := ["script"]
theorem sc_law_state : FnScope N_law_state P_law_state (defScope s_law_state) := ⟨rfl, rfl, rfl, by decide +kernel, rfl, by decide +kernel, by decide +kernel⟩
abbrev s_law_take : Stmt := topS 6
abbrev N_law_take : List Str := ["state", "most", "cells", "at", "cell", "mixed"]
abbrev P_law_take : List Str := ["state", "most"]
theorem sc_law_take : FnScope N_law_take P_law_take (defScope s_law_take) := ⟨rfl, rfl, rfl, by decide +kernel, rfl, by decide +kernel, by decide +kernel⟩
section
variable {P : Program} {w : World} {K : PySem.W.Frag} {mg : Str → Option Value} {base : Heap} {cC cU : Addr}
theorem ok_state {f : Addr} {fd : FuncData} (F : Fun K "_law_state" "_law_state" s_law_state f fd) (T : Tx K mg cC cU) : FnOk P w K mg base CX0 1 f fd P_law_state (spState K) := by
  refine F.ok sc_law_state (fun vs H Q E h => ?_) (fun cdv A outer s H vs Q E hr h => ?_)
  · obtain ⟨l, ns, rfl, _⟩ := h
    rfl
  · obtain ⟨l, ns, rfl, hS, hl, q⟩ := h
    have nd := sc_law_state.nd
    refine ⟨_, pss_cons (ps_setLc (i := 1) (own := [("cell", 2)]) (g := gName 2) (tt := tYes) rfl nd rfl rfl (sw_true rfl rfl rfl (by decide +kernel)) (pi_list (pe_slice sl_list (pv 0) po_none (po_some pe_int))) (blkOk_by (N := N_law_state) (sc := defScope s_law_state) (by decide +kernel)) (fun _ _ _ _ _ => (pg_name (i := 2) nd rfl (Or.inl rfl))) (fun _ _ _ _ _ => pts_nil) (fun _ _ _ _ _ => (pe_callB call_abs (by rfl) T.z_abs (by decide +kernel) (pa_cons (pv 2) pa_nil))))
  (pss_cons (ps_if (pt_cmpR op_eq (pe_callB call_len_seq (by rfl) T.z_len (by decide +kernel) (pa_cons (pv 1) pa_nil)) pe_int (nomark _))
    (pss_one (ps_set (i := 1) nd rfl (.inl rfl) (pe_lst (pa_cons pe_int pa_nil))))
    (pss_nil))
  (pss_one (ps_ret (pe_lst (pa_cons pe_int (pa_cons (pv 1) pa_nil)))))), ?_⟩
    obtain ⟨zs, ez, lz, _⟩ := cutV_map V.int ns none (some 63)
    refine ⟨.ref l, rfl, 63, rfl, l, _, rfl, hS, fun p np => ?_⟩
    rw [ez]
    have s1 : Same H (upd H p (.lst (zs.map V.int))) := same_upd np
    refine ⟨p, rfl, ⟨_, SqL.of upd_same⟩, fun D nD => lc_map (walk_list (K := K) (a := p) (xs := zs.map V.int)) (σ := [some (.ref l), none, none]) (vs := [2])
      (fun i => .int (if zs.getD i 0 < 0 then -zs.getD i 0 else zs.getD i 0)) ?_ ?_ (fun _ => rfl) ?_ ?_⟩
    · rw [List.length_map]
      exact Nat.lt_of_le_of_lt (Nat.le_trans lz hl) (by decide)
    · intro H2 hb
      exact hb.list nD (SqL.of upd_same)
    · rintro i x H2 H3 hi hb ⟨rfl, hx⟩
      rw [List.getElem?_map] at hx
      cases e : zs[i]? with
      | none => rw [e] at hx; cases hx
      | some z =>
        rw [e] at hx
        cases hx
        refine ⟨rfl, fun Q2 k => ⟨_, rfl, z, rfl, ?_⟩⟩
        have : zs.getD i 0 = z := by rw [List.getD_eq_getElem?_getD, e]; rfl
        rw [this] at k
        exact k
    · rw [List.length_map]
      have em : ((List.range zs.length).map fun i => V.int (if zs.getD i 0 < 0 then -zs.getD i 0 else zs.getD i 0)) = (zs.map fun z => if z < 0 then -z else z).map V.int := by
        rw [range_map_get (fun z : Int => V.int (if z < 0 then -z else z)) 0 zs, List.map_map]
        rfl
      rw [em]
      have s2 : Same H (upd (upd H p (.lst (zs.map V.int))) D (.lst ((zs.map fun z => if z < 0 then -z else z).map V.int))) := s1.trans (same_upd nD)
      have fin : ∀ (c : Addr) (cs : List Int) (H2 : Hp), Same H H2 → H c = none → H2 c = some (.lst (cs.map V.int)) → 0 < cs.length → cs.length ≤ 63 → (∀ z ∈ cs, 0 ≤ z) →
          ∀ x, H2 x = none → Q (.ref x) (upd H2 x (.lst [.int 0, .ref c])) := by
        intro c cs H2 sm nc hc h0 h63 hnn x nx
        have ncx : c ≠ x := ne_of_none hc nx
        refine q x c _ (sm.free nx) nc (sm.trans (same_upd nx)) ⟨0, cs, upd_same, ?_, ncx.symm, h0, h63, hnn, by omega⟩
        rw [upd_ne ncx]
        exact hc
      refine ⟨_, rfl, D, _, rfl, .inl (SqL.of upd_same), rfl, _, rfl, ite2 (fun e => ?_) (fun e => ?_)⟩
      · refine ⟨by show 1 ≤ sizeLine; decide, fun c nc => ?_⟩
        refine ⟨_, rfl, by show 2 ≤ sizeLine; decide, ?_⟩
        exact fin c [0] _ (s2.trans (same_upd nc)) (s2.free nc) upd_same (by decide) (by decide) (by decide)
      · refine ⟨_, rfl, by show 2 ≤ sizeLine; decide, ?_⟩
        refine fin D (zs.map fun z => if z < 0 then -z else z) _ s2 (s1.free nD) upd_same ?_ ?_ ?_
        · have e' := of_decide_eq_false (eq_false_of_ne_true e)
          rw [List.length_map]
          rw [List.length_map, List.length_map] at e'
          rcases Nat.eq_zero_or_pos zs.length with h | h
          · exact absurd (by rw [h]; rfl) e'
          · exact h
        · rw [List.length_map]
          omega
        · intro z hz
          obtain ⟨y, _, rfl⟩ := List.mem_map.mp hz
          split <;> omega
theorem ok_take {f : Addr} {fd : FuncData} (F : Fun K "_law_take" "_law_take" s_law_take f fd) (z_len : mg "len" = none) (z_int : mg "int" = none) : FnOk P w K mg base CX0 1 f fd P_law_take spTake := by
  refine F.ok sc_law_take (fun vs H Q E h => ?_) (fun cdv A outer s H vs Q E hr h => ?_)
  · obtain ⟨a, c, m, rfl, _⟩ := h
    rfl
  · obtain ⟨a, c, m, rfl, ⟨n, cs, ha, hc, hac, h0, h63, hnn, hn⟩, hm1, hm2, q⟩ := h
    have nd := sc_law_take.nd
    refine ⟨_, pss_cons (ps_set (i := 2) nd rfl (.inl rfl) (pe_ix ix_list (pv 0) pe_int (fun _ _ => rfl)))
  (pss_cons (ps_set (i := 3) nd rfl (.inl rfl) (pe_op op_mod (pe_ix ix_list (pv 0) pe_int (fun _ _ => rfl)) (pe_callB call_len_seq (by rfl) z_len (by decide +kernel) (pa_cons (pv 2) pa_nil))))
  (pss_cons (ps_set (i := 4) nd rfl (.inl rfl) (pe_ix ix_list (pv 2) (pv 3) (fun _ _ => rfl)))
  (pss_cons (ps_if (pt_cmpR op_ge (pv 4) pe_int (nomark _))
    (pss_cons (ps_asg (pe_op op_fdiv (pv 4) (pv 1)) (pg_sub (pv 2) (pv 3) set_list))
  (pss_one (ps_ret (pe_op op_mod (pv 4) (pv 1)))))
    (pss_nil))
  (pss_cons (ps_asg (pe_op op_add (pe_ix ix_list (pv 0) pe_int (fun _ _ => rfl)) pe_int) (pg_sub (pv 0) pe_int set_list))
  (pss_cons (ps_set (i := 5) nd rfl (.inl rfl) (pe_op op_mod (pe_callTy call_int1 (by rfl) z_int (by decide +kernel) (pa_cons (pe_op op_add (pe_op op_mul (pv 4) pe_int) (pe_op op_mul (pe_ix ix_list (pv 0) pe_int (fun _ _ => rfl)) pe_int)) pa_nil)) pe_int))
  (pss_cons (ps_set (i := 5) nd rfl (.inl rfl) (pe_op op_mod (pe_callTy call_int1 (by rfl) z_int (by decide +kernel) (pa_cons (pe_op op_add (pe_op op_mul (pv 5) pe_int) (pe_op op_mul (pe_ix ix_list (pv 0) pe_int (fun _ _ => rfl)) pe_int)) pa_nil)) pe_int))
  (pss_one (ps_ret (pe_op op_mod (pe_op op_fdiv (pv 5) pe_int) (pv 1)))))))))), ?_⟩
    have hA : SqL K H a [.int n, .ref c] := SqL.of ha
    have hC : SqL K H c (cs.map V.int) := SqL.of hc
    have hl : (0 : Int) < (((cs.map V.int).length : Nat) : Int) := by rw [List.length_map]; omega
    have e0 : 0 ≤ n % ((cs.map V.int).length : Int) := Int.emod_nonneg _ (by omega)
    have e1 : n % ((cs.map V.int).length : Int) < ((cs.map V.int).length : Int) := Int.emod_lt_of_pos _ hl
    obtain ⟨j, hj⟩ : ∃ j : Nat, n % ((cs.map V.int).length : Int) = (j : Int) := ⟨_, (Int.toNat_of_nonneg e0).symm⟩
    have hjl : j < cs.length := by rw [List.length_map] at e1; rw [List.length_map] at hj; omega
    have gz : (cs.map V.int)[j]? = some (.int cs[j]) := by rw [List.getElem?_map, List.getElem?_eq_getElem hjl]; rfl
    have hz0 : 0 ≤ cs[j] := hnn _ (List.getElem_mem hjl)
    -- cells = state[1]; at = state[0] % len(cells); cell = cells[at]
    refine ⟨.ref a, rfl, a, _, 1, _, rfl, rfl, hA, at2_1, ?_⟩
    refine ⟨.ref a, rfl, a, _, 0, _, rfl, rfl, hA, at2_0, .ref c, rfl, c, _, rfl, .inl hC, _, _, rfl, rfl, hl, ?_⟩
    refine ⟨.ref c, rfl, _, rfl, c, _, _, .int cs[j], rfl, rfl, hC, by rw [hj]; exact atI_nat gz, ?_⟩
    -- if cell >= ..
    refine ⟨_, rfl, _, _, rfl, rfl, _, rfl, ite2 (fun _ => ?_) (fun _ => ?_)⟩
    · refine ⟨_, rfl, _, rfl, cs[j], m, rfl, rfl, ⟨by omega, by omega⟩, .ref c, rfl, _, rfl, c, _, _, j, rfl, rfl, hc, ?_, ?_⟩
      · unfold ixN
        rw [hj, List.length_map, if_pos (by omega), if_pos (by omega)]
        rfl
      · refine ⟨_, rfl, _, rfl, cs[j], m, rfl, rfl, by omega, ?_⟩
        refine q _ _ (Int.emod_nonneg _ (by omega)) (Int.emod_lt_of_pos _ (by omega)) (fun b _ hb => upd_ne hb) ⟨n, cs.set j (cs[j] / m), ?_, ?_, hac, by rw [List.length_set]; exact h0, by rw [List.length_set]; exact h63, ?_, hn⟩
        · rw [upd_ne hac]; exact ha
        · rw [upd_same, List.map_set]
        · intro z hz
          rcases List.mem_or_eq_of_mem_set hz with h | h
          · exact hnn z h
          · rw [h]; exact Int.ediv_nonneg hz0 (by omega)
    · refine ⟨.ref a, rfl, a, _, 0, _, rfl, rfl, hA, at2_0, n, 1, rfl, rfl, .ref a, rfl, a, _, 0, 0, rfl, rfl, ha, rfl, ?_⟩
      have ha' : (upd H a (.lst [.int (n + 1), .ref c])) a = some (.lst [.int (n + 1), .ref c]) := upd_same
      have hA' : SqL K (upd H a (.lst [.int (n + 1), .ref c])) a [.int (n + 1), .ref c] := SqL.of ha'
      refine ⟨_, rfl, cs[j], _, rfl, rfl, .inr ⟨by decide, by decide⟩, .ref a, rfl, a, _, 0, _, rfl, rfl, hA', at2_0, _, _, rfl, rfl, .inr ⟨by decide, by decide⟩, _, _, rfl, rfl, .inl ⟨_, rfl, ?_⟩⟩
      refine ⟨_, _, rfl, rfl, by show (0 : Int) < 2147483647; decide, ?_⟩
      refine ⟨_, rfl, _, _, rfl, rfl, .inr ⟨by decide, by decide⟩, .ref a, rfl, a, _, 0, _, rfl, rfl, hA', at2_0, _, _, rfl, rfl, .inr ⟨by decide, by decide⟩, _, _, rfl, rfl, .inl ⟨_, rfl, ?_⟩⟩
      refine ⟨_, _, rfl, rfl, by show (0 : Int) < 1000000007; decide, ?_⟩
      refine ⟨_, rfl, _, _, rfl, rfl, ⟨by decide, by decide⟩, _, rfl, _, m, rfl, rfl, by omega, ?_⟩
      refine q _ _ (Int.emod_nonneg _ (by omega)) (Int.emod_lt_of_pos _ (by omega)) (fun b hb _ => upd_ne hb) ⟨n + 1, cs, ha', ?_, hac, h0, h63, hnn, by omega⟩
      rw [upd_ne (Ne.symm hac)]
      exact hc
end
abbrev s_law_text : Stmt := topS 8
abbrev N_law_text : List Str := ["state", "most", "k"]
abbrev P_law_text : List Str := ["state", "most"]
theorem sc_law_text : FnScope N_law_text P_law_text (defScope s_law_text) := ⟨rfl, rfl, rfl, by decide +kernel, rfl, by decide +kernel, by decide +kernel⟩
abbrev s_law_pinned : Stmt := topS 10
abbrev N_law_pinned : List Str := ["pins", "found", "claim"]
abbrev P_law_pinned : List Str := ["pins"]
theorem sc_law_pinned : FnScope N_law_pinned P_law_pinned (defScope s_law_pinned) := ⟨rfl, rfl, rfl, by decide +kernel, rfl, by decide +kernel, by decide +kernel⟩
def sp_law_pinned (K : PySem.W.Frag) : Sp := fun vs H Q _ => ∃ (p : Addr) (E : List Ent), vs = [.ref p] ∧ H p = some (.dK (outL E)) ∧ (∀ e ∈ E, H e.li = some (.lst (e.xs.map V.str))) ∧ (E.map (·.i)).Nodup ∧
  (∀ e ∈ E, e.xs.length ≤ 50) ∧ E.length ≤ 50 ∧ ∀ (ys : List Str) q H', H q = none → Same H H' → H' q = some (.lst (ys.map V.str)) → sortedS ys = true → ys.Nodup → (∀ x, x ∈ ys ↔ ∃ e ∈ E, x ∈ e.xs) → Q (.ref q) H'
/-- what the entry of this number leads to -/
theorem val_ent (g : Ent → V) : ∀ {E : List Ent} {e : Ent}, (E.map (·.i)).Nodup → e ∈ E → valV (E.map fun e => ((Sum.inl (e.i : Int) : Key), g e)) (.inl (e.i : Int)) = some (g e)
  | [], e, _, h => by simp at h
  | x :: E, e, nd, h => by
    obtain ⟨n1, n2⟩ := List.nodup_cons.mp nd
    rw [List.map_cons]
    rcases List.mem_cons.mp h with rfl | h
    · exact valV_pos rfl
    · rw [valV_neg (fun z => n1 ?_)]
      · exact val_ent g n2 h
      · have : (x.i : Int) = (e.i : Int) := by injection z
        exact List.mem_map.mpr ⟨e, h, show e.i = x.i by omega⟩
section
variable {P : Program} {w : World} {K : PySem.W.Frag} {mg : Str → Option Value} {base : Heap} {cC cU : Addr}
theorem ok_law_text {f : Addr} {fd : FuncData} (F : Fun K "_law_text" "_law_text" s_law_text f fd) (T : Tx K mg cC cU)
    (C__law_take : Cal P w K mg base CX0 1 "_law_take" P_law_take spTake) : FnOk P w K mg base CX0 2 f fd P_law_text spText := by
  refine F.ok sc_law_text (fun vs H Q E h => ?_) (fun cdv A outer s H vs Q E hr h => ?_)
  · obtain ⟨_, _, _, rfl, _⟩ := h
    rfl
  · obtain ⟨a, c, m, rfl, s0, hm, q⟩ := h
    have nd := sc_law_text.nd
    refine ⟨_, pss_one (ps_ret (pe_join pe_str (pe_lc (own := [("k", 2)]) (g := gName 2) (tt := tYes) rfl nd (pi_range1 (by rfl) T.z_range (pa_cons (pe_cal C__law_take hr (pa_cons (pv 0) (pa_cons (pe_op op_add (pv 1) pe_int) pa_nil))) pa_nil)) (blkOk_by (N := N_law_text) (sc := defScope s_law_text) (by decide +kernel)) (fun _ _ _ _ _ => (pg_name (i := 2) nd rfl (Or.inl rfl))) (fun _ _ _ _ _ => pts_nil) (fun _ _ _ _ _ => (pe_ix ix_str pe_str (pe_cal C__law_take hr (pa_cons (pv 0) (pa_cons pe_int pa_nil))) (fun _ _ => rfl)))))), ?_⟩
    refine ⟨⟨_, rfl⟩, .ref a, rfl, _, rfl, _, _, rfl, rfl, a, c, (m : Int) + 1, rfl, s0, by omega, by omega, fun v H1 v0 v1 e1 s1 => ?_⟩
    obtain ⟨n, rfl, hn⟩ := nat_of v0 v1
    refine ⟨_, rfl, by omega, by omega, fun D nD => ?_⟩
    have nDa := s1.ne nD
    have nD0 := (Mv.take s0 s1 e1).free D nD
    show ∃ W : Nat → Nat → Hp → Prop, _
    refine lc_range (lo := 0) (n := n) (fun i H' => ∃ xs : List Nat, xs.length = i ∧ (∀ z ∈ xs, z ∈ drawn) ∧ H' D = some (.lst (xs.map fun c => V.str ⟨#[c]⟩)) ∧ SL H' a c ∧ Mv a c H H')
      ⟨[], rfl, (by simp), upd_same, s1.same (same_upd nD), (Mv.take s0 s1 e1).new nD0⟩ ?_ ?_
    · rintro i H4 hi ⟨xs, lx, hx, hD, s4, m4⟩
      refine ⟨rfl, tyes ⟨_, rfl, a, c, 8, rfl, s4, by decide, by decide, fun v H5 v0 v8 e5 s5 => ?_⟩⟩
      obtain ⟨z, rfl, hz⟩ := nat_of v0 v8
      have hzl : z < drawn.length := by show z < 8; omega
      refine ⟨_, _, drawn[z], rfl, rfl, by decide +kernel, ?_, _, by rw [e5 D nDa.1 nDa.2]; exact hD, ?_, xs ++ [drawn[z]], by simp [lx], ?_, ?_, ?_, ?_⟩
      · rw [drawn_eq]
        exact atI_nat (List.getElem?_eq_getElem hzl)
      · rw [List.length_map, lx]
        exact Nat.lt_of_lt_of_le (show i < 1001 by omega) (by decide)
      · intro y hy
        rcases List.mem_append.mp hy with h | h
        · exact hx y h
        · rw [List.mem_singleton.mp h]
          exact List.getElem_mem hzl
      · rw [upd_same, List.map_append]
        rfl
      · exact s5.eq (upd_ne nDa.1.symm) (upd_ne nDa.2.symm)
      · exact (m4.trans (Mv.take s4 s5 e5)).new nD0
    · rintro H4 ⟨xs, lx, hx, hD, s4, m4⟩
      have et : (xs.map fun c => V.str (⟨#[c]⟩ : Str)) = (xs.map fun c => (⟨#[c]⟩ : Str)).map V.str := by rw [List.map_map]; rfl
      rw [et] at hD
      have tj := join_one xs
      refine ⟨_, D, xs.map fun c => (⟨#[c]⟩ : Str), rfl, rfl, .inl (SqL.of hD), ?_, ?_⟩
      · have := sum_le (fun l : Str => l.length) 1 (xs.map fun c => (⟨#[c]⟩ : Str)) fun x hx => by
          obtain ⟨y, hy, rfl⟩ := List.mem_map.mp hx
          exact Nat.le_refl 1
        have z : (Str.ofString "").length = 0 := by decide +kernel
        rw [z, Nat.mul_zero, Nat.add_zero]
        refine Nat.le_trans this ?_
        rw [List.length_map]
        omega
      · refine q _ H4 ?_ ?_ s4 m4
        · rw [TL.len_tl, tj, lx]; omega
        · intro z hz
          exact hx z (by rw [← tj]; exact hz)
theorem ok_law_pinned {f : Addr} {fd : FuncData} (F : Fun K "_law_pinned" "_law_pinned" s_law_pinned f fd) (T : Tx K mg cC cU) : FnOk P w K mg base CX0 1 f fd P_law_pinned (sp_law_pinned K) := by
  refine F.ok sc_law_pinned (fun vs H Q E h => ?_) (fun cdv A outer s H vs Q E hr h => ?_)
  · obtain ⟨_, _, rfl, _⟩ := h
    rfl
  · obtain ⟨p, E', rfl, hp, hl, ndi, h50, hE, q⟩ := h
    have nd := sc_law_pinned.nd
    have hu := hu_of hr
    refine ⟨_, pss_cons (ps_set (i := 1) nd rfl (Or.inl rfl) (pe_lst pa_nil))
  (pss_cons (ps_lock (ps_for PassesOwn.never rfl (pi_keys (pv 0)) (pg_name (i := 2) nd rfl (Or.inl rfl))
    (pss_one (ps_set (i := 1) nd rfl (Or.inl rfl) (pe_op op_cat (pv 1) (pe_dget hu (pv 0) (pv 2) (fun _ _ => rfl)))))))
  (pss_one (ps_ret (pe_callB (cr_sortedT rfl) (by rfl) T.z_sorted (by decide +kernel) (pa_cons (pe_callTy (cr_setOfS rfl) (by rfl) T.z_set (by decide +kernel) (pa_cons (pv 1) pa_nil)) pa_nil))))), ?_⟩
    refine ⟨Nat.zero_le _, fun l nl => ?_⟩
    have npl : p ≠ l := ne_of_none hp nl
    refine ⟨p, .dK (outL E'), by rw [upd_ne npl]; exact hp, True.intro, fun od => ?_⟩
    refine ⟨_, rfl, p, od, rfl, .inl ⟨outL E', upd_same, ?_⟩⟩
    have lo : (outL E').length = E'.length := List.length_map _
    refine for_it (walk_keys (d := p) (o := od) (kvs := outL E')) (fun i σ H' => ∃ (l : Addr) (v : Option V) (xs : List Str), σ = [some (.ref p), some (.ref l), v] ∧ H' p = some (.frz od (.dK (outL E'))) ∧ H' l = some (.lst (xs.map V.str)) ∧ (∀ b o, b ≠ p → H b = some o → H' b = some o) ∧ (∀ b, H' b = none → H b = none) ∧ H l = none ∧ xs.length ≤ 50 * i ∧
      ∀ x, x ∈ xs ↔ ∃ e ∈ E'.take i, x ∈ e.xs) ⟨l, none, [], rfl, upd_same, by rw [upd_ne npl.symm, upd_same]; rfl, ?_, ?_, nl, by simp, by simp⟩ (fun i σ H' _ ⟨_, _, _, _, h, _⟩ => h) ?_ ?_
    · intro b o hb e
      rw [upd_ne hb, upd_ne (ne_of_none e nl)]
      exact e
    · intro b z
      by_cases h1 : b = p
      · rw [h1, upd_same] at z; cases z
      · rw [upd_ne h1] at z
        by_cases h2 : b = l
        · rw [h2]; exact nl
        · rw [upd_ne h2] at z; exact z
    · rintro i v σ H4 H' hlt ⟨l1, v1, xs, rfl, h1, h2, h3, h4, h5, h6, h7⟩ ⟨rfl, k0, w0, hk, rfl⟩
      rw [outL, List.getElem?_map] at hk
      cases ei : E'[i]? with
      | none => rw [ei] at hk; cases hk
      | some e =>
        rw [ei] at hk
        cases hk
        have he : e ∈ E' := List.mem_of_getElem? ei
        have hle := hl e he
        have nlp : e.li ≠ p := ne_of hle hp (by intro z; cases z)
        have hle' := h3 e.li _ nlp hle
        have tk : E'.take (i + 1) = E'.take i ++ [e] := by rw [List.take_add_one, ei]; rfl
        refine ⟨.ref l1, rfl, .ref p, rfl, _, rfl, p, .ref e.li, rfl, ?_, l1, e.li, xs.map V.str, e.xs.map V.str, rfl, rfl, h2, hle', ?_, fun l2 n2 => ?_⟩
        · have : DGet H' p (.int (e.i : Int)) (valV (outL E') (.inl (e.i : Int))) := .inl ⟨_, .inl (e.i : Int), .inr ⟨od, h1⟩, rfl, rfl⟩
          rw [outL, val_ent (fun e => .ref e.li) ndi he] at this
          exact this
        · rw [List.length_map, List.length_map]
          have := h50 e he
          have : 50 * i ≤ 50 * 50 := by omega
          exact Nat.le_trans (show xs.length + e.xs.length ≤ 5000 by omega) (by decide)
        · have npl2 : p ≠ l2 := ne_of_none h1 n2
          refine ⟨l2, _, xs ++ e.xs, rfl, by rw [upd_ne npl2]; exact h1, by rw [upd_same, List.map_append], ?_, ?_, h4 _ n2, ?_, fun x => ?_⟩
          · intro b o hb e'
            have := h3 b o hb e'
            rw [upd_ne (ne_of_none this n2)]
            exact this
          · intro b z
            by_cases hb : b = l2
            · rw [hb]; exact h4 _ n2
            · rw [upd_ne hb] at z; exact h4 b z
          · rw [List.length_append]
            have := h50 e he
            omega
          · rw [List.mem_append, h7 x, tk]
            constructor
            · rintro (⟨e1, g1, g2⟩ | g1)
              · exact ⟨e1, List.mem_append_left _ g1, g2⟩
              · exact ⟨e, List.mem_append_right _ (List.mem_singleton.mpr rfl), g1⟩
            · rintro ⟨e1, g1, g2⟩
              rcases List.mem_append.mp g1 with g1 | g1
              · exact .inl ⟨e1, g1, g2⟩
              · rw [List.mem_singleton.mp g1] at g2
                exact .inr g2
    · rintro σ H4 ⟨l1, v1, xs, rfl, h1, h2, h3, h4, h5, h6, h7⟩
      refine ⟨h1, ?_⟩
      have npl1 : l1 ≠ p := ne_of h2 h1 (by intro z; cases z)
      have sm : Same H (L2.upd H4 p (.dK (outL E'))) := fun b o e => by
        by_cases hb : b = p
        · subst hb
          rw [hp] at e; cases e
          exact upd_same
        · rw [upd_ne hb]; exact h3 b o hb e
      refine ⟨_, rfl, l1, xs, rfl, .inl (.inl (by rw [upd_ne npl1]; exact h2)), ?_, fun D c hc nD => ?_⟩
      · have : (2501 : Nat) < scanBound := by unfold scanBound; decide
        rw [lo] at h6
        omega
      · refine ⟨D, _, c, rfl, upd_same, fun ys r g1 g2 g3 g4 nr => ?_⟩
        have sm2 := (sm.trans (same_upd nD (o := SetTO P w D (fun k => decide (k ∈ xs)) c)))
        refine q ys r _ (sm2.free nr) (sm2.trans (same_upd nr)) upd_same g1 g2 fun x => ?_
        rw [g3 x, decide_eq_true_eq, h7 x, lo, List.take_length]
end
end LW
namespace LW
open PySem PySem.Spec PyProof.Rows L2 GxR
/-- the claims at o and the law's pins at p tell the same -/
structure CSt (C : Addr) (H : Hp) (o d p : Addr) (E : List Ent) (n t : Nat) : Prop where
  ob : ∃ dx, H o = some (.ins C dx (flP n d))
  dd : H d = some (.dK (outD E))
  pp : H p = some (.dK (outL E))
  inner : ∀ e ∈ E, H e.di = some (.dK (inn e.ks))
  lists : ∀ e ∈ E, H e.li = some (.lst (e.xs.map V.str))
  mem : ∀ e ∈ E, ∀ x, x ∈ e.ks ↔ x ∈ e.xs
  nd : (p :: d :: E.map (·.di)).Nodup
  num : (E.map (·.i)).Nodup
  low : ∀ e ∈ E, e.i ≤ n
  small : n ≤ t ∧ E.length ≤ t ∧ ∀ e ∈ E, e.ks.length ≤ t ∧ e.xs.length ≤ t
/-- the addresses of it -/
def CAt (o d p : Addr) (E : List Ent) (b : Addr) : Prop := b = o ∨ b = p ∨ b = d ∨ (∃ e ∈ E, b = e.di) ∨ ∃ e ∈ E, b = e.li
theorem CSt.keep {C : Addr} {H H' : Hp} {o d p : Addr} {E : List Ent} {n t : Nat} (S : CSt C H o d p E n t) (k : ∀ b v, CAt o d p E b → H b = some v → H' b = some v) : CSt C H' o d p E n t :=
  ⟨let ⟨dx, e⟩ := S.ob; ⟨dx, k _ _ (.inl rfl) e⟩, k _ _ (.inr (.inr (.inl rfl))) S.dd, k _ _ (.inr (.inl rfl)) S.pp, fun e he => k _ _ (.inr (.inr (.inr (.inl ⟨e, he, rfl⟩)))) (S.inner e he),
    fun e he => k _ _ (.inr (.inr (.inr (.inr ⟨e, he, rfl⟩)))) (S.lists e he), S.mem, S.nd, S.num, S.low, S.small⟩
theorem CSt.more {C : Addr} {H : Hp} {o d p : Addr} {E : List Ent} {n t t' : Nat} (S : CSt C H o d p E n t) (h : t ≤ t') : CSt C H o d p E n t' :=
  { S with small := ⟨Nat.le_trans S.small.1 h, Nat.le_trans S.small.2.1 h, fun e he => ⟨Nat.le_trans (S.small.2.2 e he).1 h, Nat.le_trans (S.small.2.2 e he).2 h⟩⟩ }
theorem sl_txt {H : Hp} {a c l : Addr} {xs : List Str} (s : SL H a c) (h : H l = some (.lst (xs.map V.str))) : l ≠ a ∧ l ≠ c := by
  obtain ⟨n, cs, h1, h2, _, h3, _⟩ := s
  constructor
  · refine ne_of h h1 fun z => ?_
    cases xs with
    | nil => cases z
    | cons x r => cases z
  · refine ne_of h h2 fun z => ?_
    cases xs with
    | nil => cases cs with
      | nil => exact absurd h3 (by decide)
      | cons y r' => cases z
    | cons x r => cases cs with
      | nil => exact absurd h3 (by decide)
      | cons y r' => cases z
theorem sl_dk {H : Hp} {a c l : Addr} {kvs : List (Key × V)} (s : SL H a c) (h : H l = some (.dK kvs)) : l ≠ a ∧ l ≠ c := by
  obtain ⟨n, cs, h1, h2, _, h3, _⟩ := s
  exact ⟨ne_of h h1 (by intro z; cases z), ne_of h h2 (by intro z; cases z)⟩
theorem sl_ins {H : Hp} {a c l C dx : Addr} {fs : List (Str × V)} (s : SL H a c) (h : H l = some (.ins C dx fs)) : l ≠ a ∧ l ≠ c := by
  obtain ⟨n, cs, h1, h2, _, h3, _⟩ := s
  exact ⟨ne_of h h1 (by intro z; cases z), ne_of h h2 (by intro z; cases z)⟩
/-- nothing of it is of the law's own state -/
theorem CSt.apart {C : Addr} {H : Hp} {o d p a c : Addr} {E : List Ent} {n t : Nat} (S : CSt C H o d p E n t) (s : SL H a c) {b : Addr} (h : CAt o d p E b) : b ≠ a ∧ b ≠ c := by
  rcases h with rfl | rfl | rfl | ⟨e, he, rfl⟩ | ⟨e, he, rfl⟩
  · obtain ⟨dx, e⟩ := S.ob
    exact sl_ins s e
  · exact sl_dk s S.pp
  · exact sl_dk s S.dd
  · exact sl_dk s (S.inner e he)
  · exact sl_txt s (S.lists e he)
theorem CSt.take {C : Addr} {H H' : Hp} {o d p a c : Addr} {E : List Ent} {n t : Nat} (S : CSt C H o d p E n t) (s : SL H a c) (e : ∀ b, b ≠ a → b ≠ c → H' b = H b) : CSt C H' o d p E n t :=
  S.keep fun b v hb hv => by
    have := S.apart s hb
    rw [e b this.1 this.2]; exact hv
theorem CSt.same {C : Addr} {H H' : Hp} {o d p : Addr} {E : List Ent} {n t : Nat} (S : CSt C H o d p E n t) (e : Same H H') : CSt C H' o d p E n t := S.keep fun b v _ hv => e b v hv
/-! ### entries by their numbers -/
theorem key_ent {E : List Ent} (g : Ent → V) : (E.map fun e => ((Sum.inl (e.i : Int) : Key), g e)).map (·.1) = (E.map (·.i)).map fun (i : Nat) => (Sum.inl (i : Int) : Key) := by
  rw [List.map_map, List.map_map]; rfl
theorem val_none {E : List Ent} (g : Ent → V) {i : Int} (h : ∀ e ∈ E, (e.i : Int) ≠ i) : valV (E.map fun e => ((Sum.inl (e.i : Int) : Key), g e)) (.inl i) = none := by
  induction E with
  | nil => rfl
  | cons e r ih =>
    rw [List.map_cons, valV_neg]
    · exact ih fun e' he => h e' (List.mem_cons_of_mem _ he)
    · intro z
      exact h e List.mem_cons_self (by injection z)
theorem val_dec {E : List Ent} (g : Ent → V) (nd : (E.map (·.i)).Nodup) (i : Int) : (∃ e ∈ E, (e.i : Int) = i ∧ valV (E.map fun e => ((Sum.inl (e.i : Int) : Key), g e)) (.inl i) = some (g e)) ∨ ((∀ e ∈ E, (e.i : Int) ≠ i) ∧ valV (E.map fun e => ((Sum.inl (e.i : Int) : Key), g e)) (.inl i) = none) := by
  by_cases h : ∃ e ∈ E, (e.i : Int) = i
  · obtain ⟨e, he, hi⟩ := h
    exact .inl ⟨e, he, hi, by rw [← hi]; exact val_ent g nd he⟩
  · have h' : ∀ e ∈ E, (e.i : Int) ≠ i := fun e he z => h ⟨e, he, z⟩
    exact .inr ⟨h', val_none g h'⟩
theorem ent_eq {E : List Ent} (nd : (E.map (·.i)).Nodup) : ∀ {e e' : Ent}, e ∈ E → e' ∈ E → e.i = e'.i → e = e' := by
  induction E with
  | nil => intro e e' h; simp at h
  | cons x r ih =>
    obtain ⟨n1, n2⟩ := List.nodup_cons.mp nd
    intro e e' h h' he
    rcases List.mem_cons.mp h with g | g
    · rcases List.mem_cons.mp h' with g' | g'
      · rw [g, g']
      · exact (n1 (List.mem_map.mpr ⟨e', g', by rw [← he, g]⟩)).elim
    · rcases List.mem_cons.mp h' with g' | g'
      · exact (n1 (List.mem_map.mpr ⟨e, g, by rw [he, g']⟩)).elim
      · exact ih n2 g g' he
/-- one entry changed -/
def setE (E : List Ent) (i : Nat) (f : Ent → Ent) : List Ent := E.map fun e => if e.i = i then f e else e
theorem setE_mem {E : List Ent} {i : Nat} {f : Ent → Ent} {e : Ent} (h : e ∈ setE E i f) : (∃ e0 ∈ E, e0.i = i ∧ e = f e0) ∨ (e ∈ E ∧ e.i ≠ i) := by
  obtain ⟨e0, h0, rfl⟩ := List.mem_map.mp h
  by_cases h1 : e0.i = i
  · rw [if_pos h1]; exact .inl ⟨e0, h0, h1, rfl⟩
  · rw [if_neg h1]; exact .inr ⟨h0, h1⟩
theorem putK_map {E : List Ent} {g g' : Ent → V} {i : Nat} {v : V} (h : ∃ e ∈ E, e.i = i) (h1 : ∀ e ∈ E, e.i = i → g' e = v) (h2 : ∀ e ∈ E, e.i ≠ i → g' e = g e) :
    putK (E.map fun e => ((Sum.inl (e.i : Int) : Key), g e)) (.inl (i : Int)) v = E.map fun e => ((Sum.inl (e.i : Int) : Key), g' e) := by
  unfold putK
  rw [if_pos, List.map_map]
  · apply List.map_congr_left
    intro e he
    show (if ((Sum.inl (e.i : Int) : Key)) = Sum.inl (i : Int) then _ else _) = _
    by_cases h' : e.i = i
    · rw [if_pos (by rw [h']), h1 e he h']
    · rw [if_neg (fun z => h' (by have : (e.i : Int) = (i : Int) := by injection z
                                  omega)), h2 e he h']
  · obtain ⟨e, he, hi⟩ := h
    exact List.any_eq_true.mpr ⟨_, List.mem_map.mpr ⟨e, he, rfl⟩, decide_eq_true (by rw [hi])⟩
theorem dropK_map {E : List Ent} {g : Ent → V} {i : Nat} : dropK (E.map fun e => ((Sum.inl (e.i : Int) : Key), g e)) (.inl (i : Int)) = (E.filter fun e => decide (e.i ≠ i)).map fun e => ((Sum.inl (e.i : Int) : Key), g e) := by
  unfold dropK
  rw [List.filter_map]
  congr 1
  apply List.filter_congr
  intro e _
  show decide ((Sum.inl (e.i : Int) : Key) ≠ Sum.inl (i : Int)) = _
  apply decide_eq_decide.mpr
  constructor
  · intro z h; exact z (by rw [h])
  · intro z h
    have : (e.i : Int) = (i : Int) := by injection h
    omega
/-- a key put into an inner dict -/
def kadd (ks : List Str) (x : Str) : List Str := if x ∈ ks then ks else ks ++ [x]
theorem inn_put (ks : List Str) (x : Str) : putK (inn ks) (.inr x) (.bl true) = inn (kadd ks x) := by
  have any : ((inn ks).any fun kv => decide (kv.1 = .inr x)) = decide (x ∈ ks) := by
    rw [Bool.eq_iff_iff, List.any_eq_true, decide_eq_true_eq]
    constructor
    · rintro ⟨kv, h, e⟩
      obtain ⟨y, hy, rfl⟩ := List.mem_map.mp h
      have e := of_decide_eq_true e
      have : y = x := by injection e
      rw [← this]; exact hy
    · intro h
      exact ⟨_, List.mem_map.mpr ⟨x, h, rfl⟩, decide_eq_true rfl⟩
  unfold putK kadd
  rw [any]
  by_cases h : x ∈ ks
  · rw [if_pos (decide_eq_true h), if_pos h, inn, List.map_map]
    apply List.map_congr_left
    intro y _
    show (if (Sum.inr y : Key) = Sum.inr x then ((Sum.inr y : Key), V.bl true) else (Sum.inr y, V.bl true)) = _
    split <;> rfl
  · rw [if_neg (by rw [decide_eq_false h]; exact Bool.false_ne_true), if_neg h, inn, inn, List.map_append]
    rfl
theorem kadd_mem {ks : List Str} {x y : Str} : y ∈ kadd ks x ↔ y ∈ ks ∨ y = x := by
  unfold kadd
  split
  · rename_i h
    exact ⟨.inl, fun z => z.elim id fun e => by rw [e]; exact h⟩
  · rw [List.mem_append, List.mem_singleton]
theorem kadd_len (ks : List Str) (x : Str) : (kadd ks x).length ≤ ks.length + 1 := by
  unfold kadd
  split
  · omega
  · simp
theorem CSt.di_ne {C : Addr} {H : Hp} {o d p : Addr} {E : List Ent} {n t : Nat} (S : CSt C H o d p E n t) {e : Ent} (he : e ∈ E) : e.di ≠ o ∧ e.di ≠ p ∧ e.di ≠ d := by
  obtain ⟨dx, ho⟩ := S.ob
  obtain ⟨n1, n2⟩ := List.nodup_cons.mp S.nd
  have m : e.di ∈ E.map (·.di) := List.mem_map.mpr ⟨e, he, rfl⟩
  refine ⟨ne_of (S.inner e he) ho (by intro z; cases z), fun z => n1 ?_, fun z => (List.nodup_cons.mp n2).1 ?_⟩
  · rw [← z]; exact List.mem_cons_of_mem _ m
  · rw [← z]; exact m
theorem CSt.li_ne {C : Addr} {H : Hp} {o d p : Addr} {E : List Ent} {n t : Nat} (S : CSt C H o d p E n t) {e : Ent} (he : e ∈ E) : e.li ≠ o ∧ e.li ≠ p ∧ e.li ≠ d ∧ ∀ e' ∈ E, e.li ≠ e'.di := by
  obtain ⟨dx, ho⟩ := S.ob
  have h := S.lists e he
  exact ⟨ne_of h ho (by intro z; cases z), ne_of h S.pp (by intro z; cases z), ne_of h S.dd (by intro z; cases z), fun e' he' => ne_of h (S.inner e' he') (by intro z; cases z)⟩
theorem CSt.three {C : Addr} {H : Hp} {o d p : Addr} {E : List Ent} {n t : Nat} (S : CSt C H o d p E n t) : o ≠ p ∧ o ≠ d ∧ p ≠ d := by
  obtain ⟨dx, ho⟩ := S.ob
  exact ⟨ne_of ho S.pp (by intro z; cases z), ne_of ho S.dd (by intro z; cases z), fun z => (List.nodup_cons.mp S.nd).1 (by rw [z]; exact List.mem_cons_self)⟩
/-- a claim more -/
theorem CSt.open_ {C : Addr} {H H' : Hp} {o d p l q dx : Addr} {E : List Ent} {n t : Nat} (S : CSt C H o d p E n t) (nl : H l = none) (nq : H q = none) (lq : l ≠ q)
    (k : ∀ b v, b ≠ o → b ≠ p → b ≠ d → H b = some v → H' b = some v) (ho : H' o = some (.ins C dx (flP ((n + 1 : Nat) : Int) d))) (hd : H' d = some (.dK (putK (outD E) (.inl ((n + 1 : Nat) : Int)) (.ref q))))
    (hp : H' p = some (.dK (putK (outL E) (.inl ((n + 1 : Nat) : Int)) (.ref l)))) (hl : H' l = some (.lst [])) (hq : H' q = some (.dK [])) : CSt C H' o d p (E ++ [⟨n + 1, q, [], l, []⟩]) (n + 1) (t + 1) := by
  have none' : ∀ g : Ent → V, valV (E.map fun e => ((Sum.inl (e.i : Int) : Key), g e)) (.inl ((n + 1 : Nat) : Int)) = none := fun g => val_none g fun e he => by have := S.low e he; omega
  obtain ⟨s1, s2, s3⟩ := S.small
  have last : ∀ {Q : Ent → Prop}, (∀ e ∈ E, Q e) → Q ⟨n + 1, q, [], l, []⟩ → ∀ e ∈ E ++ [⟨n + 1, q, [], l, []⟩], Q e := fun h1 h2 e he => by
    rcases List.mem_append.mp he with h | h
    · exact h1 e h
    · rw [List.mem_singleton.mp h]; exact h2
  refine ⟨⟨dx, ho⟩, ?_, ?_, last (fun e he => ?_) hq, last (fun e he => ?_) hl, last S.mem (by simp), ?_, ?_, last (fun e he => Nat.le_succ_of_le (S.low e he)) (Nat.le_refl _), by omega, by simp; omega, last (fun e he => ?_) (by simp)⟩
  · rw [hd]
    unfold outD
    rw [putK_new _ (none' fun e => .ref e.di), List.map_append]; rfl
  · rw [hp]
    unfold outL
    rw [putK_new _ (none' fun e => .ref e.li), List.map_append]; rfl
  · have := S.di_ne he
    exact k _ _ this.1 this.2.1 this.2.2 (S.inner e he)
  · have := S.li_ne he
    exact k _ _ this.1 this.2.1 this.2.2.1 (S.lists e he)
  · rw [List.map_append, ← List.cons_append, ← List.cons_append]
    refine nd_snoc S.nd fun z => ?_
    rcases List.mem_cons.mp z with z | z
    · have := S.pp
      rw [← z, nq] at this; cases this
    · rcases List.mem_cons.mp z with z | z
      · have := S.dd
        rw [← z, nq] at this; cases this
      · obtain ⟨e, he, z⟩ := List.mem_map.mp z
        have := S.inner e he
        rw [z, nq] at this; cases this
  · rw [List.map_append]
    refine nd_snoc S.num fun z => ?_
    obtain ⟨e, he, z⟩ := List.mem_map.mp z
    have := S.low e he
    have : e.i = n + 1 := z
    omega
  · have := s3 e he
    omega
/-- a pin more -/
theorem CSt.pin_ {C : Addr} {H H' : Hp} {o d p l : Addr} {E : List Ent} {n t : Nat} (S : CSt C H o d p E n t) {e0 : Ent} (h0 : e0 ∈ E) (x : Str) (nl : H l = none)
    (k : ∀ b v, b ≠ e0.di → b ≠ p → H b = some v → H' b = some v) (hi : H' e0.di = some (.dK (putK (inn e0.ks) (.inr x) (.bl true)))) (hp : H' p = some (.dK (putK (outL E) (.inl (e0.i : Int)) (.ref l)))) (hl : H' l = some (.lst ((e0.xs ++ [x]).map V.str))) :
    CSt C H' o d p (setE E e0.i fun e => { e with ks := kadd e.ks x, li := l, xs := e.xs ++ [x] }) n (t + 1) := by
  have only : ∀ e ∈ E, e.i = e0.i → e = e0 := fun e he h => ent_eq S.num he h0 h
  have di : (setE E e0.i fun e => { e with ks := kadd e.ks x, li := l, xs := e.xs ++ [x] }).map (·.di) = E.map (·.di) := by
    rw [setE, List.map_map]
    apply List.map_congr_left
    intro e _
    show (if e.i = e0.i then _ else e : Ent).di = _
    split <;> rfl
  have ii : (setE E e0.i fun e => { e with ks := kadd e.ks x, li := l, xs := e.xs ++ [x] }).map (·.i) = E.map (·.i) := by
    rw [setE, List.map_map]
    apply List.map_congr_left
    intro e _
    show (if e.i = e0.i then _ else e : Ent).i = _
    split <;> rfl
  obtain ⟨t1, t2, t3⟩ := S.three
  obtain ⟨s1, s2, s3⟩ := S.small
  have d0 := S.di_ne h0
  have ndi : ∀ e ∈ E, e.i ≠ e0.i → e.di ≠ e0.di := fun e he h z => by
    have := (List.nodup_cons.mp (List.nodup_cons.mp S.nd).2).2
    have inj : ∀ {L : List Ent}, (L.map (·.di)).Nodup → ∀ {e e' : Ent}, e ∈ L → e' ∈ L → e.di = e'.di → e = e' := by
      intro L
      induction L with
      | nil => intro _ e e' h; simp at h
      | cons y r ih =>
        intro nd e e' h h' q
        obtain ⟨n1, n2⟩ := List.nodup_cons.mp nd
        rcases List.mem_cons.mp h with g | g
        · rcases List.mem_cons.mp h' with g' | g'
          · rw [g, g']
          · exact (n1 (List.mem_map.mpr ⟨e', g', by rw [← q, g]⟩)).elim
        · rcases List.mem_cons.mp h' with g' | g'
          · exact (n1 (List.mem_map.mpr ⟨e, g, by rw [q, g']⟩)).elim
          · exact ih n2 g g' q
    exact h (by rw [inj this he h0 z])
  refine ⟨let ⟨dx, e⟩ := S.ob; ⟨dx, k _ _ d0.1.symm t1 e⟩, ?_, ?_, fun e he => ?_, fun e he => ?_, fun e he => ?_, by rw [di]; exact S.nd, by rw [ii]; exact S.num, fun e he => ?_, by omega, by rw [setE, List.length_map]; omega, fun e he => ?_⟩
  · have : outD (setE E e0.i fun e => { e with ks := kadd e.ks x, li := l, xs := e.xs ++ [x] }) = outD E := by
      rw [outD, outD, setE, List.map_map]
      apply List.map_congr_left
      intro e _
      show (Sum.inl ((if e.i = e0.i then _ else e : Ent).i : Int), V.ref (if e.i = e0.i then _ else e : Ent).di) = _
      split <;> rfl
    rw [this]
    exact k _ _ d0.2.2.symm t3.symm S.dd
  · rw [hp, outL, outL, setE, List.map_map]
    have := putK_map (E := E) (g := fun e => V.ref e.li) (g' := fun e => V.ref (if e.i = e0.i then l else e.li)) (i := e0.i) (v := .ref l) ⟨e0, h0, rfl⟩ (fun e _ h => by rw [if_pos h]) (fun e _ h => by rw [if_neg h])
    rw [this]
    congr 2
    apply List.map_congr_left
    intro e _
    show _ = ((Sum.inl ((if e.i = e0.i then _ else e : Ent).i : Int) : Key), V.ref (if e.i = e0.i then _ else e : Ent).li)
    split <;> rfl
  · rcases setE_mem he with ⟨e1, h1, h2, rfl⟩ | ⟨h1, h2⟩
    · obtain rfl := only e1 h1 h2
      show H' e1.di = some (.dK (inn (kadd e1.ks x)))
      rw [hi, inn_put]
    · exact k _ _ (ndi e h1 h2) (S.di_ne h1).2.1 (S.inner e h1)
  · rcases setE_mem he with ⟨e1, h1, h2, rfl⟩ | ⟨h1, h2⟩
    · obtain rfl := only e1 h1 h2
      exact hl
    · have := S.li_ne h1
      exact k _ _ (this.2.2.2 e0 h0) this.2.1 (S.lists e h1)
  · rcases setE_mem he with ⟨e1, h1, h2, rfl⟩ | ⟨h1, h2⟩
    · intro y
      show y ∈ kadd e1.ks x ↔ y ∈ e1.xs ++ [x]
      rw [kadd_mem, S.mem e1 h1 y, List.mem_append, List.mem_singleton]
    · exact S.mem e h1
  · rcases setE_mem he with ⟨e1, h1, h2, rfl⟩ | ⟨h1, h2⟩
    · exact S.low e1 h1
    · exact S.low e h1
  · rcases setE_mem he with ⟨e1, h1, h2, rfl⟩ | ⟨h1, h2⟩
    · have := s3 e1 h1
      have := kadd_len e1.ks x
      refine ⟨?_, ?_⟩
      · show (kadd e1.ks x).length ≤ t + 1
        omega
      · show (e1.xs ++ [x]).length ≤ t + 1
        rw [List.length_append, List.length_singleton]
        omega
    · have := s3 e h1
      omega
/-- a claim less -/
theorem CSt.end_ {C : Addr} {H H' : Hp} {o d p : Addr} {E : List Ent} {n t i : Nat} (S : CSt C H o d p E n t)
    (k : ∀ b v, b ≠ d → b ≠ p → H b = some v → H' b = some v) (hd : H' d = some (.dK (dropK (outD E) (.inl (i : Int))))) (hp : H' p = some (.dK (dropK (outL E) (.inl (i : Int))))) : CSt C H' o d p (E.filter fun e => decide (e.i ≠ i)) n (t + 1) := by
  obtain ⟨t1, t2, t3⟩ := S.three
  obtain ⟨s1, s2, s3⟩ := S.small
  have sub : ∀ e ∈ E.filter (fun e => decide (e.i ≠ i)), e ∈ E := fun e he => (List.mem_filter.mp he).1
  have sl : (E.filter fun e => decide (e.i ≠ i)).Sublist E := List.filter_sublist
  refine ⟨let ⟨dx, e⟩ := S.ob; ⟨dx, k _ _ t2 t1 e⟩, ?_, ?_, fun e he => ?_, fun e he => ?_, fun e he => S.mem e (sub e he), ?_, (sl.map _).nodup S.num, fun e he => S.low e (sub e he), by omega, ?_, fun e he => ?_⟩
  · rw [hd, outD, dropK_map]; rfl
  · rw [hp, outL, dropK_map]; rfl
  · have := S.di_ne (sub e he)
    exact k _ _ this.2.2 this.2.1 (S.inner e (sub e he))
  · have := S.li_ne (sub e he)
    exact k _ _ this.2.2.1 this.2.1 (S.lists e (sub e he))
  · exact (((sl.map (·.di)).cons₂ d).cons₂ p).nodup S.nd
  · have := List.length_filter_le (fun e => decide (e.i ≠ i)) E
    omega
  · have := s3 e (sub e he)
    omega
end LW
namespace LW
open PySem PySem.Spec PyProof.Rows L2 GxR
abbrev s_law_claim_step : Stmt := topS 9
abbrev N_law_claim_step : List Str := ["state", "claims", "pins", "count", "kind", "claim", "address"]
abbrev P_law_claim_step : List Str := ["state", "claims", "pins", "count"]
theorem sc_law_claim_step : FnScope N_law_claim_step P_law_claim_step (defScope s_law_claim_step) := ⟨rfl, rfl, rfl, by decide +kernel, rfl, by decide +kernel, by decide +kernel⟩
/-- what the step may change -/
def CF (a c o d p : Addr) (E : List Ent) (b : Addr) : Prop := b = a ∨ b = c ∨ b = o ∨ b = p ∨ b = d ∨ ∃ e ∈ E, b = e.di
/-- the letters of the pins -/
def letters5 : List Nat := [97, 98, 99, 100, 101]
def EOk (E : List Ent) : Prop := ∀ e ∈ E, ∀ x ∈ e.xs, ∃ z ∈ letters5, x = ⟨#[z]⟩
def sp_law_claim_step (C : Addr) : Sp := fun vs H Q _ => ∃ (a c o d p : Addr) (E : List Ent) (n t : Nat), vs = [.ref a, .ref o, .ref p, .int (n : Int)] ∧ SL H a c ∧ CSt C H o d p E n t ∧ t < 45 ∧ EOk E ∧
  ∀ (E' : List Ent) (n' : Nat) H', SL H' a c → CSt C H' o d p E' n' (t + 1) → EOk E' → Kp (CF a c o d p E) H H' → (∀ e ∈ E', (∃ e0 ∈ E, e0.di = e.di) ∨ H e.di = none) → ((n' = n + 1 ∧ E'.length = E.length + 1) ∨ (n' = n ∧ E'.length ≤ E.length)) → Q (.bl true) H'
theorem dec_int (i j : Int) : decide (V.int i = V.int j) = decide (i = j) := decide_eq_decide.mpr ⟨fun h => by injection h, fun h => by rw [h]⟩
theorem SL.kept {H H' : Hp} {a c : Addr} (s : SL H a c) (k : ∀ b v, b = a ∨ b = c → H b = some v → H' b = some v) : SL H' a c := by
  obtain ⟨n, cs, h1, h2, r⟩ := s
  exact ⟨n, cs, k a _ (.inl rfl) h1, k c _ (.inr rfl) h2, r⟩
theorem and_two {c1 : Prop} [Decidable c1] {b2 : Bool} {U A B : Prop} (hU : (if b2 = true then A else B) → U) (hA : c1 → b2 = true → A) (hB : ¬ (c1 ∧ b2 = true) → B) : if decide c1 = true then U else (if false = true then A else B) := by
  by_cases h1 : c1
  · rw [if_pos (decide_eq_true h1)]
    refine hU ?_
    by_cases h2 : b2 = true
    · rw [if_pos h2]; exact hA h1 h2
    · rw [if_neg h2]; exact hB fun z => h2 z.2
  · rw [if_neg (by rw [decide_eq_false h1]; exact Bool.false_ne_true), if_neg Bool.false_ne_true]
    exact hB fun z => h1 z.1
theorem letters5_eq : (Str.ofString "abcde").cps.toList = letters5 := by decide +kernel
section
variable {P : Program} {w : World} {K : PySem.W.Frag} {mg : Str → Option Value} {base : Heap} {cC cU : Addr}
theorem ok_law_claim_step {f : Addr} {fd : FuncData} (F : Fun K "_law_claim_step" "_law_claim_step" s_law_claim_step f fd) (T : Tx K mg cC cU)
    (C_Claims_begin : CalM P w K mg base CX0 1 cC "begin" P_Claims_begin (sp_Claims_begin cC))
    (C_Claims_end : CalM P w K mg base CX0 1 cC "end" P_Claims_end (sp_Claims_end cC))
    (C_Claims_is_open : CalM P w K mg base CX0 1 cC "is_open" P_Claims_is_open (sp_Claims_is_open cC))
    (C_Claims_pin : CalM P w K mg base CX0 1 cC "pin" P_Claims_pin (sp_Claims_pin cC))
    (C__law_take : Cal P w K mg base CX0 1 "_law_take" P_law_take spTake) : FnOk P w K mg base CX0 2 f fd P_law_claim_step (sp_law_claim_step cC) := by
  refine F.ok sc_law_claim_step (fun vs H Q E h => ?_) (fun cdv A outer s H vs Q E hr h => ?_)
  · obtain ⟨_, _, _, _, _, _, _, _, rfl, _⟩ := h
    rfl
  · obtain ⟨a, c, o, d, p, E', n, t, rfl, s0, S0, ht, ok0, q⟩ := h
    have nd := sc_law_claim_step.nd
    have hu := hu_of hr
    refine ⟨_, pss_cons (ps_set (i := 4) nd rfl (Or.inl rfl) (pe_cal C__law_take hr (pa_cons (pv 0) (pa_cons pe_int pa_nil))))
  (pss_cons (ps_set (i := 5) nd rfl (Or.inl rfl) (pe_cal C__law_take hr (pa_cons (pv 0) (pa_cons (pe_op op_add (pv 3) pe_int) pa_nil))))
  (pss_cons (ps_if (pt_cmpR op_eq (pv 4) pe_int (nomark _))
    (pss_cons (ps_dput hu (pv 2) (pe_op op_add (pv 3) pe_int) (pe_lst pa_nil) rfl)
  (pss_one (ps_ret (pe_cmpR op_eq (pe_calM0 (pv 1) C_Claims_begin hr) (pe_op op_add (pv 3) pe_int) (nomark _)))))
    (pss_nil))
  (pss_cons (ps_if (PW.pt (pw_and (pt_cmpR op_eq (pv 4) pe_int (nomark _)) (pw_and1 (pt_cmp (pc_din hu (pv 5) (pv 2))))))
    (pss_cons (ps_set (i := 6) nd rfl (Or.inl rfl) (pe_ix ix_str pe_str (pe_cal C__law_take hr (pa_cons (pv 0) (pa_cons pe_int pa_nil))) (fun _ _ => rfl)))
  (pss_cons (ps_dput hu (pv 2) (pv 5) (pe_op op_cat (pe_dget hu (pv 2) (pv 5) (fun _ _ => rfl)) (pe_lst (pa_cons (pv 6) pa_nil))) rfl)
  (pss_one (ps_ret (pe_cmpR op_isN (pe_calM (pv 1) C_Claims_pin hr (pa_cons (pv 5) (pa_cons (pv 6) pa_nil))) pe_non (nomark _))))))
    (pss_nil))
  (pss_cons (ps_if (pt_cmpR op_eq (pv 4) pe_int (nomark _))
    (pss_cons (ps_if (pt_cmp (pc_din hu (pv 5) (pv 2)))
    (pss_one (ps_expr (pe_dpop1 (pv 2) (pv 5) ⟨rfl, rfl, rfl, rfl⟩)))
    (pss_nil))
  (pss_one (ps_ret (pe_cmpR op_isN (pe_calM (pv 1) C_Claims_end hr (pa_cons (pv 5) pa_nil)) pe_non (nomark _)))))
    (pss_nil))
  (pss_one (ps_ret (pe_cmpR op_eq (pe_callB call_repr_bl (by rfl) T.z_repr (by decide +kernel) (pa_cons (pe_calM (pv 1) C_Claims_is_open hr (pa_cons (pv 5) pa_nil)) pa_nil)) (pe_callB call_repr_bl (by rfl) T.z_repr (by decide +kernel) (pa_cons (pe_cmp (pc_din hu (pv 5) (pv 2))) pa_nil)) (nomark _)))))))), ?_⟩
    have sn := S0.small
    refine ⟨_, rfl, a, c, 4, rfl, s0, by decide, by decide, fun v1 H1 v10 v14 e1 s1 => ?_⟩
    have S1 := S0.take s0 e1
    have k1 : Kp (CF a c o d p E') H H1 := (kp_take s0 s1 e1).weak fun b h => h.elim .inl (fun h => .inr (.inl h))
    refine ⟨_, rfl, _, rfl, _, _, rfl, rfl, a, c, (n : Int) + 2, rfl, s1, by omega, by omega, fun v2 H2 v20 v2n e2 s2 => ?_⟩
    have S2 := S1.take s1 e2
    have k2 : Kp (CF a c o d p E') H H2 := k1.trans ((kp_take s1 s2 e2).weak fun b h => h.elim .inl (fun h => .inr (.inl h)))
    obtain ⟨cl, rfl, hcl⟩ := nat_of v20 v2n
    obtain ⟨dx, hob⟩ := S2.ob
    obtain ⟨op, od, pd⟩ := S2.three
    have Fo : CF a c o d p E' o := .inr (.inr (.inl rfl))
    have Fp : CF a c o d p E' p := .inr (.inr (.inr (.inl rfl)))
    have Fd : CF a c o d p E' d := .inr (.inr (.inr (.inr (.inl rfl))))
    have Fi : ∀ {e}, e ∈ E' → CF a c o d p E' e.di := fun h => .inr (.inr (.inr (.inr (.inr ⟨_, h, rfl⟩))))
    have len45 : ∀ {m : Nat}, m ≤ t → m < sizeLine := fun h => Nat.lt_of_le_of_lt h (Nat.lt_trans ht (by decide))
    have lD : (outD E').length = E'.length := List.length_map _
    have lL : (outL E').length = E'.length := List.length_map _
    have e1n : (n : Int) + 1 = ((n + 1 : Nat) : Int) := by omega
    refine ⟨.int v1, rfl, rfl, _, rfl, ?_⟩
    rw [dec_int]
    refine ite2 (fun h0 => ?_) (fun h0 => ?_)
    · -- a claim is opened
      refine ⟨Nat.zero_le _, fun l nl => ⟨_, rfl, _, rfl, _, _, rfl, rfl, p, _, rfl, DPut.k (k := .inl ((n : Int) + 1)) (by rw [upd_ne (ne_of_none S2.pp nl)]; exact S2.pp) (by rw [lL]; exact len45 sn.2.1), ?_⟩⟩
      rw [e1n]
      have ol : o ≠ l := ne_of_none hob nl
      have dl : d ≠ l := ne_of_none S2.dd nl
      have pl : p ≠ l := ne_of_none S2.pp nl
      have ho4 : (L2.upd (L2.upd H2 l (.lst [])) p (.dK (putK (outL E') (.inl ((n + 1 : Nat) : Int)) (.ref l)))) o = some (.ins cC dx (flP n d)) := by rw [upd_ne op, upd_ne ol]; exact hob
      have hd4 : (L2.upd (L2.upd H2 l (.lst [])) p (.dK (putK (outL E') (.inl ((n + 1 : Nat) : Int)) (.ref l)))) d = some (.dK (outD E')) := by rw [upd_ne pd.symm, upd_ne dl]; exact S2.dd
      refine ⟨_, rfl, o, dx, _, rfl, ho4, rfl, o, dx, d, n, outD E', rfl, ho4, hd4, by rw [lD]; exact len45 sn.2.1, fun r nr => ?_⟩
      have rp : r ≠ p := fun z => by rw [z, upd_same] at nr; cases nr
      have nr3 : (L2.upd H2 l (.lst [])) r = none := by rw [upd_ne rp] at nr; exact nr
      have rl : r ≠ l := fun z => by rw [z, upd_same] at nr3; cases nr3
      have nr2 : H2 r = none := by rw [upd_ne rl] at nr3; exact nr3
      have or_ : o ≠ r := ne_of_none hob nr2
      have dr : d ≠ r := ne_of_none S2.dd nr2
      have fin : ∀ H5 : Hp, (∀ b v, b ≠ o → b ≠ p → b ≠ d → H2 b = some v → H5 b = some v) → H5 o = some (.ins cC dx (flP ((n + 1 : Nat) : Int) d)) → H5 d = some (.dK (putK (outD E') (.inl ((n + 1 : Nat) : Int)) (.ref r))) →
          H5 p = some (.dK (putK (outL E') (.inl ((n + 1 : Nat) : Int)) (.ref l))) → H5 l = some (.lst []) → H5 r = some (.dK []) → Q (.bl true) H5 := by
        intro H5 k h1 h2 h3 h4 h5
        have kp : Kp (CF a c o d p E') H2 H5 := ⟨fun b v nb e => k b v (fun z => nb (z ▸ Fo)) (fun z => nb (z ▸ Fp)) (fun z => nb (z ▸ Fd)) e, fun b z => by
          cases e : H2 b with
          | none => rfl
          | some v =>
            by_cases g1 : b = o
            · rw [g1, h1] at z; cases z
            · by_cases g2 : b = p
              · rw [g2, h3] at z; cases z
              · by_cases g3 : b = d
                · rw [g3, h2] at z; cases z
                · rw [k b v g1 g2 g3 e] at z; cases z⟩
        refine q _ (n + 1) H5 (s2.kept fun b v hb e => ?_) (S2.open_ nl nr2 rl.symm k h1 h2 h3 h4 h5) (fun e he => ?_) (k2.trans kp) (fun e he => ?_) (.inl ⟨rfl, by simp⟩)
        · have := S2.apart s2 (b := o) (.inl rfl)
          have := S2.apart s2 (b := p) (.inr (.inl rfl))
          have := S2.apart s2 (b := d) (.inr (.inr (.inl rfl)))
          rcases hb with rfl | rfl
          · exact k _ _ (Ne.symm (by simp_all)) (Ne.symm (by simp_all)) (Ne.symm (by simp_all)) e
          · exact k _ _ (Ne.symm (by simp_all)) (Ne.symm (by simp_all)) (Ne.symm (by simp_all)) e
        · rcases List.mem_append.mp he with h | h
          · exact ok0 e h
          · rw [List.mem_singleton.mp h]; exact fun x hx => absurd hx (by simp)
        · rcases List.mem_append.mp he with h | h
          · exact .inl ⟨e, h, rfl⟩
          · rw [List.mem_singleton.mp h]; exact .inr (k2.free _ nr2)
      have hb : decide (V.int ((n + 1 : Nat) : Int) = V.int ((n : Int) + 1)) = true := by rw [e1n]; exact decide_eq_true rfl
      refine ⟨_, rfl, _, _, rfl, rfl, rfl, ?_⟩
      rw [hb]
      refine fin _ (fun b v g1 g2 g3 e => ?_) ?_ upd_same ?_ ?_ ?_
      · rw [upd_ne g3, upd_ne (ne_of_none e nr2), upd_ne g1, upd_ne g2, upd_ne (ne_of_none e nl)]; exact e
      · rw [upd_ne od, upd_ne or_, upd_same]
      · rw [upd_ne pd, upd_ne rp.symm, upd_ne op.symm, upd_same]
      · rw [upd_ne dl.symm, upd_ne rl.symm, upd_ne ol.symm, upd_ne pl.symm, upd_same]
      · rw [upd_ne dr.symm, upd_same]
    · refine ⟨.int v1, rfl, rfl, _, rfl, ?_⟩
      rw [dec_int]
      have vD := val_dec (fun e => V.ref e.di) S2.num (cl : Int)
      have vL := fun (e : Ent) (he : e ∈ E') => val_ent (fun e => V.ref e.li) S2.num he
      have nL := fun (h : ∀ e ∈ E', (e.i : Int) ≠ (cl : Int)) => val_none (fun e => V.ref e.li) h
      have gP : DGet H2 p (.int (cl : Int)) (valV (outL E') (.inl (cl : Int))) := DGet.k (k := .inl (cl : Int)) S2.pp
      -- nothing changes
      have stay : Q (.bl true) H2 := q E' n H2 s2 (S2.more (Nat.le_succ _)) ok0 k2 (fun e he => .inl ⟨e, he, rfl⟩) (.inr ⟨rfl, Nat.le_refl _⟩)
      refine and_two (b2 := (valV (outL E') (.inl (cl : Int))).isSome) (fun z => ⟨_, rfl, _, rfl, p, _, rfl, gP, _, rfl, z⟩) (fun h1 h2 => ?_) (fun h12 => ?_)
      · -- a pin
        rcases vD with ⟨e0, he0, hi0, hv0⟩ | ⟨hno, hv0⟩
        · obtain rfl : e0.i = cl := by omega
          refine ⟨_, rfl, a, c, 5, rfl, s2, by decide, by decide, fun v3 H3 v30 v35 e3 s3 => ?_⟩
          have S3 := S2.take s2 e3
          have k3 : Kp (CF a c o d p E') H H3 := k2.trans ((kp_take s2 s3 e3).weak fun b h => h.elim .inl (fun h => .inr (.inl h)))
          obtain ⟨z, rfl, hz⟩ := nat_of v30 v35
          have hzl : z < letters5.length := by show z < 5; omega
          have vl0 : valV (outL E') (.inl (e0.i : Int)) = some (.ref e0.li) := vL e0 he0
          refine ⟨_, _, letters5[z], rfl, rfl, by decide +kernel, by rw [letters5_eq]; exact atI_nat (List.getElem?_eq_getElem hzl), ?_⟩
          have sx := (sn.2.2 e0 he0).2
          refine ⟨_, rfl, _, rfl, p, .ref e0.li, rfl, by rw [← vl0]; exact DGet.k (k := .inl (e0.i : Int)) S3.pp, _, rfl, by show 1 ≤ sizeLine; decide, fun l1 n1 => ?_⟩
          have li1 : e0.li ≠ l1 := ne_of_none (S3.lists e0 he0) n1
          refine ⟨e0.li, l1, e0.xs.map V.str, _, rfl, rfl, by rw [upd_ne li1]; exact S3.lists e0 he0, upd_same, ?_, fun l2 n2 => ?_⟩
          · rw [List.length_map]
            exact Nat.le_trans (show e0.xs.length + 1 ≤ 100 by omega) (by decide)
          have l21 : l2 ≠ l1 := fun z => by rw [z, upd_same] at n2; cases n2
          have n2' : H3 l2 = none := by rw [upd_ne l21] at n2; exact n2
          have pl1 : p ≠ l1 := ne_of_none S3.pp n1
          have pl2 : p ≠ l2 := ne_of_none S3.pp n2'
          refine ⟨_, rfl, _, rfl, p, _, rfl, DPut.k (k := .inl (e0.i : Int)) (by rw [upd_ne pl2, upd_ne pl1]; exact S3.pp) (by rw [lL]; exact len45 sn.2.1), ?_⟩
          have dne := S3.di_ne he0
          have old : ∀ b v, b ≠ p → H3 b = some v → (L2.upd (L2.upd (L2.upd H3 l1 (.lst [.str ⟨#[letters5[z]]⟩])) l2 (.lst (e0.xs.map V.str ++ [.str ⟨#[letters5[z]]⟩]))) p (.dK (putK (outL E') (.inl (e0.i : Int)) (.ref l2)))) b = some v := fun b v g e => by
            rw [upd_ne g, upd_ne (ne_of_none e n2'), upd_ne (ne_of_none e n1)]; exact e
          obtain ⟨dx3, hob3⟩ := S3.ob
          refine ⟨_, rfl, o, dx3, _, rfl, old o _ op hob3, rfl, _, rfl, _, rfl, o, dx3, d, e0.di, n, e0.i, ⟨#[letters5[z]]⟩, outD E', inn e0.ks, rfl, old o _ op hob3, old d _ pd.symm S3.dd, hv0, old _ _ dne.2.1 (S3.inner e0 he0), ?_, ?_⟩
          · rw [inn, List.length_map]; exact len45 (sn.2.2 e0 he0).1
          refine ⟨rfl, ?_⟩
          show Q (.bl true) _
          have np2 : l2 ≠ e0.di := (ne_of_none (S3.inner e0 he0) n2').symm
          refine q _ n _ ?_ (S3.pin_ he0 ⟨#[letters5[z]]⟩ n2' (fun b v g1 g2 e => by rw [upd_ne g1]; exact old b v g2 e) upd_same (by rw [upd_ne dne.2.1.symm, upd_same]) (by rw [upd_ne np2, upd_ne pl2.symm, upd_same, List.map_append]; rfl)) (fun e he => ?_) (k3.trans ⟨fun b v nb e => ?_, fun b z => ?_⟩) (fun e he => ?_) (.inr ⟨rfl, by rw [setE, List.length_map]; exact Nat.le_refl _⟩)
          · refine s3.kept fun b v hb e => ?_
            have a1 := S3.apart s3 (b := p) (.inr (.inl rfl))
            have a2 := S3.apart s3 (b := e0.di) (.inr (.inr (.inr (.inl ⟨e0, he0, rfl⟩))))
            rcases hb with rfl | rfl
            · rw [upd_ne a2.1.symm]; exact old _ _ a1.1.symm e
            · rw [upd_ne a2.2.symm]; exact old _ _ a1.2.symm e
          · rcases setE_mem he with ⟨e1, g1, g2, rfl⟩ | ⟨g1, g2⟩
            · intro x hx
              rcases List.mem_append.mp hx with h | h
              · exact ok0 e1 g1 x h
              · exact ⟨letters5[z], List.getElem_mem hzl, List.mem_singleton.mp h⟩
            · exact ok0 e g1
          · rw [upd_ne (show b ≠ e0.di from fun z => nb (z ▸ Fi he0))]
            exact old b v (fun z => nb (z ▸ Fp)) e
          · cases e : H3 b with
            | none => rfl
            | some v =>
              by_cases g1 : b = e0.di
              · rw [g1, upd_same] at z; cases z
              · by_cases g2 : b = p
                · rw [upd_ne g1, g2, upd_same] at z; cases z
                · rw [upd_ne g1, old b v g2 e] at z; cases z
          · rcases setE_mem he with ⟨e1, g1, g2, rfl⟩ | ⟨g1, g2⟩
            · exact .inl ⟨e1, g1, rfl⟩
            · exact .inl ⟨e, g1, rfl⟩
        · have vl0 : valV (outL E') (.inl (cl : Int)) = none := nL hno
          rw [vl0] at h2; cases h2
      · refine ⟨.int v1, rfl, rfl, _, rfl, ?_⟩
        rw [dec_int]
        refine ite2 (fun h2 => ?_) (fun h2 => ?_)
        · -- a claim is ended
          refine ⟨_, rfl, _, rfl, p, _, rfl, gP, _, rfl, ?_⟩
          rcases vD with ⟨e0, he0, hi0, hv0⟩ | ⟨hno, hv0⟩
          · obtain rfl : e0.i = cl := by omega
            have vl0 : valV (outL E') (.inl (e0.i : Int)) = some (.ref e0.li) := vL e0 he0
            rw [vl0]
            refine iteT ⟨_, rfl, p, rfl, .inl ⟨_, .inl S2.pp⟩, _, rfl, outL E', .inl (e0.i : Int), _, S2.pp, rfl, vl0, ?_⟩
            have ho3 : (L2.upd H2 p (.dK (dropK (outL E') (.inl (e0.i : Int))))) o = some (.ins cC dx (flP n d)) := by rw [upd_ne op]; exact hob
            have hd3 : (L2.upd H2 p (.dK (dropK (outL E') (.inl (e0.i : Int))))) d = some (.dK (outD E')) := by rw [upd_ne pd.symm]; exact S2.dd
            refine ⟨_, rfl, o, dx, _, rfl, ho3, rfl, _, rfl, o, dx, d, n, e0.i, outD E', rfl, ho3, hd3, fun v hv => ⟨rfl, ?_⟩, fun hn => ?_⟩
            · show Q (.bl true) _
              refine q _ n _ ?_ (S2.end_ (i := e0.i) (fun b v g1 g2 e => by rw [upd_ne g1, upd_ne g2]; exact e) upd_same (by rw [upd_ne pd, upd_same])) (fun e he => ok0 e (List.mem_filter.mp he).1) (k2.trans ⟨fun b v nb e => ?_, fun b z => ?_⟩) (fun e he => .inl ⟨e, (List.mem_filter.mp he).1, rfl⟩) (.inr ⟨rfl, List.length_filter_le _ _⟩)
              · refine s2.kept fun b v hb e => ?_
                have a1 := S2.apart s2 (b := p) (.inr (.inl rfl))
                have a2 := S2.apart s2 (b := d) (.inr (.inr (.inl rfl)))
                rcases hb with rfl | rfl
                · rw [upd_ne a2.1.symm, upd_ne a1.1.symm]; exact e
                · rw [upd_ne a2.2.symm, upd_ne a1.2.symm]; exact e
              · rw [upd_ne (show b ≠ d from fun z => nb (z ▸ Fd)), upd_ne (show b ≠ p from fun z => nb (z ▸ Fp))]; exact e
              · by_cases g1 : b = d
                · rw [g1, upd_same] at z; cases z
                · rw [upd_ne g1] at z
                  by_cases g2 : b = p
                  · rw [g2, upd_same] at z; cases z
                  · rw [upd_ne g2] at z; exact z
            · rw [show valV (outD E') (.inl (e0.i : Int)) = some (.ref e0.di) from hv0] at hn; cases hn
          · have vl0 : valV (outL E') (.inl (cl : Int)) = none := nL hno
            rw [vl0]
            refine iteF ⟨_, rfl, o, dx, _, rfl, hob, rfl, _, rfl, o, dx, d, n, cl, outD E', rfl, hob, S2.dd, fun v hv => ?_, fun _ => ⟨rfl, stay⟩⟩
            rw [show valV (outD E') (.inl (cl : Int)) = none from hv0] at hv; cases hv
        · -- is it open
          have same : (valV (outD E') (.inl (cl : Int))).isSome = (valV (outL E') (.inl (cl : Int))).isSome := by
            rcases vD with ⟨e0, he0, hi0, hv0⟩ | ⟨hno, hv0⟩
            · obtain rfl : e0.i = cl := by omega
              rw [show valV (outD E') (.inl (e0.i : Int)) = some (.ref e0.di) from hv0, show valV (outL E') (.inl (e0.i : Int)) = some (.ref e0.li) from vL e0 he0]
              rfl
            · rw [show valV (outD E') (.inl (cl : Int)) = none from hv0, show valV (outL E') (.inl (cl : Int)) = none from nL hno]
          refine ⟨_, rfl, o, dx, _, rfl, hob, rfl, _, rfl, o, dx, d, n, cl, outD E', rfl, hob, S2.dd, _, rfl, _, rfl, _, rfl, p, _, rfl, gP, _, rfl, rfl, ?_⟩
          rw [same, decide_eq_true rfl]
          exact stay
end
end LW
namespace LW
open PySem PySem.Spec PyProof.Rows L2 GxR
/-- the uploads' dict -/
def tx (U : List (Nat × Str)) : List (Key × V) := U.map fun e => (Sum.inl (e.1 : Int), V.str e.2)
theorem tx_len (U : List (Nat × Str)) : (tx U).length = U.length := List.length_map _
theorem tx_none {U : List (Nat × Str)} {i : Int} (h : ∀ e ∈ U, (e.1 : Int) ≠ i) : valV (tx U) (.inl i) = none := by
  induction U with
  | nil => rfl
  | cons e r ih =>
    rw [tx, List.map_cons, valV_neg]
    · exact ih fun e' he => h e' (List.mem_cons_of_mem _ he)
    · intro z
      exact h e List.mem_cons_self (by injection z)
theorem tx_at : ∀ {U : List (Nat × Str)} {e : Nat × Str}, (U.map (·.1)).Nodup → e ∈ U → valV (tx U) (.inl (e.1 : Int)) = some (.str e.2)
  | [], e, _, h => by simp at h
  | x :: U, e, nd, h => by
    obtain ⟨n1, n2⟩ := List.nodup_cons.mp nd
    rw [tx, List.map_cons]
    rcases List.mem_cons.mp h with g | g
    · rw [g]; exact valV_pos rfl
    · rw [valV_neg (fun z => n1 ?_)]
      · exact tx_at n2 g
      · have : (x.1 : Int) = (e.1 : Int) := by injection z
        exact List.mem_map.mpr ⟨e, g, show e.1 = x.1 by omega⟩
theorem tx_dec {U : List (Nat × Str)} (nd : (U.map (·.1)).Nodup) (i : Int) : (∃ e ∈ U, (e.1 : Int) = i ∧ valV (tx U) (.inl i) = some (.str e.2)) ∨ ((∀ e ∈ U, (e.1 : Int) ≠ i) ∧ valV (tx U) (.inl i) = none) := by
  by_cases h : ∃ e ∈ U, (e.1 : Int) = i
  · obtain ⟨e, he, hi⟩ := h
    exact .inl ⟨e, he, hi, by rw [← hi]; exact tx_at nd he⟩
  · have h' : ∀ e ∈ U, (e.1 : Int) ≠ i := fun e he z => h ⟨e, he, z⟩
    exact .inr ⟨h', tx_none h'⟩
theorem tx_drop (U : List (Nat × Str)) (i : Int) : dropK (tx U) (.inl i) = tx (U.filter fun e => decide ((e.1 : Int) ≠ i)) := by
  unfold dropK tx
  rw [List.filter_map]
  congr 1
  apply List.filter_congr
  intro e _
  show decide ((Sum.inl (e.1 : Int) : Key) ≠ Sum.inl i) = _
  apply decide_eq_decide.mpr
  constructor
  · intro z h; exact z (by rw [h])
  · intro z h; exact z (by injection h)
theorem tx_new {U : List (Nat × Str)} {m : Nat} (h : ∀ e ∈ U, e.1 ≤ m) (z : Str) : putK (tx U) (.inl ((m + 1 : Nat) : Int)) (.str z) = tx (U ++ [(m + 1, z)]) := by
  rw [putK_new _ (tx_none fun e he => by have := h e he; omega), tx, tx, List.map_append]; rfl
def setU (U : List (Nat × Str)) (i : Nat) (z : Str) : List (Nat × Str) := U.map fun e => if e.1 = i then (e.1, z) else e
theorem setU_fst (U : List (Nat × Str)) (i : Nat) (z : Str) : (setU U i z).map (·.1) = U.map (·.1) := by
  rw [setU, List.map_map]
  apply List.map_congr_left
  intro e _
  show (if e.1 = i then (e.1, z) else e).1 = e.1
  split <;> rfl
theorem tx_put {U : List (Nat × Str)} {e0 : Nat × Str} (h : e0 ∈ U) (z : Str) : putK (tx U) (.inl (e0.1 : Int)) (.str z) = tx (setU U e0.1 z) := by
  unfold putK
  rw [if_pos, tx, tx, setU, List.map_map, List.map_map]
  · apply List.map_congr_left
    intro e he
    show (if ((Sum.inl (e.1 : Int) : Key)) = Sum.inl (e0.1 : Int) then _ else _) = ((Sum.inl ((if e.1 = e0.1 then (e.1, z) else e : Nat × Str).1 : Int) : Key), V.str (if e.1 = e0.1 then (e.1, z) else e : Nat × Str).2)
    by_cases h' : e.1 = e0.1
    · rw [if_pos (by rw [h']), if_pos h']
    · rw [if_neg (fun z => h' (by have : (e.1 : Int) = (e0.1 : Int) := by injection z
                                  omega)), if_neg h']
  · exact List.any_eq_true.mpr ⟨_, List.mem_map.mpr ⟨e0, h, rfl⟩, decide_eq_true rfl⟩
/-- the uploads at u and the law's texts at q tell the same -/
structure USt (C : Addr) (H : Hp) (u t q : Addr) (U : List (Nat × Str)) (m r : Nat) : Prop where
  ob : ∃ dx, H u = some (.ins C dx (flT m t))
  tt : H t = some (.dK (tx U))
  qq : H q = some (.dK (tx U))
  ne : t ≠ q
  low : ∀ e ∈ U, e.1 ≤ m ∧ e.2.length ≤ 4 * r
  nd : (U.map (·.1)).Nodup
  small : m ≤ r ∧ U.length ≤ r
theorem USt.keep {C : Addr} {H H' : Hp} {u t q : Addr} {U : List (Nat × Str)} {m r : Nat} (S : USt C H u t q U m r) (k : ∀ b v, b = u ∨ b = t ∨ b = q → H b = some v → H' b = some v) : USt C H' u t q U m r :=
  { S with ob := let ⟨dx, e⟩ := S.ob; ⟨dx, k _ _ (.inl rfl) e⟩, tt := k _ _ (.inr (.inl rfl)) S.tt, qq := k _ _ (.inr (.inr rfl)) S.qq }
theorem USt.more {C : Addr} {H : Hp} {u t q : Addr} {U : List (Nat × Str)} {m r r' : Nat} (S : USt C H u t q U m r) (h : r ≤ r') : USt C H u t q U m r' :=
  { S with small := ⟨Nat.le_trans S.small.1 h, Nat.le_trans S.small.2 h⟩, low := fun e he => ⟨(S.low e he).1, Nat.le_trans (S.low e he).2 (Nat.mul_le_mul_left 4 h)⟩ }
theorem USt.apart {C : Addr} {H : Hp} {u t q a c : Addr} {U : List (Nat × Str)} {m r : Nat} (S : USt C H u t q U m r) (s : SL H a c) {b : Addr} (h : b = u ∨ b = t ∨ b = q) : b ≠ a ∧ b ≠ c := by
  rcases h with rfl | rfl | rfl
  · obtain ⟨dx, e⟩ := S.ob
    exact sl_ins s e
  · exact sl_dk s S.tt
  · exact sl_dk s S.qq
theorem USt.take {C : Addr} {H H' : Hp} {u t q a c : Addr} {U : List (Nat × Str)} {m r : Nat} (S : USt C H u t q U m r) (s : SL H a c) (e : ∀ b, b ≠ a → b ≠ c → H' b = H b) : USt C H' u t q U m r :=
  S.keep fun b v hb hv => by
    have := S.apart s hb
    rw [e b this.1 this.2]; exact hv
theorem USt.mv {C : Addr} {H H' : Hp} {u t q a c : Addr} {U : List (Nat × Str)} {m r : Nat} (S : USt C H u t q U m r) (s : SL H a c) (e : Mv a c H H') : USt C H' u t q U m r :=
  S.keep fun b v hb hv => by
    have := S.apart s hb
    exact e.keep b v this.1 this.2 hv
abbrev s_law_upload_step : Stmt := topS 11
abbrev N_law_upload_step : List Str := ["state", "uploads", "texts", "count", "kind", "upload", "due", "number", "part", "at"]
abbrev P_law_upload_step : List Str := ["state", "uploads", "texts", "count"]
theorem sc_law_upload_step : FnScope N_law_upload_step P_law_upload_step (defScope s_law_upload_step) := ⟨rfl, rfl, rfl, by decide +kernel, rfl, by decide +kernel, by decide +kernel⟩
def UF (a c u t q : Addr) (b : Addr) : Prop := b = a ∨ b = c ∨ b = u ∨ b = t ∨ b = q
def sp_law_upload_step (C : Addr) : Sp := fun vs H Q _ => ∃ (a c u t q : Addr) (U : List (Nat × Str)) (m r : Nat), vs = [.ref a, .ref u, .ref q, .int (m : Int)] ∧ SL H a c ∧ USt C H u t q U m r ∧ r < 45 ∧
  ∀ (t' : Addr) (U' : List (Nat × Str)) (m' : Nat) H', SL H' a c → USt C H' u t' q U' m' (r + 1) → Kp (UF a c u t q) H H' → (t' = t ∨ H t' = none) → ((m' = m + 1 ∧ U'.length = U.length + 1) ∨ (m' = m ∧ U'.length ≤ U.length)) → Q (.bl true) H'
theorem and_heap {c1 : Prop} [Decidable c1] {U : Prop} {A B : Hp → Prop} {H2 : Hp} (R : Hp → Prop) (tail : ∀ Hx, R Hx → B Hx) (h2 : R H2) (hU : c1 → (∀ Hx, R Hx → B Hx) → U) : if decide c1 = true then U else (if false = true then A H2 else B H2) := by
  by_cases h1 : c1
  · rw [if_pos (decide_eq_true h1)]; exact hU h1 tail
  · rw [if_neg (by rw [decide_eq_false h1]; exact Bool.false_ne_true), if_neg Bool.false_ne_true]; exact tail H2 h2
section
variable {P : Program} {w : World} {K : PySem.W.Frag} {mg : Str → Option Value} {base : Heap} {cC cU : Addr}
theorem ok_law_upload_step {f : Addr} {fd : FuncData} (F : Fun K "_law_upload_step" "_law_upload_step" s_law_upload_step f fd) (T : Tx K mg cC cU)
    (C_Uploads_add_part : CalM P w K mg base CX0 1 cU "add_part" P_Uploads_add_part (sp_Uploads_add_part cU))
    (C_Uploads_begin : CalM P w K mg base CX0 1 cU "begin" P_Uploads_begin (sp_Uploads_begin cU))
    (C_Uploads_finish : CalM P w K mg base CX0 1 cU "finish" P_Uploads_finish (sp_Uploads_finish cU))
    (C_Uploads_forget : CalM P w K mg base CX0 1 cU "forget" P_Uploads_forget (sp_Uploads_forget cU))
    (C__law_take : Cal P w K mg base CX0 1 "_law_take" P_law_take spTake)
    (C__law_text : Cal P w K mg base CX0 2 "_law_text" P_law_text spText) : FnOk P w K mg base CX0 3 f fd P_law_upload_step (sp_law_upload_step cU) := by
  refine F.ok sc_law_upload_step (fun vs H Q E h => ?_) (fun cdv A outer s H vs Q E hr h => ?_)
  · obtain ⟨_, _, _, _, _, _, _, _, rfl, _⟩ := h
    rfl
  · obtain ⟨a, c, u, t, q, U, m, r, rfl, s0, U0, hr45, k⟩ := h
    have nd := sc_law_upload_step.nd
    have hu := hu_of hr
    refine ⟨_, pss_cons (ps_set (i := 4) nd rfl (Or.inl rfl) (pe_cal C__law_take hr (pa_cons (pv 0) (pa_cons pe_int pa_nil))))
  (pss_cons (ps_set (i := 5) nd rfl (Or.inl rfl) (pe_cal C__law_take hr (pa_cons (pv 0) (pa_cons (pe_op op_add (pv 3) pe_int) pa_nil))))
  (pss_cons (ps_if (pt_cmpR op_eq (pv 4) pe_int (nomark _))
    (pss_cons (ps_dput hu (pv 2) (pe_op op_add (pv 3) pe_int) pe_str rfl)
  (pss_one (ps_ret (pe_cmpR op_eq (pe_calM0 (pv 1) C_Uploads_begin hr) (pe_op op_add (pv 3) pe_int) (nomark _)))))
    (pss_nil))
  (pss_cons (ps_if (pt_cmpR op_eq (pv 4) pe_int (nomark _))
    (pss_cons (ps_set (i := 6) nd rfl (Or.inl rfl) (pe_dget1 hu (pv 2) (pv 5) ⟨rfl, rfl, rfl, rfl⟩))
  (pss_cons (ps_if (pt_cmp (pc_din hu (pv 5) (pv 2)))
    (pss_one (ps_expr (pe_dpop1 (pv 2) (pv 5) ⟨rfl, rfl, rfl, rfl⟩)))
    (pss_nil))
  (pss_one (ps_ret (pe_cmpR op_eq (pe_calM (pv 1) C_Uploads_finish hr (pa_cons (pv 5) pa_nil)) (pv 6) (nomark _))))))
    (pss_nil))
  (pss_cons (ps_if (PW.pt (pw_and (pt_cmpR op_eq (pv 4) pe_int (nomark _)) (pw_and1 (pt_cmpR op_eq (pe_cal C__law_take hr (pa_cons (pv 0) (pa_cons pe_int pa_nil))) pe_int (nomark _)))))
    (pss_cons (ps_for PassesOwn.never rfl (pi_list (pe_callB (call_sortedDI rfl) (by rfl) T.z_sorted (by decide +kernel) (pa_cons (pv 2) pa_nil))) (pg_name (i := 7) nd rfl (Or.inl rfl))
    (pss_one (ps_expr (pe_dpop1 (pv 2) (pv 7) ⟨rfl, rfl, rfl, rfl⟩))))
  (pss_one (ps_ret (pe_cmpR op_isN (pe_calM0 (pv 1) C_Uploads_forget hr) pe_non (nomark _)))))
    (pss_nil))
  (pss_cons (ps_set (i := 8) nd rfl (Or.inl rfl) (pe_cal C__law_text hr (pa_cons (pv 0) (pa_cons pe_int pa_nil))))
  (pss_cons (ps_set (i := 9) nd rfl (Or.inl rfl) (pe_cal C__law_take hr (pa_cons (pv 0) (pa_cons pe_int pa_nil))))
  (pss_cons (ps_if (PW.pt (pw_and (pt_cmp (pc_din hu (pv 5) (pv 2))) (pw_and1 (pt_cmpR op_gt (pe_cal C__law_take hr (pa_cons (pv 0) (pa_cons pe_int pa_nil))) pe_int (nomark _)))))
    (pss_one (ps_set (i := 9) nd rfl (Or.inl rfl) (pe_callB call_len_str (by rfl) T.z_len (by decide +kernel) (pa_cons (pe_dget hu (pv 2) (pv 5) (fun _ _ => rfl)) pa_nil))))
    (pss_nil))
  (pss_cons (ps_set (i := 6) nd rfl (Or.inl rfl) pe_non)
  (pss_cons (ps_if (pt_cmp (pc_din hu (pv 5) (pv 2)))
    (pss_cons (ps_if (pt_cmpR op_eq (pv 9) (pe_callB call_len_str (by rfl) T.z_len (by decide +kernel) (pa_cons (pe_dget hu (pv 2) (pv 5) (fun _ _ => rfl)) pa_nil)) (nomark _))
    (pss_one (ps_dput hu (pv 2) (pv 5) (pe_op op_add_str (pe_dget hu (pv 2) (pv 5) (fun _ _ => rfl)) (pv 8)) rfl))
    (pss_nil))
  (pss_one (ps_set (i := 6) nd rfl (Or.inl rfl) (pe_callB call_len_str (by rfl) T.z_len (by decide +kernel) (pa_cons (pe_dget hu (pv 2) (pv 5) (fun _ _ => rfl)) pa_nil)))))
    (pss_nil))
  (pss_one (ps_ret (pe_cmpR op_eq (pe_calM (pv 1) C_Uploads_add_part hr (pa_cons (pv 5) (pa_cons (pv 9) (pa_cons (pv 8) pa_nil)))) (pv 6) (nomark _))))))))))))), ?_⟩
    have hU : ∀ {b c' : Addr} {H1 H2 : Hp}, Kp (fun b => b = a ∨ b = c) H1 H2 → Kp (UF a c u t q) H1 H2 := fun h => h.weak fun b h => h.elim .inl (fun h => .inr (.inl h))
    obtain ⟨sm1, sm2⟩ := U0.small
    refine ⟨_, rfl, a, c, 8, rfl, s0, by decide, by decide, fun v1 H1 v10 v18 e1 s1 => ?_⟩
    have U1 := U0.take s0 e1
    have k1 : Kp (UF a c u t q) H H1 := hU (b := a) (c' := a) (kp_take s0 s1 e1)
    refine ⟨_, rfl, _, rfl, _, _, rfl, rfl, a, c, (m : Int) + 2, rfl, s1, by omega, by omega, fun v2 H2 v20 v2n e2 s2 => ?_⟩
    have U2 := U1.take s1 e2
    have k2 : Kp (UF a c u t q) H H2 := k1.trans (hU (b := a) (c' := a) (kp_take s1 s2 e2))
    obtain ⟨up, rfl, hup⟩ := nat_of v20 v2n
    obtain ⟨dx, hob⟩ := U2.ob
    have ut : u ≠ t := ne_of hob U2.tt (by intro z; cases z)
    have uq : u ≠ q := ne_of hob U2.qq (by intro z; cases z)
    have tq := U2.ne
    have len45 : ∀ {n : Nat}, n ≤ r → n < sizeLine := fun h => Nat.lt_of_le_of_lt h (Nat.lt_trans hr45 (by decide))
    have e1n : (m : Int) + 1 = ((m + 1 : Nat) : Int) := by omega
    -- where only the dicts and the object have changed
    have end_ : ∀ {Hx Hy : Hp} {t' : Addr} {U' : List (Nat × Str)} {m' : Nat}, SL Hx a c → USt cU Hx u t q U m r → Kp (UF a c u t q) H Hx → (∀ b v, b ≠ u → b ≠ t → b ≠ q → Hx b = some v → Hy b = some v) → (∀ b, Hy b = none → Hx b = none) → USt cU Hy u t' q U' m' (r + 1) → (t' = t ∨ Hx t' = none) →
        ((m' = m + 1 ∧ U'.length = U.length + 1) ∨ (m' = m ∧ U'.length ≤ U.length)) → Q (.bl true) Hy := by
      intro Hx Hy t' U' m' sx Ux kx g1 g2 Uy ht' hc
      refine k t' U' m' Hy (sx.kept fun b v hb e => ?_) Uy (kx.trans ⟨fun b v nb e => g1 b v (fun z => nb (.inr (.inr (.inl z)))) (fun z => nb (.inr (.inr (.inr (.inl z))))) (fun z => nb (.inr (.inr (.inr (.inr z))))) e, g2⟩) (ht'.imp id fun z => kx.free _ z) hc
      have a1 := Ux.apart sx (b := u) (.inl rfl)
      have a2 := Ux.apart sx (b := t) (.inr (.inl rfl))
      have a3 := Ux.apart sx (b := q) (.inr (.inr rfl))
      rcases hb with rfl | rfl
      · exact g1 _ _ a1.1.symm a2.1.symm a3.1.symm e
      · exact g1 _ _ a1.2.symm a2.2.symm a3.2.symm e
    refine ⟨.int v1, rfl, rfl, _, rfl, ?_⟩
    rw [dec_int]
    refine ite2 (fun h0 => ?_) (fun h0 => ?_)
    · -- an upload begins
      refine ⟨_, rfl, _, rfl, _, _, rfl, rfl, q, _, rfl, DPut.k (k := .inl ((m : Int) + 1)) U2.qq (by rw [tx_len]; exact len45 sm2), ?_⟩
      rw [e1n]
      have ho3 : (L2.upd H2 q (.dK (putK (tx U) (.inl ((m + 1 : Nat) : Int)) (.str "")))) u = some (.ins cU dx (flT m t)) := by rw [upd_ne uq]; exact hob
      have ht3 : (L2.upd H2 q (.dK (putK (tx U) (.inl ((m + 1 : Nat) : Int)) (.str "")))) t = some (.dK (tx U)) := by rw [upd_ne tq]; exact U2.tt
      refine ⟨_, rfl, u, dx, _, rfl, ho3, rfl, u, dx, t, m, tx U, rfl, ho3, ht3, by rw [tx_len]; exact len45 sm2, ?_⟩
      have hb : decide (V.int ((m + 1 : Nat) : Int) = V.int ((m : Int) + 1)) = true := by rw [e1n]; exact decide_eq_true rfl
      refine ⟨_, rfl, _, _, rfl, rfl, rfl, ?_⟩
      rw [hb]
      have en := tx_new (fun e he => (U2.low e he).1) ("" : Str) (m := m)
      refine end_ s2 U2 k2 (fun b v g1 g2 g3 e => by rw [upd_ne g2, upd_ne g1, upd_ne g3]; exact e) (fun b z => ?_) (t' := t) (U' := U ++ [(m + 1, ("" : Str))]) ⟨⟨dx, by rw [upd_ne ut, upd_same]⟩, by rw [upd_same, en], by rw [upd_ne tq.symm, upd_ne uq.symm, upd_same, en], tq, fun e he => ?_, ?_, by omega, by simp; omega⟩ (.inl rfl) (.inl ⟨rfl, by simp⟩)
      · by_cases g1 : b = t
        · rw [g1, upd_same] at z; cases z
        · rw [upd_ne g1] at z
          by_cases g2 : b = u
          · rw [g2, upd_same] at z; cases z
          · rw [upd_ne g2] at z
            by_cases g3 : b = q
            · rw [g3, upd_same] at z; cases z
            · rw [upd_ne g3] at z; exact z
      · rcases List.mem_append.mp he with h | h
        · have := U2.low e h
          omega
        · rw [List.mem_singleton.mp h]
          exact ⟨Nat.le_refl _, Nat.le_trans (show (Str.ofString "").length ≤ 0 by decide +kernel) (Nat.zero_le _)⟩
      · rw [List.map_append]
        refine nd_snoc U2.nd fun z => ?_
        obtain ⟨e, he, z⟩ := List.mem_map.mp z
        have := (U2.low e he).1
        have : e.1 = m + 1 := z
        omega
    · refine ⟨.int v1, rfl, rfl, _, rfl, ?_⟩
      rw [dec_int]
      refine ite2 (fun h1 => ?_) (fun h1 => ?_)
      · -- an upload is finished
        have gQ : DGet H2 q (.int (up : Int)) (valV (tx U) (.inl (up : Int))) := DGet.k (k := .inl (up : Int)) U2.qq
        refine ⟨_, rfl, q, rfl, .inl ⟨_, .inl U2.qq⟩, _, rfl, _, gQ, ?_⟩
        refine ⟨_, rfl, _, rfl, q, _, rfl, gQ, _, rfl, ?_⟩
        rcases tx_dec U2.nd (up : Int) with ⟨e0, he0, hi0, hv⟩ | ⟨hno, hv⟩
        · rw [hv]
          refine iteT ⟨_, rfl, q, rfl, .inl ⟨_, .inl U2.qq⟩, _, rfl, tx U, .inl (up : Int), _, U2.qq, rfl, hv, ?_⟩
          have ho3 : (L2.upd H2 q (.dK (dropK (tx U) (.inl (up : Int))))) u = some (.ins cU dx (flT m t)) := by rw [upd_ne uq]; exact hob
          have ht3 : (L2.upd H2 q (.dK (dropK (tx U) (.inl (up : Int))))) t = some (.dK (tx U)) := by rw [upd_ne tq]; exact U2.tt
          refine ⟨_, rfl, u, dx, _, rfl, ho3, rfl, _, rfl, u, dx, t, m, up, tx U, rfl, ho3, ht3, fun v hv' => ⟨_, rfl, ?_⟩, fun hn => by rw [hv] at hn; cases hn⟩
          rw [hv] at hv'
          cases hv'
          refine ⟨rfl, ?_⟩
          show Q (.bl (decide (V.str e0.2 = V.str e0.2))) _
          rw [decide_eq_true rfl]
          refine end_ s2 U2 k2 (fun b v g1 g2 g3 e => by rw [upd_ne g2, upd_ne g3]; exact e) (fun b z => ?_) (t' := t) (U' := U.filter fun e => decide ((e.1 : Int) ≠ up)) (m' := m) ⟨⟨dx, by rw [upd_ne ut]; exact ho3⟩, by rw [upd_same, tx_drop], by rw [upd_ne tq.symm, upd_same, tx_drop], tq, fun e he => ?_, (List.filter_sublist.map _).nodup U2.nd, by omega, ?_⟩ (.inl rfl) (.inr ⟨rfl, List.length_filter_le _ _⟩)
          · by_cases g1 : b = t
            · rw [g1, upd_same] at z; cases z
            · rw [upd_ne g1] at z
              by_cases g3 : b = q
              · rw [g3, upd_same] at z; cases z
              · rw [upd_ne g3] at z; exact z
          · have := U2.low e (List.mem_filter.mp he).1
            omega
          · have := List.length_filter_le (fun e : Nat × Str => decide ((e.1 : Int) ≠ up)) U
            omega
        · rw [hv]
          refine iteF ⟨_, rfl, u, dx, _, rfl, hob, rfl, _, rfl, u, dx, t, m, up, tx U, rfl, hob, U2.tt, (fun v hv' => by rw [hv] at hv'; cases hv'), fun hn => ⟨_, rfl, rfl, ?_⟩⟩
          show Q (.bl (decide (V.non = V.non))) H2
          rw [decide_eq_true rfl]
          exact end_ s2 U2 k2 (fun b v _ _ _ e => e) (fun b z => z) (U2.more (Nat.le_succ _)) (.inl rfl) (.inr ⟨rfl, Nat.le_refl _⟩)
      · refine ⟨.int v1, rfl, rfl, _, rfl, ?_⟩
        rw [dec_int]
        refine and_heap (fun Hx => SL Hx a c ∧ USt cU Hx u t q U m r ∧ Kp (UF a c u t q) H Hx) ?_ ⟨s2, U2, k2⟩ (fun h2 tail => ?_)
        · -- a part comes
          rintro Hx ⟨sx, Ux, kx⟩
          refine ⟨_, rfl, a, c, 4, rfl, sx, by decide, fun part H3 lp hp s3 m3 => ?_⟩
          have U3 := Ux.mv sx m3
          have k3 : Kp (UF a c u t q) H H3 := kx.trans (hU (b := a) (c' := a) (.mv m3 (.inl rfl) (.inr rfl)))
          refine ⟨_, rfl, a, c, 9, rfl, s3, by decide, by decide, fun v4 H4 v40 v49 e4 s4 => ?_⟩
          have U4 := U3.take s3 e4
          have k4 : Kp (UF a c u t q) H H4 := k3.trans (hU (b := a) (c' := a) (kp_take s3 s4 e4))
          obtain ⟨dx4, hob4⟩ := U4.ob
          have gQ4 : DGet H4 q (.int (up : Int)) (valV (tx U) (.inl (up : Int))) := DGet.k (k := .inl (up : Int)) U4.qq
          refine ⟨_, rfl, _, rfl, q, _, rfl, gQ4, _, rfl, ?_⟩
          rcases tx_dec U2.nd (up : Int) with ⟨e0, he0, hi0, hv⟩ | ⟨hno, hv⟩
          · obtain rfl : e0.1 = up := by omega
            rw [hv]
            refine iteT ⟨_, rfl, a, c, 3, rfl, s4, by decide, by decide, fun v5 H5 v50 v53 e5 s5 => ?_⟩
            have U5 := U4.take s4 e5
            have k5 : Kp (UF a c u t q) H H5 := k4.trans (hU (b := a) (c' := a) (kp_take s4 s5 e5))
            obtain ⟨dx5, hob5⟩ := U5.ob
            have gQ : DGet H5 q (.int (e0.1 : Int)) (some (.str e0.2)) := by rw [← hv]; exact DGet.k (k := .inl (e0.1 : Int)) U5.qq
            have l0 := (U5.low e0 he0).2
            have lz : e0.2.length + part.length ≤ 184 := by omega
            have lzp : (e0.2 ++ part).length = e0.2.length + part.length := by rw [TL.len_tl, TL.tl_append, List.length_append, ← TL.len_tl, ← TL.len_tl]
            have small : ∀ {n : Nat}, n ≤ 184 → n ≤ sizeLine := fun h => Nat.le_trans h (by decide)
            refine ⟨_, _, rfl, rfl, _, rfl, ?_⟩
            refine ite2 (fun h5 => ?_) (fun h5 => ?_)
            refine ⟨_, rfl, _, rfl, q, .str e0.2, rfl, gQ, e0.2, rfl, small (by omega), ?_⟩
            all_goals
              refine ⟨_, rfl, _, rfl, q, _, rfl, gQ, _, rfl, iteT ?_⟩
              refine ⟨_, rfl, _, rfl, _, rfl, q, .str e0.2, rfl, gQ, e0.2, rfl, small (by omega), rfl, _, rfl, ?_⟩
              rw [dec_int]
              refine ite2 (fun h6 => ?_) (fun h6 => ?_)
              · have h6 := of_decide_eq_true h6
                refine ⟨_, rfl, _, rfl, q, .str e0.2, rfl, gQ, _, rfl, e0.2, part, rfl, rfl, small (by omega), _, rfl, _, rfl, q, _, rfl, DPut.k (k := .inl (e0.1 : Int)) U5.qq (by rw [tx_len]; exact len45 sm2), ?_⟩
                have gz : DGet (L2.upd H5 q (.dK (putK (tx U) (.inl (e0.1 : Int)) (.str (e0.2 ++ part))))) q (.int (e0.1 : Int)) (some (.str (e0.2 ++ part))) := by
                  have := DGet.k (k := .inl (e0.1 : Int)) (show (L2.upd H5 q (.dK (putK (tx U) (.inl (e0.1 : Int)) (.str (e0.2 ++ part))))) q = _ from upd_same)
                  rw [valV_put, if_pos rfl] at this
                  exact this
                have ho6 : (L2.upd H5 q (.dK (putK (tx U) (.inl (e0.1 : Int)) (.str (e0.2 ++ part))))) u = some (.ins cU dx5 (flT m t)) := by rw [upd_ne uq]; exact hob5
                have ht6 : (L2.upd H5 q (.dK (putK (tx U) (.inl (e0.1 : Int)) (.str (e0.2 ++ part))))) t = some (.dK (tx U)) := by rw [upd_ne tq]; exact U5.tt
                refine ⟨_, rfl, _, rfl, q, .str (e0.2 ++ part), rfl, gz, e0.2 ++ part, rfl, small (by omega), ?_⟩
                refine ⟨_, rfl, u, dx5, _, rfl, ho6, rfl, _, rfl, _, rfl, _, rfl, u, dx5, t, m, e0.1, _, part, tx U, rfl, ho6, ht6, by rw [tx_len]; exact len45 sm2, (fun hn => by rw [hv] at hn; cases hn), fun v hv' => ⟨e0.2, ?_, small (by omega), fun h7 => ⟨_, rfl, rfl, ?_⟩, fun h7 => absurd h6 h7⟩⟩
                · rw [hv] at hv'; cases hv'; rfl
                show Q (.bl (decide (V.int ((e0.2 ++ part).length : Nat) = V.int ((e0.2 ++ part).length : Nat)))) _
                rw [decide_eq_true rfl]
                have ep := tx_put he0 (e0.2 ++ part)
                refine end_ s5 U5 k5 (fun b v g1 g2 g3 e => by rw [upd_ne g2, upd_ne g3]; exact e) (fun b z => ?_) (t' := t) (U' := setU U e0.1 (e0.2 ++ part)) (m' := m) ⟨⟨dx5, by rw [upd_ne ut]; exact ho6⟩, by rw [upd_same, ep], by rw [upd_ne tq.symm, upd_same, ep], tq, fun e he => ?_, by rw [setU_fst]; exact U2.nd, by omega, by rw [setU, List.length_map]; omega⟩ (.inl rfl) (.inr ⟨rfl, by rw [setU, List.length_map]; exact Nat.le_refl _⟩)
                · by_cases g1 : b = t
                  · rw [g1, upd_same] at z; cases z
                  · rw [upd_ne g1] at z
                    by_cases g3 : b = q
                    · rw [g3, upd_same] at z; cases z
                    · rw [upd_ne g3] at z; exact z
                · obtain ⟨e1, g1, rfl⟩ := List.mem_map.mp he
                  have := U5.low e1 g1
                  by_cases g2 : e1.1 = e0.1
                  · rw [if_pos g2]
                    refine ⟨this.1, ?_⟩
                    show (e0.2 ++ part).length ≤ 4 * (r + 1)
                    omega
                  · rw [if_neg g2]; omega
              · have h6 : ¬ _ := fun z => h6 (decide_eq_true z)
                refine ⟨_, rfl, _, rfl, q, .str e0.2, rfl, gQ, e0.2, rfl, small (by omega), ?_⟩
                refine ⟨_, rfl, u, dx5, _, rfl, hob5, rfl, _, rfl, _, rfl, _, rfl, u, dx5, t, m, e0.1, _, part, tx U, rfl, hob5, U5.tt, by rw [tx_len]; exact len45 sm2, (fun hn => by rw [hv] at hn; cases hn), fun v hv' => ⟨e0.2, ?_, small (by omega), fun h7 => absurd h7 h6, fun h7 => ⟨_, rfl, rfl, ?_⟩⟩⟩
                · rw [hv] at hv'; cases hv'; rfl
                show Q (.bl (decide (V.int (e0.2.length : Nat) = V.int (e0.2.length : Nat)))) _
                rw [decide_eq_true rfl]
                exact end_ s5 U5 k5 (fun b v _ _ _ e => e) (fun b z => z) (U5.more (Nat.le_succ _)) (.inl rfl) (.inr ⟨rfl, Nat.le_refl _⟩)
          · rw [hv]
            refine iteF ?_
            refine iteF ?_
            have gN : DGet H4 q (.int (up : Int)) none := by rw [← hv]; exact gQ4
            refine ⟨_, rfl, _, rfl, q, _, rfl, gN, _, rfl, iteF ?_⟩
            refine ⟨_, rfl, u, dx4, _, rfl, hob4, rfl, _, rfl, _, rfl, _, rfl, u, dx4, t, m, up, v4, part, tx U, rfl, hob4, U4.tt, by rw [tx_len]; exact len45 sm2, fun _ => ⟨_, rfl, rfl, ?_⟩, (fun v hv' => by rw [hv] at hv'; cases hv')⟩
            show Q (.bl (decide (V.non = V.non))) H4
            rw [decide_eq_true rfl]
            exact end_ s4 U4 k4 (fun b v _ _ _ e => e) (fun b z => z) (U4.more (Nat.le_succ _)) (.inl rfl) (.inr ⟨rfl, Nat.le_refl _⟩)
        · -- all uploads go
          refine ⟨_, rfl, a, c, 3, rfl, s2, by decide, by decide, fun v3 H3 v30 v33 e3 s3 => ⟨rfl, _, rfl, ?_⟩⟩
          have U3 := U2.take s2 e3
          have k3 : Kp (UF a c u t q) H H3 := k2.trans (hU (b := a) (c' := a) (kp_take s2 s3 e3))
          rw [dec_int]
          refine ite2 (fun h3 => ?_) (fun h3 => tail H3 ⟨s3, U3, k3⟩)
          obtain ⟨dx3, hob3⟩ := U3.ob
          have hks : (tx U).map (·.1) = (U.map fun e => (e.1 : Int)).map Sum.inl := by rw [tx, List.map_map, List.map_map]; rfl
          refine ⟨_, rfl, q, tx U, U.map fun e => (e.1 : Int), rfl, .inl U3.qq, hks, by rw [List.length_map]; omega, fun ys p hp hs np => ?_⟩
          have qp : q ≠ p := ne_of_none U3.qq np
          have tp : t ≠ p := ne_of_none U3.tt np
          have upn : u ≠ p := ne_of_none hob3 np
          have ndi : (U.map fun e => (e.1 : Int)).Nodup := by
            have : (U.map fun e => (e.1 : Int)) = (U.map (·.1)).map fun (n : Nat) => (n : Int) := by rw [List.map_map]; rfl
            rw [this]
            exact List.Pairwise.map _ (fun x y h z => h (by omega)) U3.nd
          have ndy : ys.Nodup := hp.nodup_iff.mpr ndi
          have rem : Nat → List (Nat × Str) := fun i => U.filter fun e => decide ((e.1 : Int) ∈ ys.drop i)
          refine ⟨p, rfl, ⟨_, SqL.of upd_same⟩, for_list (K := K) (a := p) (xs := ys.map V.int) (fun i σ H' => (∃ vn, σ = [some (.ref a), some (.ref u), some (.ref q), some (.int (m : Int)), some (.int v1), some (.int (up : Int)), none, vn, none, none]) ∧
            H' q = some (.dK (tx (U.filter fun e => decide ((e.1 : Int) ∈ ys.drop i)))) ∧ H' p = some (.lst (ys.map V.int)) ∧ (∀ b v, b ≠ q → H3 b = some v → H' b = some v) ∧ ∀ b, H' b = none → H3 b = none) ⟨⟨none, rfl⟩, ?_, upd_same, ?_, ?_⟩ (fun i σ H' _ h => SqL.of h.2.2.1) ?_ ?_⟩
          · rw [upd_ne qp, List.filter_eq_self.mpr]
            · exact U3.qq
            · intro e he
              exact decide_eq_true (by rw [List.drop_zero]; exact hp.mem_iff.mpr (List.mem_map.mpr ⟨e, he, rfl⟩))
          · intro b v hb e
            rw [upd_ne (ne_of_none e np)]; exact e
          · intro b z
            by_cases g : b = p
            · rw [g]; exact np
            · rw [upd_ne g] at z; exact z
          · rintro i y σ H' hi ⟨⟨vn, rfl⟩, hq', hp', ho', hn'⟩
            rw [List.getElem?_map] at hi
            cases ey : ys[i]? with
            | none => rw [ey] at hi; cases hi
            | some z =>
              rw [ey] at hi
              cases hi
              have hil : i < ys.length := (List.getElem?_eq_some_iff.mp ey).1
              have dr : ys.drop i = z :: ys.drop (i + 1) := by
                rw [List.drop_eq_getElem_cons hil]
                congr 1
                exact (List.getElem?_eq_some_iff.mp ey).2
              have zn : z ∉ ys.drop (i + 1) := by
                have := (List.drop_sublist i ys).nodup ndy
                rw [dr] at this
                exact (List.nodup_cons.mp this).1
              have zm : z ∈ ys := List.mem_of_getElem? ey
              obtain ⟨e1, he1, rfl⟩ := List.mem_map.mp (hp.mem_iff.mp zm)
              have ndr : ((U.filter fun e => decide ((e.1 : Int) ∈ ys.drop i)).map (·.1)).Nodup := (List.filter_sublist.map _).nodup U3.nd
              have hr1 : e1 ∈ U.filter fun e => decide ((e.1 : Int) ∈ ys.drop i) := List.mem_filter.mpr ⟨he1, decide_eq_true (by rw [dr]; exact List.mem_cons_self)⟩
              refine ⟨_, rfl, q, rfl, .inl ⟨_, .inl hq'⟩, _, rfl, _, .inl (e1.1 : Int), _, hq', rfl, tx_at ndr hr1, ?_⟩
              have qp' : p ≠ q := qp.symm
              refine ⟨⟨_, rfl⟩, ?_, by rw [upd_ne qp']; exact hp', fun b v hb e => by rw [upd_ne hb]; exact ho' b v hb e, fun b z => ?_⟩
              · rw [upd_same, tx_drop, List.filter_filter]
                congr 3
                apply List.filter_congr
                intro e _
                rw [dr, ← Bool.decide_and]
                apply decide_eq_decide.mpr
                rw [List.mem_cons]
                constructor
                · rintro ⟨h1, h2 | h2⟩
                  · exact absurd h2 h1
                  · exact h2
                · intro h1
                  exact ⟨fun z => zn (z ▸ h1), .inr h1⟩
              · by_cases g : b = q
                · rw [g, upd_same] at z; cases z
                · rw [upd_ne g] at z; exact hn' b z
          · rintro σ H' ⟨⟨vn, rfl⟩, hq', hp', ho', hn'⟩
            rw [List.length_map, List.drop_length, List.filter_eq_nil_iff.mpr (fun e _ => by simp)] at hq'
            have ho6 := ho' u _ uq hob3
            refine ⟨_, rfl, u, dx3, _, rfl, ho6, rfl, u, dx3, t, m, rfl, ho6, fun r1 nr => ⟨rfl, ?_⟩⟩
            show Q (.bl (decide (V.non = V.non))) _
            rw [decide_eq_true rfl]
            have ur : u ≠ r1 := ne_of_none ho6 nr
            have qr : q ≠ r1 := ne_of_none hq' nr
            refine end_ s3 U3 k3 (fun b v g1 g2 g3 e => by rw [upd_ne g1, upd_ne (ne_of_none (ho' b v g3 e) nr)]; exact ho' b v g3 e) (fun b z => ?_) (t' := r1) (U' := []) (m' := m) ⟨⟨dx3, upd_same⟩, by rw [upd_ne ur.symm, upd_same]; rfl, by rw [upd_ne uq.symm, upd_ne qr]; exact hq', qr.symm, by simp, by simp, by omega, by simp⟩ (.inr (hn' _ nr)) (.inr ⟨rfl, Nat.zero_le _⟩)
            by_cases g1 : b = u
            · rw [g1, upd_same] at z; cases z
            · rw [upd_ne g1] at z
              by_cases g2 : b = r1
              · rw [g2, upd_same] at z; cases z
              · rw [upd_ne g2] at z; exact hn' b z
end
end LW
namespace LW
open PySem PySem.Spec PyProof.Rows L2 GxR
abbrev s_law : Stmt := topS 12
abbrev N_law : List Str := ["script", "state", "claims", "pins", "begun", "uploads", "texts", "started", "turn", "before", "upload"]
abbrev P_law : List Str := ["script"]
theorem sc_law : FnScope N_law P_law (defScope s_law) := ⟨rfl, rfl, rfl, by decide +kernel, rfl, by decide +kernel, by decide +kernel⟩
def sp_law (K : PySem.W.Frag) : Sp := fun vs H Q _ => ∃ (l : Addr) (ns : List Int), vs = [.ref l] ∧ SqL K H l (ns.map V.int) ∧ ns.length ≤ 63 ∧ ∀ H', Q (.bl true) H'
/-- the names of the law -/
def sgm (l a o p u q : Addr) (n m : Int) (v8 v9 v10 : Option V) : L2.St := [some (.ref l), some (.ref a), some (.ref o), some (.ref p), some (.int n), some (.ref u), some (.ref q), some (.int m), v8, v9, v10]
/-- the dicts of the claims are not those of the uploads -/
def Apart (p d : Addr) (E : List Ent) (t q : Addr) : Prop := ∀ b, b = t ∨ b = q → b ≠ p ∧ b ≠ d ∧ ∀ e ∈ E, b ≠ e.di
theorem more_int {n m l l' : Nat} (h : (m = n + 1 ∧ l' = l + 1) ∨ (m = n ∧ l' ≤ l)) : ((n : Int) + (if ((l' : Nat) : Int) - ((l : Nat) : Int) > 0 then ((l' : Nat) : Int) - ((l : Nat) : Int) else 0)) = (m : Int) := by
  rcases h with ⟨h1, h2⟩ | ⟨h1, h2⟩
  · rw [if_pos (by omega)]; omega
  · rw [if_neg (by omega)]; omega
theorem ins_apart {H : Hp} {o u C C' dx du d t : Addr} {n m : Int} (h1 : H o = some (.ins C dx (flP n d))) (h2 : H u = some (.ins C' du (flT m t))) : o ≠ u := by
  refine ne_of h1 h2 fun z => ?_
  injection z with _ _ z
  have : (flP n d).map (·.1) = (flT m t).map (·.1) := by rw [z]
  exact absurd this (by show ¬ (["_last", "_pins"] : List Str) = (["_last", "_texts"] : List Str); decide +kernel)
/-- an object with its dict, just made -/
theorem made {H : Hp} {o dx d C : Addr} {f1 fs : List (Str × V)} (no : H o = none) (ndx : H dx = none) (nd : (L2.upd (L2.upd H dx (.own o)) o (.ins C dx [])) d = none) :
    (L2.upd (L2.upd (L2.upd (L2.upd (L2.upd H dx (.own o)) o (.ins C dx [])) o (.ins C dx f1)) d (.dK [])) o (.ins C dx fs)) o = some (.ins C dx fs) ∧
    (L2.upd (L2.upd (L2.upd (L2.upd (L2.upd H dx (.own o)) o (.ins C dx [])) o (.ins C dx f1)) d (.dK [])) o (.ins C dx fs)) d = some (.dK []) ∧
    Same H (L2.upd (L2.upd (L2.upd (L2.upd (L2.upd H dx (.own o)) o (.ins C dx [])) o (.ins C dx f1)) d (.dK [])) o (.ins C dx fs)) := by
  have do_ : d ≠ o := fun z => by rw [z, upd_same] at nd; cases nd
  have nd1 : (L2.upd H dx (.own o)) d = none := by rw [upd_ne do_] at nd; exact nd
  have ddx : d ≠ dx := fun z => by rw [z, upd_same] at nd1; cases nd1
  have nd0 : H d = none := by rw [upd_ne ddx] at nd1; exact nd1
  refine ⟨upd_same, by rw [upd_ne do_, upd_same], fun b v e => ?_⟩
  rw [upd_ne (ne_of_none e no), upd_ne (ne_of_none e nd0), upd_ne (ne_of_none e no), upd_ne (ne_of_none e no), upd_ne (ne_of_none e ndx)]
  exact e
section
variable {P : Program} {w : World} {K : PySem.W.Frag} {mg : Str → Option Value} {base : Heap} {cC cU : Addr}
theorem ok_law {f : Addr} {fd : FuncData} (F : Fun K "law" "law" s_law f fd) (T : Tx K mg cC cU)
    (C_Claims : CalK P w K mg base CX0 1 "Claims" cC P_Claims___init (sp_Claims___init cC))
    (C_Claims_numbers : CalM P w K mg base CX0 1 cC "numbers" P_Claims_numbers (sp_Claims_numbers cC))
    (C_Claims_pinned : CalM P w K mg base CX0 1 cC "pinned" P_Claims_pinned (sp_Claims_pinned cC))
    (C_Uploads : CalK P w K mg base CX0 1 "Uploads" cU P_Uploads___init (sp_Uploads___init cU))
    (C_Uploads_finish : CalM P w K mg base CX0 1 cU "finish" P_Uploads_finish (sp_Uploads_finish cU))
    (C__law_claim_step : Cal P w K mg base CX0 2 "_law_claim_step" P_law_claim_step (sp_law_claim_step cC))
    (C__law_pinned : Cal P w K mg base CX0 1 "_law_pinned" P_law_pinned (sp_law_pinned K))
    (C__law_state : Cal P w K mg base CX0 1 "_law_state" P_law_state (spState K))
    (C__law_take : Cal P w K mg base CX0 1 "_law_take" P_law_take spTake)
    (C__law_upload_step : Cal P w K mg base CX0 3 "_law_upload_step" P_law_upload_step (sp_law_upload_step cU)) : FnOk P w K mg base CX0 4 f fd P_law (sp_law K) := by
  refine F.ok sc_law (fun vs H Q E h => ?_) (fun cdv A outer s H vs Q E hr h => ?_)
  · obtain ⟨_, _, rfl, _⟩ := h
    rfl
  · obtain ⟨l, ns, rfl, hS, hl, hq⟩ := h
    have nd := sc_law.nd
    have hu := hu_of hr
    refine ⟨_, pss_cons (ps_set (i := 1) nd rfl (Or.inl rfl) (pe_cal C__law_state hr (pa_cons (pv 0) pa_nil)))
  (pss_cons (ps_set (i := 2) nd rfl (Or.inl rfl) (pe_calK0 C_Claims hr))
  (pss_cons (ps_set (i := 3) nd rfl (Or.inl rfl) pe_dnewK)
  (pss_cons (ps_set (i := 4) nd rfl (Or.inl rfl) pe_int)
  (pss_cons (ps_set (i := 5) nd rfl (Or.inl rfl) (pe_calK0 C_Uploads hr))
  (pss_cons (ps_set (i := 6) nd rfl (Or.inl rfl) pe_dnewK)
  (pss_cons (ps_set (i := 7) nd rfl (Or.inl rfl) pe_int)
  (pss_cons (ps_for PassesOwn.never rfl (pi_range1 (by rfl) T.z_range (pa_cons (pe_cal C__law_take hr (pa_cons (pv 1) (pa_cons pe_int pa_nil))) pa_nil)) (pg_name (i := 8) nd rfl (Or.inl rfl))
    (pss_cons (ps_set (i := 9) nd rfl (Or.inl rfl) (pe_callB call_lenD (by rfl) T.z_len (by decide +kernel) (pa_cons (pv 3) pa_nil)))
  (pss_cons (ps_if (pt_not (pt_val (pe_cal C__law_claim_step hr (pa_cons (pv 1) (pa_cons (pv 2) (pa_cons (pv 3) (pa_cons (pv 4) pa_nil)))))))
    (pss_one (ps_ret pe_bl))
    (pss_nil))
  (pss_cons (ps_set (i := 4) nd rfl (Or.inl rfl) (pe_op op_add (pv 4) (pe_callB (call_max2 rfl) (by rfl) T.z_max (by decide +kernel) (pa_cons pe_int (pa_cons (pe_op op_sub (pe_callB call_lenD (by rfl) T.z_len (by decide +kernel) (pa_cons (pv 3) pa_nil)) (pv 9)) pa_nil)))))
  (pss_cons (ps_if (PW.pt (pw_or (pt_cmpR (op_neD hr.units) (pe_calM0 (pv 2) C_Claims_numbers hr) (pe_callB (call_sortedDI rfl) (by rfl) T.z_sorted (by decide +kernel) (pa_cons (pv 3) pa_nil)) (nomark _)) (pw_or1 (pt_cmpR (op_neD hr.units) (pe_calM0 (pv 2) C_Claims_pinned hr) (pe_cal C__law_pinned hr (pa_cons (pv 3) pa_nil)) (nomark _)))))
    (pss_one (ps_ret pe_bl))
    (pss_nil))
  (pss_cons (ps_set (i := 9) nd rfl (Or.inl rfl) (pe_callB call_lenD (by rfl) T.z_len (by decide +kernel) (pa_cons (pv 6) pa_nil)))
  (pss_cons (ps_if (pt_not (pt_val (pe_cal C__law_upload_step hr (pa_cons (pv 1) (pa_cons (pv 5) (pa_cons (pv 6) (pa_cons (pv 7) pa_nil)))))))
    (pss_one (ps_ret pe_bl))
    (pss_nil))
  (pss_one (ps_set (i := 7) nd rfl (Or.inl rfl) (pe_op op_add (pv 7) (pe_callB (call_max2 rfl) (by rfl) T.z_max (by decide +kernel) (pa_cons pe_int (pa_cons (pe_op op_sub (pe_callB call_lenD (by rfl) T.z_len (by decide +kernel) (pa_cons (pv 6) pa_nil)) (pv 9)) pa_nil)))))))))))))
  (pss_cons (ps_for PassesOwn.never rfl (pi_range1 (by rfl) T.z_range (pa_cons (pe_op op_add (pv 7) pe_int) pa_nil)) (pg_name (i := 10) nd rfl (Or.inl rfl))
    (pss_one (ps_if (pt_cmpR op_ne (pe_calM (pv 5) C_Uploads_finish hr (pa_cons (pv 10) pa_nil)) (pe_dget1 hu (pv 6) (pv 10) ⟨rfl, rfl, rfl, rfl⟩) (nomark _))
    (pss_one (ps_ret pe_bl))
    (pss_nil))))
  (pss_one (ps_ret pe_bl)))))))))), ?_⟩
    refine ⟨_, rfl, l, ns, rfl, hS, hl, fun a c H1 na nc sm1 s1 => ?_⟩
    refine fun o dx no ndx nex => ⟨o, dx, rfl, upd_same, fun d nd' => ⟨rfl, fun p np => ?_⟩⟩
    obtain ⟨c1, c2, c3⟩ := made (f1 := [("_last", .int 0)]) (fs := flP 0 d) no ndx nd'
    refine fun u du nu ndu neu => ⟨u, du, rfl, upd_same, fun t nt => ⟨rfl, fun q nq => ?_⟩⟩
    obtain ⟨u1, u2, u3⟩ := made (f1 := [("_last", .int 0)]) (fs := flT 0 t) nu ndu nt
    have sp := same_upd (o := HO.dK []) np
    have sq := same_upd (o := HO.dK []) nq
    revert sq
    generalize hHf : L2.upd _ q (HO.dK []) = Hf
    intro sq
    have f_o := sq _ _ (u3 _ _ (sp _ _ c1))
    have f_d := sq _ _ (u3 _ _ (sp _ _ c2))
    have f_p : Hf p = some (.dK []) := sq _ _ (u3 _ _ upd_same)
    have f_u := sq _ _ u1
    have f_t := sq _ _ u2
    have f_q : Hf q = some (.dK []) := by rw [← hHf, upd_same]
    have f_s : SL Hf a c := (((s1.same c3).same sp).same u3).same sq
    have pd : p ≠ d := (ne_of_none c2 np).symm
    have qt : q ≠ t := (ne_of_none u2 nq).symm
    have qp : q ≠ p := (ne_of_none (u3 _ _ upd_same) nq).symm
    have qd : q ≠ d := (ne_of_none (u3 _ _ (sp _ _ c2)) nq).symm
    have tn : ∀ b v, (L2.upd (L2.upd (L2.upd (L2.upd (L2.upd (L2.upd H1 dx (.own o)) o (.ins cC dx [])) o (.ins cC dx [("_last", .int 0)])) d (.dK [])) o (.ins cC dx (flP 0 d))) p (.dK [])) b = some v → t ≠ b := fun b v e z => by
      rw [z] at nt
      have ob : b ≠ u := ne_of_none e nu
      rw [upd_ne ob, upd_ne (ne_of_none e ndu), e] at nt
      cases nt
    have tp : t ≠ p := tn _ _ upd_same
    have td : t ≠ d := tn _ _ (sp _ _ c2)
    clear hHf
    have C0 : CSt cC Hf o d p [] 0 0 := ⟨⟨dx, f_o⟩, f_d, f_p, by simp, by simp, by simp, by simpa using pd, by simp, by simp, by simp⟩
    have U0 : USt cU Hf u t q [] 0 0 := ⟨⟨du, f_u⟩, f_t, f_q, qt.symm, by simp, by simp, by simp⟩
    have A0 : Apart p d [] t q := by
      rintro b (rfl | rfl)
      · exact ⟨tp, td, by simp⟩
      · exact ⟨qp, qd, by simp⟩
    refine ⟨_, rfl, a, c, 41, rfl, f_s, by decide, by decide, fun v0 Hg v00 v41 eg sg => ?_⟩
    obtain ⟨k, rfl, hk⟩ := nat_of v00 v41
    have Cg := C0.take f_s eg
    have Ug := U0.take f_s eg
    refine ⟨_, rfl, by omega, by omega, for_range (lo := 0) (n := k) (fun i σ H' => ∃ (E' : List Ent) (n : Nat) (t : Addr) (U : List (Nat × Str)) (m : Nat) (v8 v9 : Option V), σ = sgm l a o p u q n m v8 v9 none ∧ SL H' a c ∧ CSt cC H' o d p E' n i ∧ EOk E' ∧ USt cU H' u t q U m i ∧ Apart p d E' t q)
      ⟨[], 0, t, [], 0, none, none, rfl, sg, Cg, (fun e he => nomatch he), Ug, A0⟩ ?_ ?_⟩
    · rintro i σ H' hi ⟨E', n, t, U, m, v8, v9, rfl, sL, SC, ok, SU, ap⟩
      have lL : ∀ E : List Ent, (outL E).length = E.length := fun E => List.length_map _
      refine ⟨_, rfl, p, _, rfl, SC.pp, ?_⟩
      refine ⟨_, rfl, _, rfl, _, rfl, _, rfl, a, c, o, d, p, E', n, i, rfl, sL, SC, by omega, ok, fun E2 n2 H2 s2 C2 ok2 k2 fr2 hc2 => ⟨_, rfl, iteF ?_⟩⟩
      -- the uploads are as they were
      have nUC : ∀ b, b = u ∨ b = t ∨ b = q → ¬ CF a c o d p E' b := by
        rintro b hb (h | h | h | h | h | ⟨e, he, h⟩)
        · exact (SU.apart sL hb).1 h
        · exact (SU.apart sL hb).2 h
        · obtain ⟨dx1, ho1⟩ := SC.ob
          obtain ⟨du1, hu1⟩ := SU.ob
          rcases hb with hb | hb | hb
          · exact ins_apart ho1 hu1 (by rw [← h, hb])
          · exact ne_of ho1 SU.tt (by intro z; cases z) (by rw [← h, hb])
          · exact ne_of ho1 SU.qq (by intro z; cases z) (by rw [← h, hb])
        · rcases hb with hb | hb
          · obtain ⟨du1, hu1⟩ := SU.ob
            exact ne_of hu1 SC.pp (by intro z; cases z) (by rw [← hb, h])
          · exact (ap b hb).1 h
        · rcases hb with hb | hb
          · obtain ⟨du1, hu1⟩ := SU.ob
            exact ne_of hu1 SC.dd (by intro z; cases z) (by rw [← hb, h])
          · exact (ap b hb).2.1 h
        · rcases hb with hb | hb
          · obtain ⟨du1, hu1⟩ := SU.ob
            exact ne_of hu1 (SC.inner e he) (by intro z; cases z) (by rw [← hb, h])
          · exact (ap b hb).2.2 e he h
      have SU2 : USt cU H2 u t q U m i := SU.keep fun b v hb e => k2.keep b v (nUC b hb) e
      have ap2 : Apart p d E2 t q := by
        intro b hb
        refine ⟨(ap b hb).1, (ap b hb).2.1, fun e he => ?_⟩
        rcases fr2 e he with ⟨e0, h0, h1⟩ | h1
        · rw [← h1]; exact (ap b hb).2.2 e0 h0
        · intro z
          rw [← z] at h1
          rcases hb with rfl | rfl
          · rw [SU.tt] at h1; cases h1
          · rw [SU.qq] at h1; cases h1
      refine ⟨_, rfl, _, rfl, p, _, rfl, C2.pp, _, rfl, _, _, rfl, rfl, _, _, rfl, _, _, rfl, rfl, ?_⟩
      rw [lL, lL]
      dsimp only
      rw [more_int hc2]
      obtain ⟨dx2, ho2⟩ := C2.ob
      obtain ⟨z1, z2, z3⟩ := C2.small
      have hkD : (outD E2).map (·.1) = (E2.map fun e => (e.i : Int)).map Sum.inl := by rw [outD, List.map_map, List.map_map]; rfl
      have hkL : (outL E2).map (·.1) = (E2.map fun e => (e.i : Int)).map Sum.inl := by rw [outL, List.map_map, List.map_map]; rfl
      have h64 : (E2.map fun e => (e.i : Int)).length < 64 := by rw [List.length_map]; omega
      refine ⟨_, rfl, o, dx2, _, rfl, ho2, rfl, o, dx2, d, n2, outD E2, _, rfl, ho2, C2.dd, hkD, h64, fun ys p1 hp1 hs1 np1 => ?_⟩
      have pp1 : p ≠ p1 := ne_of_none C2.pp np1
      refine ⟨_, rfl, p, outL E2, _, rfl, .inl (by rw [upd_ne pp1]; exact C2.pp), hkL, h64, fun ys2 p2 hp2 hs2 np2 => ?_⟩
      have p12 : p1 ≠ p2 := ne_of_none upd_same np2
      obtain rfl : ys = ys2 := sorted_ints hs1 hs2 (hp1.trans hp2.symm)
      refine ⟨.list (ys.map PyData.int), .list (ys.map PyData.int), .lst (SqL.of (by rw [upd_ne p12, upd_same])) (dp_num _), .lst (SqL.of upd_same) (dp_num _), shaped_num, shaped_num, _, rfl, ?_⟩
      rw [same_num]
      refine iteF ?_
      have m1 := (same_upd np1 (o := HO.lst (ys.map V.int))).trans (same_upd np2 (o := HO.lst (ys.map V.int)))
      have C3 := C2.same m1
      obtain ⟨dx3, ho3⟩ := C3.ob
      have nd2 : (d :: E2.map (·.di)).Nodup := (List.nodup_cons.mp C3.nd).2
      refine ⟨_, rfl, o, dx3, _, rfl, ho3, rfl, o, dx3, d, n2, E2, rfl, ho3, C3.dd, C3.inner, nd2, (fun e he => by have := z3 e he; omega), by omega, fun ys3 p3 H3 np3 sm3 h3 so3 nd3 mem3 => ?_⟩
      have C4 := C3.same sm3
      refine ⟨_, rfl, p, E2, rfl, C4.pp, C4.lists, C4.num, (fun e he => by have := z3 e he; omega), by omega, fun ys4 p4 H4 np4 sm4 h4 so4 nd4 mem4 => ?_⟩
      obtain rfl : ys3 = ys4 := sorted_mem so3 so4 nd3 nd4 fun x => by
        rw [mem3, mem4]
        constructor
        · rintro ⟨e, he, hx⟩
          exact ⟨e, he, (C2.mem e he x).1 hx⟩
        · rintro ⟨e, he, hx⟩
          exact ⟨e, he, (C2.mem e he x).2 hx⟩
      have okS : ∀ x ∈ ys3, PyData.strOk x = true := fun x hx => by
        obtain ⟨e, he, hx⟩ := (mem4 x).1 hx
        obtain ⟨z, hz, rfl⟩ := ok2 e he x hx
        have : z < 0x110000 := by
          have : ∀ z ∈ letters5, z < 0x110000 := by decide
          exact this z hz
        simp [PyData.strOk, this]
      refine ⟨.list (ys3.map PyData.str), .list (ys3.map PyData.str), .lst (SqL.of (sm4 _ _ h3)) (dp_txt _), .lst (SqL.of h4) (dp_txt _), shaped_txt okS, shaped_txt okS, _, rfl, ?_⟩
      rw [same_txt okS]
      refine iteF ?_
      have mm := (m1.trans sm3).trans sm4
      have s4 := s2.same mm
      have C5 := C2.same mm
      have SU5 : USt cU H4 u t q U m i := SU2.keep fun b v _ e => mm _ _ e
      refine ⟨_, rfl, q, _, rfl, SU5.qq, ?_⟩
      refine ⟨_, rfl, _, rfl, _, rfl, _, rfl, a, c, u, t, q, U, m, i, rfl, s4, SU5, by omega, fun t6 U6 m6 H6 s6 SU6 k6 ht6 hc6 => ⟨_, rfl, iteF ?_⟩⟩
      have nCU : ∀ b, CAt o d p E2 b → ¬ UF a c u t q b := by
        obtain ⟨dx5, ho5⟩ := C5.ob
        obtain ⟨du5, hu5⟩ := SU5.ob
        rintro b hb (h | h | h | h)
        · exact (C5.apart s4 hb).1 h
        · exact (C5.apart s4 hb).2 h
        · rcases hb with hb | hb | hb | ⟨e, he, hb⟩ | ⟨e, he, hb⟩
          · exact ins_apart ho5 hu5 (by rw [← hb, h])
          · exact ne_of hu5 C5.pp (by intro z; cases z) (by rw [← h, hb])
          · exact ne_of hu5 C5.dd (by intro z; cases z) (by rw [← h, hb])
          · exact ne_of hu5 (C5.inner e he) (by intro z; cases z) (by rw [← h, hb])
          · exact ne_of hu5 (C5.lists e he) (by intro z; cases z) (by rw [← h, hb])
        · rcases hb with hb | hb | hb | ⟨e, he, hb⟩ | ⟨e, he, hb⟩
          · rcases h with h | h
            · exact ne_of ho5 SU5.tt (by intro z; cases z) (by rw [← hb, h])
            · exact ne_of ho5 SU5.qq (by intro z; cases z) (by rw [← hb, h])
          · exact (ap2 b h).1 hb
          · exact (ap2 b h).2.1 hb
          · exact (ap2 b h).2.2 e he hb
          · rcases h with h | h
            · exact ne_of (C5.lists e he) SU5.tt (by intro z; cases z) (by rw [← hb, h])
            · exact ne_of (C5.lists e he) SU5.qq (by intro z; cases z) (by rw [← hb, h])
      have C7 := C5.keep fun b v hb e => k6.keep b v (nCU b hb) e
      refine ⟨_, rfl, _, rfl, q, _, rfl, SU6.qq, _, rfl, _, _, rfl, rfl, _, _, rfl, _, _, rfl, rfl, ?_⟩
      rw [tx_len, tx_len]
      dsimp only
      rw [more_int hc6]
      refine ⟨E2, n2, t6, U6, m6, _, _, rfl, s6, C7, ok2, SU6, ?_⟩
      rintro b (rfl | rfl)
      · rcases ht6 with rfl | ht6
        · exact ap2 b (.inl rfl)
        · refine ⟨fun z => ?_, fun z => ?_, fun e he z => ?_⟩
          · rw [z, C5.pp] at ht6; cases ht6
          · rw [z, C5.dd] at ht6; cases ht6
          · rw [z, C5.inner e he] at ht6; cases ht6
      · exact ap2 b (.inr rfl)
    · rintro σ H' ⟨E', n, t, U, m, v8, v9, rfl, sL, SC, ok, SU, ap⟩
      obtain ⟨z1, z2⟩ := SU.small
      have e2 : (m : Int) + 2 = ((m + 2 : Nat) : Int) := by omega
      refine ⟨_, rfl, _, _, rfl, rfl, _, rfl, ?_, ?_, ?_⟩
      · omega
      · omega
      rw [e2]
      refine for_range (lo := 0) (n := m + 2) (fun j σ H2 => ∃ v10, σ = sgm l a o p u q n m v8 v9 v10 ∧ (∃ dx, H2 u = some (.ins cU dx (flT m t))) ∧ H2 t = some (.dK (tx (U.filter fun e => decide (j ≤ e.1)))) ∧ H2 q = some (.dK (tx U)))
        ⟨none, rfl, SU.ob, by rw [List.filter_eq_self.mpr fun e _ => decide_eq_true (Nat.zero_le _)]; exact SU.tt, SU.qq⟩ ?_ ?_
      · rintro j σ H2 hj ⟨v10, rfl, ⟨dx2, hu2⟩, ht2, hq2⟩
        have ut : u ≠ t := ne_of hu2 ht2 (by intro z; cases z)
        have ej : (0 : Int) + (j : Int) = (j : Int) := by omega
        rw [ej]
        have ndf : ((U.filter fun e => decide (j ≤ e.1)).map (·.1)).Nodup := (List.filter_sublist.map _).nodup SU.nd
        refine ⟨_, rfl, u, dx2, _, rfl, hu2, rfl, _, rfl, u, dx2, t, m, j, _, rfl, hu2, ht2, fun v hv => ?_, fun hn => ?_⟩
        · have hq3 : (L2.upd H2 t (.dK (dropK (tx (U.filter fun e => decide (j ≤ e.1))) (.inl (j : Int))))) q = some (.dK (tx U)) := by rw [upd_ne SU.ne.symm]; exact hq2
          refine ⟨_, rfl, q, rfl, .inl ⟨_, .inl hq3⟩, _, rfl, _, DGet.k (k := .inl (j : Int)) hq3, ?_⟩
          rcases tx_dec ndf (j : Int) with ⟨e0, h0, h1, h2⟩ | ⟨_, h2⟩
          · rw [h2] at hv
            cases hv
            have h3 : valV (tx U) (.inl (j : Int)) = some (.str e0.2) := by rw [← h1]; exact tx_at SU.nd (List.mem_filter.mp h0).1
            rw [h3]
            refine ⟨rfl, _, rfl, ?_⟩
            show if (!decide (V.str e0.2 = V.str e0.2)) = true then _ else _
            rw [decide_eq_true rfl]
            refine iteF ⟨_, rfl, ⟨dx2, by rw [upd_ne ut]; exact hu2⟩, ?_, hq3⟩
            rw [upd_same, tx_drop, List.filter_filter]
            congr 3
            apply List.filter_congr
            intro e _
            rw [← Bool.decide_and]
            exact decide_eq_decide.mpr (by omega)
          · rw [h2] at hv; cases hv
        · refine ⟨_, rfl, q, rfl, .inl ⟨_, .inl hq2⟩, _, rfl, _, DGet.k (k := .inl (j : Int)) hq2, ?_⟩
          have hno : ∀ e ∈ U, e.1 ≠ j := fun e he z => by
            have : valV (tx (U.filter fun e => decide (j ≤ e.1))) (.inl (e.1 : Int)) = some (.str e.2) := tx_at ndf (List.mem_filter.mpr ⟨he, decide_eq_true (by omega)⟩)
            rw [z, hn] at this; cases this
          have h3 : valV (tx U) (.inl (j : Int)) = none := tx_none fun e he z => hno e he (by omega)
          rw [h3]
          refine ⟨rfl, _, rfl, ?_⟩
          show if (!decide (V.non = V.non)) = true then _ else _
          rw [decide_eq_true rfl]
          refine iteF ⟨_, rfl, ⟨dx2, hu2⟩, ?_, hq2⟩
          rw [ht2]
          congr 3
          apply List.filter_congr
          intro e he
          have := hno e he
          exact decide_eq_decide.mpr (by omega)
      · rintro σ H2 ⟨v10, rfl, _⟩
        exact hq _
end
end LW
namespace LW
open PySem PySem.Spec PyProof.Rows L2 GxR
theorem all_mk {l : PySem.W.OpenLaw} {w : World} {K : PySem.W.Frag} {h : Heap} {mg : Str → Option Value} {fa : Addr}
    {f_ls : Addr} {oc_ls kV_ls dc_ls pm_ls ct_ls cd_ls : Value} {od_ls an_ls : Option Addr} {sl_ls : Array (Option Value)}
    {f_lt : Addr} {oc_lt kV_lt dc_lt pm_lt ct_lt cd_lt : Value} {od_lt an_lt : Option Addr} {sl_lt : Array (Option Value)}
    {f_lx : Addr} {oc_lx kV_lx dc_lx pm_lx ct_lx cd_lx : Value} {od_lx an_lx : Option Addr} {sl_lx : Array (Option Value)}
    {f_lc : Addr} {oc_lc kV_lc dc_lc pm_lc ct_lc cd_lc : Value} {od_lc an_lc : Option Addr} {sl_lc : Array (Option Value)}
    {f_lp : Addr} {oc_lp kV_lp dc_lp pm_lp ct_lp cd_lp : Value} {od_lp an_lp : Option Addr} {sl_lp : Array (Option Value)}
    {f_lu : Addr} {oc_lu kV_lu dc_lu pm_lu ct_lu cd_lu : Value} {od_lu an_lu : Option Addr} {sl_lu : Array (Option Value)}
    {f_lw : Addr} {oc_lw kV_lw dc_lw pm_lw ct_lw cd_lw : Value} {od_lw an_lw : Option Addr} {sl_lw : Array (Option Value)}
    {f_ci : Addr} {oc_ci kV_ci dc_ci pm_ci cd_ci ct_ci : Value} {od_ci an_ci : Option Addr} {sl_ci : Array (Option Value)}
    {f_cb : Addr} {oc_cb kV_cb dc_cb pm_cb cd_cb ct_cb : Value} {od_cb an_cb : Option Addr} {sl_cb : Array (Option Value)}
    {f_co : Addr} {oc_co kV_co dc_co pm_co cd_co ct_co : Value} {od_co an_co : Option Addr} {sl_co : Array (Option Value)}
    {f_cp : Addr} {oc_cp kV_cp dc_cp pm_cp cd_cp ct_cp : Value} {od_cp an_cp : Option Addr} {sl_cp : Array (Option Value)}
    {f_ce : Addr} {oc_ce kV_ce dc_ce pm_ce cd_ce ct_ce : Value} {od_ce an_ce : Option Addr} {sl_ce : Array (Option Value)}
    {f_cn : Addr} {oc_cn kV_cn dc_cn pm_cn cd_cn ct_cn : Value} {od_cn an_cn : Option Addr} {sl_cn : Array (Option Value)}
    {f_cq : Addr} {oc_cq kV_cq dc_cq pm_cq cd_cq ct_cq : Value} {od_cq an_cq : Option Addr} {sl_cq : Array (Option Value)}
    {f_ui : Addr} {oc_ui kV_ui dc_ui pm_ui cd_ui ct_ui : Value} {od_ui an_ui : Option Addr} {sl_ui : Array (Option Value)}
    {f_ub : Addr} {oc_ub kV_ub dc_ub pm_ub cd_ub ct_ub : Value} {od_ub an_ub : Option Addr} {sl_ub : Array (Option Value)}
    {f_ua : Addr} {oc_ua kV_ua dc_ua pm_ua cd_ua ct_ua : Value} {od_ua an_ua : Option Addr} {sl_ua : Array (Option Value)}
    {f_uf : Addr} {oc_uf kV_uf dc_uf pm_uf cd_uf ct_uf : Value} {od_uf an_uf : Option Addr} {sl_uf : Array (Option Value)}
    {f_ug : Addr} {oc_ug kV_ug dc_ug pm_ug cd_ug ct_ug : Value} {od_ug an_ug : Option Addr} {sl_ug : Array (Option Value)}
    {cC : Addr}
    {cU : Addr}
    (X : K.In h) (G : h.Ns mainGlobals mg) (hfa : mg "law" = some (.ref fa))
    (a_ls : PySem.W.nsIn K mainGlobals "_law_state" = some (some (.ref f_ls)))
    (l_ls : K.lookup f_ls = some ⟨oc_ls, od_ls, .func (PySem.W.fnOf "_law_state" "_law_state" (defArgs s_law_state) (defBody s_law_state) (defScope s_law_state) .none kV_ls dc_ls pm_ls an_ls cd_ls ct_ls), sl_ls⟩)
    (cc_ls : PySem.W.codeIn K cd_ls "_law_state" = true)
    (k_ls : PySem.W.keepIn K (.ref f_ls) = true)
    (a_lt : PySem.W.nsIn K mainGlobals "_law_take" = some (some (.ref f_lt)))
    (l_lt : K.lookup f_lt = some ⟨oc_lt, od_lt, .func (PySem.W.fnOf "_law_take" "_law_take" (defArgs s_law_take) (defBody s_law_take) (defScope s_law_take) .none kV_lt dc_lt pm_lt an_lt cd_lt ct_lt), sl_lt⟩)
    (cc_lt : PySem.W.codeIn K cd_lt "_law_take" = true)
    (k_lt : PySem.W.keepIn K (.ref f_lt) = true)
    (a_lx : PySem.W.nsIn K mainGlobals "_law_text" = some (some (.ref f_lx)))
    (l_lx : K.lookup f_lx = some ⟨oc_lx, od_lx, .func (PySem.W.fnOf "_law_text" "_law_text" (defArgs s_law_text) (defBody s_law_text) (defScope s_law_text) .none kV_lx dc_lx pm_lx an_lx cd_lx ct_lx), sl_lx⟩)
    (cc_lx : PySem.W.codeIn K cd_lx "_law_text" = true)
    (k_lx : PySem.W.keepIn K (.ref f_lx) = true)
    (a_lc : PySem.W.nsIn K mainGlobals "_law_claim_step" = some (some (.ref f_lc)))
    (l_lc : K.lookup f_lc = some ⟨oc_lc, od_lc, .func (PySem.W.fnOf "_law_claim_step" "_law_claim_step" (defArgs s_law_claim_step) (defBody s_law_claim_step) (defScope s_law_claim_step) .none kV_lc dc_lc pm_lc an_lc cd_lc ct_lc), sl_lc⟩)
    (cc_lc : PySem.W.codeIn K cd_lc "_law_claim_step" = true)
    (k_lc : PySem.W.keepIn K (.ref f_lc) = true)
    (a_lp : PySem.W.nsIn K mainGlobals "_law_pinned" = some (some (.ref f_lp)))
    (l_lp : K.lookup f_lp = some ⟨oc_lp, od_lp, .func (PySem.W.fnOf "_law_pinned" "_law_pinned" (defArgs s_law_pinned) (defBody s_law_pinned) (defScope s_law_pinned) .none kV_lp dc_lp pm_lp an_lp cd_lp ct_lp), sl_lp⟩)
    (cc_lp : PySem.W.codeIn K cd_lp "_law_pinned" = true)
    (k_lp : PySem.W.keepIn K (.ref f_lp) = true)
    (a_lu : PySem.W.nsIn K mainGlobals "_law_upload_step" = some (some (.ref f_lu)))
    (l_lu : K.lookup f_lu = some ⟨oc_lu, od_lu, .func (PySem.W.fnOf "_law_upload_step" "_law_upload_step" (defArgs s_law_upload_step) (defBody s_law_upload_step) (defScope s_law_upload_step) .none kV_lu dc_lu pm_lu an_lu cd_lu ct_lu), sl_lu⟩)
    (cc_lu : PySem.W.codeIn K cd_lu "_law_upload_step" = true)
    (k_lu : PySem.W.keepIn K (.ref f_lu) = true)
    (a_lw : PySem.W.nsIn K mainGlobals "law" = some (some (.ref f_lw)))
    (l_lw : K.lookup f_lw = some ⟨oc_lw, od_lw, .func (PySem.W.fnOf "law" "law" (defArgs s_law) (defBody s_law) (defScope s_law) .none kV_lw dc_lw pm_lw an_lw cd_lw ct_lw), sl_lw⟩)
    (cc_lw : PySem.W.codeIn K cd_lw "law" = true)
    (k_lw : PySem.W.keepIn K (.ref f_lw) = true)
    (g_cC : PySem.W.nsIn K mainGlobals "Claims" = some (some (.ref cC)))
    (pg_cC : PySem.W.plainGet K cC Str.empty = true)
    (hd_cC : PySem.W.hasDictIn K cC = true)
    (po_cC : PySem.W.plainOver K cC = true)
    (sa_cC : PySem.W.findIn K (.ref cC) "__setattr__" = some (some (.builtin "object.__setattr__")))
    (mk_cC : PySem.W.makesIn K cC = true)
    (kc_cC : PySem.W.keepIn K (.ref cC) = true)
    (g_cU : PySem.W.nsIn K mainGlobals "Uploads" = some (some (.ref cU)))
    (pg_cU : PySem.W.plainGet K cU Str.empty = true)
    (hd_cU : PySem.W.hasDictIn K cU = true)
    (po_cU : PySem.W.plainOver K cU = true)
    (sa_cU : PySem.W.findIn K (.ref cU) "__setattr__" = some (some (.builtin "object.__setattr__")))
    (mk_cU : PySem.W.makesIn K cU = true)
    (kc_cU : PySem.W.keepIn K (.ref cU) = true)
    (z0 : PySem.W.nsIn K mainGlobals "abs" = some none)
    (z1 : PySem.W.nsIn K mainGlobals "int" = some none)
    (z2 : PySem.W.nsIn K mainGlobals "len" = some none)
    (z3 : PySem.W.nsIn K mainGlobals "max" = some none)
    (z4 : PySem.W.nsIn K mainGlobals "range" = some none)
    (z5 : PySem.W.nsIn K mainGlobals "repr" = some none)
    (z6 : PySem.W.nsIn K mainGlobals "sorted" = some none)
    (z7 : PySem.W.nsIn K mainGlobals "set" = some none)
    (n0 : PySem.W.findIn K (.ref cC) "_last" = some none)
    (n1 : PySem.W.findIn K (.ref cC) "_pins" = some none)
    (n2 : PySem.W.findIn K (.ref cU) "_last" = some none)
    (n3 : PySem.W.findIn K (.ref cU) "_texts" = some none)
    (a_ci : PySem.W.findIn K (.ref cC) "__init__" = some (some (.ref f_ci)))
    (i_ci : PySem.W.isFn K (.ref f_ci) = true)
    (l_ci : K.lookup f_ci = some ⟨oc_ci, od_ci, .func (PySem.W.fnOf "__init__" "Claims.__init__" (defArgs s_Claims___init) (defBody s_Claims___init) (defScope s_Claims___init) .none kV_ci dc_ci pm_ci an_ci cd_ci ct_ci), sl_ci⟩)
    (cc_ci : PySem.W.codeIn K cd_ci "Claims.__init__" = true)
    (k_ci : PySem.W.keepIn K (.ref f_ci) = true)
    (a_cb : PySem.W.findIn K (.ref cC) "begin" = some (some (.ref f_cb)))
    (i_cb : PySem.W.isFn K (.ref f_cb) = true)
    (l_cb : K.lookup f_cb = some ⟨oc_cb, od_cb, .func (PySem.W.fnOf "begin" "Claims.begin" (defArgs s_Claims_begin) (defBody s_Claims_begin) (defScope s_Claims_begin) .none kV_cb dc_cb pm_cb an_cb cd_cb ct_cb), sl_cb⟩)
    (cc_cb : PySem.W.codeIn K cd_cb "Claims.begin" = true)
    (k_cb : PySem.W.keepIn K (.ref f_cb) = true)
    (a_co : PySem.W.findIn K (.ref cC) "is_open" = some (some (.ref f_co)))
    (i_co : PySem.W.isFn K (.ref f_co) = true)
    (l_co : K.lookup f_co = some ⟨oc_co, od_co, .func (PySem.W.fnOf "is_open" "Claims.is_open" (defArgs s_Claims_is_open) (defBody s_Claims_is_open) (defScope s_Claims_is_open) .none kV_co dc_co pm_co an_co cd_co ct_co), sl_co⟩)
    (cc_co : PySem.W.codeIn K cd_co "Claims.is_open" = true)
    (k_co : PySem.W.keepIn K (.ref f_co) = true)
    (a_cp : PySem.W.findIn K (.ref cC) "pin" = some (some (.ref f_cp)))
    (i_cp : PySem.W.isFn K (.ref f_cp) = true)
    (l_cp : K.lookup f_cp = some ⟨oc_cp, od_cp, .func (PySem.W.fnOf "pin" "Claims.pin" (defArgs s_Claims_pin) (defBody s_Claims_pin) (defScope s_Claims_pin) .none kV_cp dc_cp pm_cp an_cp cd_cp ct_cp), sl_cp⟩)
    (cc_cp : PySem.W.codeIn K cd_cp "Claims.pin" = true)
    (k_cp : PySem.W.keepIn K (.ref f_cp) = true)
    (a_ce : PySem.W.findIn K (.ref cC) "end" = some (some (.ref f_ce)))
    (i_ce : PySem.W.isFn K (.ref f_ce) = true)
    (l_ce : K.lookup f_ce = some ⟨oc_ce, od_ce, .func (PySem.W.fnOf "end" "Claims.end" (defArgs s_Claims_end) (defBody s_Claims_end) (defScope s_Claims_end) .none kV_ce dc_ce pm_ce an_ce cd_ce ct_ce), sl_ce⟩)
    (cc_ce : PySem.W.codeIn K cd_ce "Claims.end" = true)
    (k_ce : PySem.W.keepIn K (.ref f_ce) = true)
    (a_cn : PySem.W.findIn K (.ref cC) "numbers" = some (some (.ref f_cn)))
    (i_cn : PySem.W.isFn K (.ref f_cn) = true)
    (l_cn : K.lookup f_cn = some ⟨oc_cn, od_cn, .func (PySem.W.fnOf "numbers" "Claims.numbers" (defArgs s_Claims_numbers) (defBody s_Claims_numbers) (defScope s_Claims_numbers) .none kV_cn dc_cn pm_cn an_cn cd_cn ct_cn), sl_cn⟩)
    (cc_cn : PySem.W.codeIn K cd_cn "Claims.numbers" = true)
    (k_cn : PySem.W.keepIn K (.ref f_cn) = true)
    (a_cq : PySem.W.findIn K (.ref cC) "pinned" = some (some (.ref f_cq)))
    (i_cq : PySem.W.isFn K (.ref f_cq) = true)
    (l_cq : K.lookup f_cq = some ⟨oc_cq, od_cq, .func (PySem.W.fnOf "pinned" "Claims.pinned" (defArgs s_Claims_pinned) (defBody s_Claims_pinned) (defScope s_Claims_pinned) .none kV_cq dc_cq pm_cq an_cq cd_cq ct_cq), sl_cq⟩)
    (cc_cq : PySem.W.codeIn K cd_cq "Claims.pinned" = true)
    (k_cq : PySem.W.keepIn K (.ref f_cq) = true)
    (a_ui : PySem.W.findIn K (.ref cU) "__init__" = some (some (.ref f_ui)))
    (i_ui : PySem.W.isFn K (.ref f_ui) = true)
    (l_ui : K.lookup f_ui = some ⟨oc_ui, od_ui, .func (PySem.W.fnOf "__init__" "Uploads.__init__" (defArgs s_Uploads___init) (defBody s_Uploads___init) (defScope s_Uploads___init) .none kV_ui dc_ui pm_ui an_ui cd_ui ct_ui), sl_ui⟩)
    (cc_ui : PySem.W.codeIn K cd_ui "Uploads.__init__" = true)
    (k_ui : PySem.W.keepIn K (.ref f_ui) = true)
    (a_ub : PySem.W.findIn K (.ref cU) "begin" = some (some (.ref f_ub)))
    (i_ub : PySem.W.isFn K (.ref f_ub) = true)
    (l_ub : K.lookup f_ub = some ⟨oc_ub, od_ub, .func (PySem.W.fnOf "begin" "Uploads.begin" (defArgs s_Uploads_begin) (defBody s_Uploads_begin) (defScope s_Uploads_begin) .none kV_ub dc_ub pm_ub an_ub cd_ub ct_ub), sl_ub⟩)
    (cc_ub : PySem.W.codeIn K cd_ub "Uploads.begin" = true)
    (k_ub : PySem.W.keepIn K (.ref f_ub) = true)
    (a_ua : PySem.W.findIn K (.ref cU) "add_part" = some (some (.ref f_ua)))
    (i_ua : PySem.W.isFn K (.ref f_ua) = true)
    (l_ua : K.lookup f_ua = some ⟨oc_ua, od_ua, .func (PySem.W.fnOf "add_part" "Uploads.add_part" (defArgs s_Uploads_add_part) (defBody s_Uploads_add_part) (defScope s_Uploads_add_part) .none kV_ua dc_ua pm_ua an_ua cd_ua ct_ua), sl_ua⟩)
    (cc_ua : PySem.W.codeIn K cd_ua "Uploads.add_part" = true)
    (k_ua : PySem.W.keepIn K (.ref f_ua) = true)
    (a_uf : PySem.W.findIn K (.ref cU) "finish" = some (some (.ref f_uf)))
    (i_uf : PySem.W.isFn K (.ref f_uf) = true)
    (l_uf : K.lookup f_uf = some ⟨oc_uf, od_uf, .func (PySem.W.fnOf "finish" "Uploads.finish" (defArgs s_Uploads_finish) (defBody s_Uploads_finish) (defScope s_Uploads_finish) .none kV_uf dc_uf pm_uf an_uf cd_uf ct_uf), sl_uf⟩)
    (cc_uf : PySem.W.codeIn K cd_uf "Uploads.finish" = true)
    (k_uf : PySem.W.keepIn K (.ref f_uf) = true)
    (a_ug : PySem.W.findIn K (.ref cU) "forget" = some (some (.ref f_ug)))
    (i_ug : PySem.W.isFn K (.ref f_ug) = true)
    (l_ug : K.lookup f_ug = some ⟨oc_ug, od_ug, .func (PySem.W.fnOf "forget" "Uploads.forget" (defArgs s_Uploads_forget) (defBody s_Uploads_forget) (defScope s_Uploads_forget) .none kV_ug dc_ug pm_ug an_ug cd_ug ct_ug), sl_ug⟩)
    (cc_ug : PySem.W.codeIn K cd_ug "Uploads.forget" = true)
    (k_ug : PySem.W.keepIn K (.ref f_ug) = true) :
    LamX.LawAtS l w K CX0 4 63 "script" mg fa h := by
  have e := hfa.symm.trans (PySem.W.mg_of X G a_lw)
  cases e
  have T : Tx K mg cC cU := ⟨PySem.W.mg_none_of X G z0, PySem.W.mg_none_of X G z1, PySem.W.mg_none_of X G z2, PySem.W.mg_none_of X G z3, PySem.W.mg_none_of X G z4, PySem.W.mg_none_of X G z5, PySem.W.mg_none_of X G z6, PySem.W.mg_none_of X G z7, PySem.W.mg_of X G g_cC, PySem.W.mg_of X G g_cU, ⟨pg_cC, hd_cC, po_cC, sa_cC⟩, ⟨pg_cU, hd_cU, po_cU, sa_cU⟩, n0, n1, n2, n3⟩
  refine ⟨PySem.W.fnOf "law" "law" (defArgs s_law) (defBody s_law) (defScope s_law) .none kV_lw dc_lw pm_lw an_lw cd_lw ct_lw, [], sp_law K, (fun p hp => nomatch hp), (fun p hp => nomatch hp), (fun p hp => nomatch hp), ?_, ?_, ?_⟩
  · exact fun s v => .of_eq rfl
  · intro H a ns hl _ hH hS
    exact ⟨a, ns, rfl, hS, hl, fun _ => rfl⟩
  · intro base _ _ hT
    have CT : Cal l.prog w K mg base CX0 1 "_law_take" P_law_take spTake := ⟨_, _, ok_take (fun_mk (st := s_law_take) l_lt cc_lt k_lt) T.z_len T.z_int, PySem.W.mg_of X G a_lt, k_lt, ((fun_mk (st := s_law_take) l_lt cc_lt k_lt).binds fun _ _ _ _ _ _ us hl => match us, hl with | [_, _], _ => rfl)⟩
    have CX : Cal l.prog w K mg base CX0 2 "_law_text" P_law_text spText := ⟨_, _, ok_law_text (fun_mk (st := s_law_text) l_lx cc_lx k_lx) T CT, PySem.W.mg_of X G a_lx, k_lx, ((fun_mk (st := s_law_text) l_lx cc_lx k_lx).binds fun _ _ _ _ _ _ us hl => match us, hl with | [_, _], _ => rfl)⟩
    have CS : Cal l.prog w K mg base CX0 1 "_law_state" P_law_state (spState K) := ⟨_, _, ok_state (fun_mk (st := s_law_state) l_ls cc_ls k_ls) T, PySem.W.mg_of X G a_ls, k_ls, ((fun_mk (st := s_law_state) l_ls cc_ls k_ls).binds fun _ _ _ _ _ _ us hl => match us, hl with | [_], _ => rfl)⟩
    have CP : Cal l.prog w K mg base CX0 1 "_law_pinned" P_law_pinned (sp_law_pinned K) := ⟨_, _, ok_law_pinned (fun_mk (st := s_law_pinned) l_lp cc_lp k_lp) T, PySem.W.mg_of X G a_lp, k_lp, ((fun_mk (st := s_law_pinned) l_lp cc_lp k_lp).binds fun _ _ _ _ _ _ us hl => match us, hl with | [_], _ => rfl)⟩
    have M_cb : CalM l.prog w K mg base CX0 1 cC "begin" P_Claims_begin (sp_Claims_begin cC) := ⟨_, _, ok_Claims_begin (fun_mk (st := s_Claims_begin) l_cb cc_cb k_cb) T, T.clC, ⟨a_cb, i_cb, k_cb⟩, ((fun_mk (st := s_Claims_begin) l_cb cc_cb k_cb).binds fun _ _ _ _ _ _ us hl => match us, hl with | [_], _ => rfl)⟩
    have M_co : CalM l.prog w K mg base CX0 1 cC "is_open" P_Claims_is_open (sp_Claims_is_open cC) := ⟨_, _, ok_Claims_is_open (fun_mk (st := s_Claims_is_open) l_co cc_co k_co) T, T.clC, ⟨a_co, i_co, k_co⟩, ((fun_mk (st := s_Claims_is_open) l_co cc_co k_co).binds fun _ _ _ _ _ _ us hl => match us, hl with | [_, _], _ => rfl)⟩
    have M_cp : CalM l.prog w K mg base CX0 1 cC "pin" P_Claims_pin (sp_Claims_pin cC) := ⟨_, _, ok_Claims_pin (fun_mk (st := s_Claims_pin) l_cp cc_cp k_cp) T, T.clC, ⟨a_cp, i_cp, k_cp⟩, ((fun_mk (st := s_Claims_pin) l_cp cc_cp k_cp).binds fun _ _ _ _ _ _ us hl => match us, hl with | [_, _, _], _ => rfl)⟩
    have M_ce : CalM l.prog w K mg base CX0 1 cC "end" P_Claims_end (sp_Claims_end cC) := ⟨_, _, ok_Claims_end (fun_mk (st := s_Claims_end) l_ce cc_ce k_ce) T, T.clC, ⟨a_ce, i_ce, k_ce⟩, ((fun_mk (st := s_Claims_end) l_ce cc_ce k_ce).binds fun _ _ _ _ _ _ us hl => match us, hl with | [_, _], _ => rfl)⟩
    have M_cn : CalM l.prog w K mg base CX0 1 cC "numbers" P_Claims_numbers (sp_Claims_numbers cC) := ⟨_, _, ok_Claims_numbers (fun_mk (st := s_Claims_numbers) l_cn cc_cn k_cn) T, T.clC, ⟨a_cn, i_cn, k_cn⟩, ((fun_mk (st := s_Claims_numbers) l_cn cc_cn k_cn).binds fun _ _ _ _ _ _ us hl => match us, hl with | [_], _ => rfl)⟩
    have M_cq : CalM l.prog w K mg base CX0 1 cC "pinned" P_Claims_pinned (sp_Claims_pinned cC) := ⟨_, _, ok_Claims_pinned (fun_mk (st := s_Claims_pinned) l_cq cc_cq k_cq) T, T.clC, ⟨a_cq, i_cq, k_cq⟩, ((fun_mk (st := s_Claims_pinned) l_cq cc_cq k_cq).binds fun _ _ _ _ _ _ us hl => match us, hl with | [_], _ => rfl)⟩
    have M_ub : CalM l.prog w K mg base CX0 1 cU "begin" P_Uploads_begin (sp_Uploads_begin cU) := ⟨_, _, ok_Uploads_begin (fun_mk (st := s_Uploads_begin) l_ub cc_ub k_ub) T, T.clU, ⟨a_ub, i_ub, k_ub⟩, ((fun_mk (st := s_Uploads_begin) l_ub cc_ub k_ub).binds fun _ _ _ _ _ _ us hl => match us, hl with | [_], _ => rfl)⟩
    have M_ua : CalM l.prog w K mg base CX0 1 cU "add_part" P_Uploads_add_part (sp_Uploads_add_part cU) := ⟨_, _, ok_Uploads_add_part (fun_mk (st := s_Uploads_add_part) l_ua cc_ua k_ua) T, T.clU, ⟨a_ua, i_ua, k_ua⟩, ((fun_mk (st := s_Uploads_add_part) l_ua cc_ua k_ua).binds fun _ _ _ _ _ _ us hl => match us, hl with | [_, _, _, _], _ => rfl)⟩
    have M_uf : CalM l.prog w K mg base CX0 1 cU "finish" P_Uploads_finish (sp_Uploads_finish cU) := ⟨_, _, ok_Uploads_finish (fun_mk (st := s_Uploads_finish) l_uf cc_uf k_uf) T, T.clU, ⟨a_uf, i_uf, k_uf⟩, ((fun_mk (st := s_Uploads_finish) l_uf cc_uf k_uf).binds fun _ _ _ _ _ _ us hl => match us, hl with | [_, _], _ => rfl)⟩
    have M_ug : CalM l.prog w K mg base CX0 1 cU "forget" P_Uploads_forget (sp_Uploads_forget cU) := ⟨_, _, ok_Uploads_forget (fun_mk (st := s_Uploads_forget) l_ug cc_ug k_ug) T, T.clU, ⟨a_ug, i_ug, k_ug⟩, ((fun_mk (st := s_Uploads_forget) l_ug cc_ug k_ug).binds fun _ _ _ _ _ _ us hl => match us, hl with | [_], _ => rfl)⟩
    have K_c : CalK l.prog w K mg base CX0 1 "Claims" cC P_Claims___init (sp_Claims___init cC) := ⟨_, _, ok_Claims___init (fun_mk (st := s_Claims___init) l_ci cc_ci k_ci) T, ⟨mk_cC, a_ci, i_ci, kc_cC⟩, T.gC, ((fun_mk (st := s_Claims___init) l_ci cc_ci k_ci).binds fun _ _ _ _ _ _ us hl => match us, hl with | [_], _ => rfl)⟩
    have K_u : CalK l.prog w K mg base CX0 1 "Uploads" cU P_Uploads___init (sp_Uploads___init cU) := ⟨_, _, ok_Uploads___init (fun_mk (st := s_Uploads___init) l_ui cc_ui k_ui) T, ⟨mk_cU, a_ui, i_ui, kc_cU⟩, T.gU, ((fun_mk (st := s_Uploads___init) l_ui cc_ui k_ui).binds fun _ _ _ _ _ _ us hl => match us, hl with | [_], _ => rfl)⟩
    have CC : Cal l.prog w K mg base CX0 2 "_law_claim_step" P_law_claim_step (sp_law_claim_step cC) := ⟨_, _, ok_law_claim_step (fun_mk (st := s_law_claim_step) l_lc cc_lc k_lc) T M_cb M_ce M_co M_cp CT, PySem.W.mg_of X G a_lc, k_lc, ((fun_mk (st := s_law_claim_step) l_lc cc_lc k_lc).binds fun _ _ _ _ _ _ us hl => match us, hl with | [_, _, _, _], _ => rfl)⟩
    have CU : Cal l.prog w K mg base CX0 3 "_law_upload_step" P_law_upload_step (sp_law_upload_step cU) := ⟨_, _, ok_law_upload_step (fun_mk (st := s_law_upload_step) l_lu cc_lu k_lu) T M_ua M_ub M_uf M_ug CT CX, PySem.W.mg_of X G a_lu, k_lu, ((fun_mk (st := s_law_upload_step) l_lu cc_lu k_lu).binds fun _ _ _ _ _ _ us hl => match us, hl with | [_, _, _, _], _ => rfl)⟩
    exact ok_law (fun_mk (st := s_law) l_lw cc_lw k_lw) T K_c M_cn M_cq K_u M_uf CC CP CS CT CU
end LW
open PySem PySem.W PyProof.Rows
set_option maxHeartbeats 0 in
theorem PySem.Challenge.cw_layerwharf_k04_claims_and_uploads_holds : PySem.Challenge.rw_layerwharf_k04_claims_and_uploads.Holds := by
  w_on; o_law; k_head; (case hw => w_witness2)
  k_fill
  refine LW.walk_gnd (l := PySem.Challenge.rw_layerwharf_k04_claims_and_uploads) (n := 63) (k := 4) (x := "script") (CX := fun _ => L2.CX0) rfl (by decide) rfl ⟨rfl, by decide, by decide⟩ (fun w h Y => PySem.W.kIn_of Y) ?F (fun _ _ _ _ _ h => h)
  case F =>
    intro w s0 mg mb fa h G Y KX hmg
    refine' LW.all_mk KX G.T.g hmg ?a_ls ?l_ls ?cc_ls ?k_ls ?a_lt ?l_lt ?cc_lt ?k_lt ?a_lx ?l_lx ?cc_lx ?k_lx ?a_lc ?l_lc ?cc_lc ?k_lc ?a_lp ?l_lp ?cc_lp ?k_lp ?a_lu ?l_lu ?cc_lu ?k_lu ?a_lw ?l_lw ?cc_lw ?k_lw ?g_cC ?pg_cC ?hd_cC ?po_cC ?sa_cC ?mk_cC ?kc_cC ?g_cU ?pg_cU ?hd_cU ?po_cU ?sa_cU ?mk_cU ?kc_cU ?z0 ?z1 ?z2 ?z3 ?z4 ?z5 ?z6 ?z7 ?n0 ?n1 ?n2 ?n3 ?a_ci ?i_ci ?l_ci ?cc_ci ?k_ci ?a_cb ?i_cb ?l_cb ?cc_cb ?k_cb ?a_co ?i_co ?l_co ?cc_co ?k_co ?a_cp ?i_cp ?l_cp ?cc_cp ?k_cp ?a_ce ?i_ce ?l_ce ?cc_ce ?k_ce ?a_cn ?i_cn ?l_cn ?cc_cn ?k_cn ?a_cq ?i_cq ?l_cq ?cc_cq ?k_cq ?a_ui ?i_ui ?l_ui ?cc_ui ?k_ui ?a_ub ?i_ub ?l_ub ?cc_ub ?k_ub ?a_ua ?i_ua ?l_ua ?cc_ua ?k_ua ?a_uf ?i_uf ?l_uf ?cc_uf ?k_uf ?a_ug ?i_ug ?l_ug ?cc_ug ?k_ug
    (case a_ls => k_is)
    (case l_ls => k_is)
    (case cc_ls => k_is)
    (case k_ls => k_is)
    (case a_lt => k_is)
    (case l_lt => k_is)
    (case cc_lt => k_is)
    (case k_lt => k_is)
    (case a_lx => k_is)
    (case l_lx => k_is)
    (case cc_lx => k_is)
    (case k_lx => k_is)
    (case a_lc => k_is)
    (case l_lc => k_is)
    (case cc_lc => k_is)
    (case k_lc => k_is)
    (case a_lp => k_is)
    (case l_lp => k_is)
    (case cc_lp => k_is)
    (case k_lp => k_is)
    (case a_lu => k_is)
    (case l_lu => k_is)
    (case cc_lu => k_is)
    (case k_lu => k_is)
    (case a_lw => k_is)
    (case l_lw => k_is)
    (case cc_lw => k_is)
    (case k_lw => k_is)
    (case g_cC => first | k_is | rfl)
    (case pg_cC => first | k_is | rfl)
    (case hd_cC => first | k_is | rfl)
    (case po_cC => first | k_is | rfl)
    (case sa_cC => first | k_is | rfl)
    (case mk_cC => first | k_is | rfl)
    (case kc_cC => first | k_is | rfl)
    (case g_cU => first | k_is | rfl)
    (case pg_cU => first | k_is | rfl)
    (case hd_cU => first | k_is | rfl)
    (case po_cU => first | k_is | rfl)
    (case sa_cU => first | k_is | rfl)
    (case mk_cU => first | k_is | rfl)
    (case kc_cU => first | k_is | rfl)
    (case z0 => first | k_is | rfl)
    (case z1 => first | k_is | rfl)
    (case z2 => first | k_is | rfl)
    (case z3 => first | k_is | rfl)
    (case z4 => first | k_is | rfl)
    (case z5 => first | k_is | rfl)
    (case z6 => first | k_is | rfl)
    (case z7 => first | k_is | rfl)
    (case n0 => first | k_is | rfl)
    (case n1 => first | k_is | rfl)
    (case n2 => first | k_is | rfl)
    (case n3 => first | k_is | rfl)
    (case a_ci => k_is)
    (case i_ci => k_is)
    (case l_ci => k_is)
    (case cc_ci => k_is)
    (case k_ci => k_is)
    (case a_cb => k_is)
    (case i_cb => k_is)
    (case l_cb => k_is)
    (case cc_cb => k_is)
    (case k_cb => k_is)
    (case a_co => k_is)
    (case i_co => k_is)
    (case l_co => k_is)
    (case cc_co => k_is)
    (case k_co => k_is)
    (case a_cp => k_is)
    (case i_cp => k_is)
    (case l_cp => k_is)
    (case cc_cp => k_is)
    (case k_cp => k_is)
    (case a_ce => k_is)
    (case i_ce => k_is)
    (case l_ce => k_is)
    (case cc_ce => k_is)
    (case k_ce => k_is)
    (case a_cn => k_is)
    (case i_cn => k_is)
    (case l_cn => k_is)
    (case cc_cn => k_is)
    (case k_cn => k_is)
    (case a_cq => k_is)
    (case i_cq => k_is)
    (case l_cq => k_is)
    (case cc_cq => k_is)
    (case k_cq => k_is)
    (case a_ui => k_is)
    (case i_ui => k_is)
    (case l_ui => k_is)
    (case cc_ui => k_is)
    (case k_ui => k_is)
    (case a_ub => k_is)
    (case i_ub => k_is)
    (case l_ub => k_is)
    (case cc_ub => k_is)
    (case k_ub => k_is)
    (case a_ua => k_is)
    (case i_ua => k_is)
    (case l_ua => k_is)
    (case cc_ua => k_is)
    (case k_ua => k_is)
    (case a_uf => k_is)
    (case i_uf => k_is)
    (case l_uf => k_is)
    (case cc_uf => k_is)
    (case k_uf => k_is)
    (case a_ug => k_is)
    (case i_ug => k_is)
    (case l_ug => k_is)
    (case cc_ug => k_is)
    (case k_ug => k_is)
