import PyProof.Rows.All
import Wide.All
import OpenK.AllK
import Wide.FinOn
import HandS.ForMost
import HandS.AnyAll
import HandS.FStr
import HandS.Walk
import HandS.EndTab
import HandS.EndOwn
import HandS.Codes
import HandS.Strs
import HandS.IsInst
import HandS.Style
import HandS.Replace
import PySem.Challenge.RW_layerwharf_k01_addresses
set_option Elab.async false
set_option linter.all false
set_option maxRecDepth 100000
set_option maxHeartbeats 4000000
namespace LW
open PySem PySem.Spec PyProof.Rows L2 GxR
/-- a test of one sign that may read names of the module -/
def EltG (P : Program) (w : World) (mg : Str → Option Value) (sc : Scope) (x : Str) (e : Expr) (pb : Nat → Bool) : Prop :=
  ∀ (env : Env) (A : Around) (E : Value → Shared → Prop) (c : Nat) (t : Tok) (s : Shared) (m : Str → Option Value),
    env.scope = sc → env.globals = mainGlobals → s.heap.Ns mainGlobals mg → s.heap.Ns env.locals m → m x = some (.str ⟨#[c]⟩ t) →
    wpAny (model P w) A (eval e env) (fun y s' => y = .bool (pb c) ∧ Keeps s s') E s
theorem elt_inG {P : Program} {w : World} {mg : Str → Option Value} {sc : Scope} {x g z : Str} {tz : Tok} {p1 p2 p3 : Pos}
    (hk : sc.kind = .function) (hl : sc.names.lookup x = some .local) (hg : sc.names.lookup g = some .globalImplicit) (hm : mg g = some (.str z tz))
    (d1 : (x == ("__debug__" : Str)) = false := by decide) (d2 : (g == ("__debug__" : Str)) = false := by decide) :
    EltG P w mg sc x (.Compare (.Name x p1) [.In] [.Name g p2] p3) (fun c => decide (c ∈ z.cps.toList)) := by
  intro env A E c t s m e1 e2 n1 n2 hx
  subst e1
  refine wpAny_Compare1 (wpAny_Name (wpAny_loadName_local hk hl n2 hx ?_) d1)
  refine Calls.Name_function_global hk hg (Calls.loadGlobal_global (by rw [e2]; exact n1) hm ?_) d2
  refine PyProof.Rows.in_str ⟨?_, keeps_refl s⟩
  rw [PySem.StrLaws.found_one z c]
theorem ns_at {h h' : Heap} {a : Addr} {m : Str → Option Value} (n : h.Ns a m) (k : ∀ o, h.get? a = some o → h'.get? a = some o) : h'.Ns a m := by
  obtain ⟨o, es, ep, e, r⟩ := n
  exact ⟨o, es, ep, k o e, r⟩
end LW
namespace LW
open PySem PySem.Spec PyProof.Rows L2 GxR
section
variable {X : Cx} {pins : List (Addr × Obj)} {σ : L2.St} {H : Hp} {s : Shared}
/-- (test for x in text), the test reading the module's names: made, and ready to be walked -/
theorem gen_textG {c T : Addr} {e it : Expr} {x : Str} {px gp : Pos} {sc : Scope} {pb : Nat → Bool} {te : TE} {k : Nat} {Q' : Value → Shared → Prop} {R : Str → Hp → Prop}
    (hr : Room k X.A) (B : TabB X.base X.mg c T) (hc : X.env.code = .ref c) (S : GenS X.env sc x) (hi : PE X it te)
    (he : EltG X.prog X.w X.mg sc x e pb) (hs : ∀ v, genFold it X.env v = pure v) (I : Inv X pins σ H s)
    (h : te σ H fun v H1 => ∃ a : Str, v = .str a ∧ TabG H1 T ∧ R a H1)
    (q : ∀ a H1 g s5, R a H1 → Ready X pins σ H1 T a pb g s5 → Q' (.ref g) s5) :
    wpAny (model X.prog X.w) X.A (eval (.GeneratorExp e [⟨.Name x px, it, [], 0⟩] sc gp) X.env) Q' X.xe s := by
  have room : X.A.depth < recursionLimit := hr.depth
  refine wpAny_GeneratorExp_walksQ hr.hd S.co (closure_ok S.free) S.cell S.dot S.loc S.kind room ?_ hs
  refine thn (hi.run pins s σ H _ I h) ?_
  rintro xv s1 ⟨v, H1, I1, r1, a, ev, ⟨ps, hT, tr⟩, ra⟩
  subst ev
  obtain ⟨t, et⟩ := r1
  subst et
  refine wpAny_pyIter_str ?_
  intro o St W st0
  have oT : s1.heap.get? T = some { cls := .none, data := .fields ps } := I1.hok T _ hT
  have ltT := Heap.lt_size oT
  have oT2 : (s1.heap.push o).get? T = some { cls := .none, data := .fields ps } := Heap.get?_push_of_some _ oT
  have lim : (s1.heap.push o).NoLimit := I1.nolimit.push o
  have cd : PySem.W.CodeHd (s1.heap.push o) c T := B.code.keeps fun b u hb => Heap.get?_push_of_some _ (I1.bk b u hb)
  have psz : (s1.heap.push o).objs.size = s1.heap.objs.size + 1 := Heap.size_push ..
  have goG : ∃ og, s1.heap.get? mainGlobals = some og ∧ mainGlobals ≠ T := by
    obtain ⟨og, _, _, eg, _⟩ := I1.mod.glob
    exact ⟨og, I1.bk _ _ eg, B.gP⟩
  obtain ⟨og, gg, gT⟩ := goG
  have nsG : s1.heap.Ns mainGlobals X.mg := I1.mod.glob.keeps I1.bk
  -- what is left once the code of the generator is there
  have rest : ∀ (cv : Value) (h3 : Heap) (tk : Nat) (ps' more : Array Value), Heap.ExtBut T (s1.heap.push o) h3 → (s1.heap.push o).objs.size ≤ h3.objs.size →
      h3.get? T = some { cls := .none, data := .fields ps' } → ps' = ps ++ more → TriplesOk ps'.toList →
      wpAny (model X.prog X.w) X.A (builtinsFor X.env.globals X.env.builtins) (fun bi s4 =>
        ∃ Ia fp wr n0 Pf St0 pz F, Value.ref s1.heap.objs.size = .ref Ia ∧ (∀ A' : Around, A'.handled = none → Walks X.prog X.w A' Ia fp wr n0 Pf St0) ∧ St0 0 s4.heap ∧
          (∀ b ∈ fp, b < s4.heap.objs.size) ∧ s4.heap.NoLimit ∧ cStatics ∉ wr ∧
          (∀ hf : Heap, (∀ b u, s4.heap.get? b = some u → hf.get? b = some u) →
            QuietGen X.prog X.w (genEnv sc (cloFrom X.env.cells sc.names []) s4.heap.objs.size cv bi X.env) x [] e (List.range s4.heap.objs.size) wr Pf pz F hf) ∧
          (∀ g h5 tk' gs, gs.bare = true → s4.heap.objs.size < g → h5.objs.size = g + 1 → (∀ b u, s4.heap.get? b = some u → h5.get? b = some u) →
            WalksS X.prog X.w X.A.in4 g (g :: s4.heap.objs.size :: List.range s4.heap.objs.size) (s4.heap.objs.size :: wr) (GenOnlyQ s4.gens.size) (passing pz n0 0).length
              (fun j y => ∃ i, (passing pz n0 0)[j]? = some i ∧ F i y) (GenAt X.prog X.w X.A.in4 g s4.gens.size s4.heap.objs.size (List.range s4.heap.objs.size) wr pz n0 F) →
            GenAt X.prog X.w X.A.in4 g s4.gens.size s4.heap.objs.size (List.range s4.heap.objs.size) wr pz n0 F 0 { s4 with gens := s4.gens.push gs, toks := tk', heap := h5 } →
            Q' (.ref g) { s4 with gens := s4.gens.push gs, toks := tk', heap := h5 })) X.xe { s1 with heap := h3, toks := tk } := by
    intro cv h3 tk ps' more ext hz hT3 emore tr3
    have old : ∀ b u, b ≠ T → s1.heap.get? b = some u → h3.get? b = some u := fun b u n eu => ext b u n (Heap.get?_push_of_some _ eu)
    obtain ⟨bm, ob, m1, m2, m3, m4, m5, m6, m7, m8⟩ := B.bm
    have csT : cStatics ≠ T := by
      intro ee
      obtain ⟨_, ⟨o', es, ep, ho, hd, _⟩, _⟩ := I1.nolimit
      rw [ee, oT] at ho
      cases ho
      cases hd
    have csl : cStatics < s1.heap.objs.size := by
      obtain ⟨_, hn, _⟩ := I1.nolimit
      exact hn.lt
    have g3 : h3.Ns mainGlobals X.mg := ns_at nsG fun u hu => old _ u gT hu
    refine wpAny_builtinsFor (m := X.mg) (by rw [I1.ok.glob]; exact g3) m1 m2 (old _ _ m4 (I1.bk _ _ m5)) m6 m7 m8 ?_
    refine ⟨s1.heap.objs.size, [s1.heap.objs.size], [s1.heap.objs.size], a.cps.size, SignAt a, St, fun _ => true, fun i y => ∃ cc, a.cps[i]? = some cc ∧ y = .bool (pb cc), rfl, W, ?_, ?_, lim.extBut ext csT, ?_, ?_, ?_⟩
    · refine (W X.A hr.hd).frame _ _ _ st0 fun b hb u eu => ext b u ?_ eu
      have eb : b = s1.heap.objs.size := by simpa using hb
      rw [eb]
      exact Nat.ne_of_gt ltT
    · intro b hb
      have eb : b = s1.heap.objs.size := by simpa using hb
      rw [eb]
      show s1.heap.objs.size < h3.objs.size
      omega
    · intro z
      have z' : cStatics = s1.heap.objs.size := by simpa using z
      exact Nat.ne_of_lt csl z'
    · intro hf kf
      refine ⟨?_, ?_⟩
      · intro A' E' i v s₂ m₂ _ _ _ _ _
        simp only [List.forIn_nil]
        exact wpAny_pure ⟨rfl, keeps_refl _⟩
      · intro A' E' i v s₂ m₂ hA pv _ hn hm hk
        obtain ⟨cc, u, hcc, ev⟩ := pv
        subst ev
        have gl : s₂.heap.Ns mainGlobals X.mg := ns_at g3 fun u hu => by
          refine hk mainGlobals (List.mem_range.mpr (Heap.lt_size hu)) ?_ u (kf _ _ hu)
          intro z
          have z' : mainGlobals = s1.heap.objs.size := by simpa using z
          have l := Heap.lt_size gg
          rw [z'] at l
          exact Nat.lt_irrefl _ l
        have res := he (genEnv sc (cloFrom X.env.cells sc.names []) h3.objs.size cv builtinsNs X.env) A' E' cc u s₂ m₂ rfl I1.ok.glob gl hn hm
        exact wpAny_mono res (fun y s3 r => ⟨⟨cc, hcc, r.1⟩, r.2⟩) fun _ _ z => z
    · intro g h5 tk5 gs hgb hag hsz5 hk5 W5 hat
      simp only [GxR.passing_true, List.length_range] at W5
      refine q a H1 g _ ra ⟨_, _, _, _, _, W5.in4_1, hat, ?_, ?_⟩
      · rintro j y sj Qj Ej ⟨i, hij, cc, hcc, ey⟩ hq
        subst ey
        obtain ⟨hj, ej⟩ := List.getElem?_eq_some_iff.mp hij
        rw [List.getElem_range] at ej
        subst ej
        have at_j : a.cps.toList[j]? = some cc := by rw [Array.getElem?_toList]; exact hcc
        rw [trF_some at_j] at hq
        exact wpAny_truthy_bool hq
      · intro s' hm
        have nw : ∀ b u, s1.heap.get? b = some u → b ∉ h3.objs.size :: [s1.heap.objs.size] := by
          intro b u eu hb
          have l := Heap.lt_size eu
          have l3 : (s1.heap.objs.size : Nat) ≤ h3.objs.size := by omega
          rcases List.mem_cons.mp hb with z | z
          · rw [z] at l
            exact absurd (Nat.lt_of_lt_of_le l l3) (Nat.lt_irrefl _)
          · have z' : b = s1.heap.objs.size := by simpa using z
            rw [z'] at l
            exact Nat.lt_irrefl _ l
        have J := inv_tab (more := more) (h' := s'.heap) (g' := s'.gens) (d' := s'.drawn) (t' := s'.toks) I1 hT
          (fun b u n eu => hm.heap b u (nw b u eu) (hk5 b u (old b u n eu)))
          (by rw [← emore]; exact hm.heap T _ (nw T _ oT) (hk5 T _ hT3)) (AllBare.movedS (I1.bare.push hgb) hm)
        rw [sh_eta s1 s' hm.os] at J
        exact ⟨_, ⟨⟨ps ++ more, upd_same, by rw [← emore]; exact tr3⟩, fun b n => upd_ne n⟩, J⟩
  refine ⟨lim, ?_⟩
  cases hf : codeAmong gp ps.toList with
  | some cv =>
    refine wpAny_genexprCode_hit hc (cd.code oT2 tr) hf ?_
    exact rest cv (s1.heap.push o) s1.toks ps #[] (Heap.ExtBut.refl _ _) (Nat.le_refl _) oT2 (by simp) tr
  | none =>
    refine wpAny_genexprCodeX hc (cd.code oT2 tr) (cd.tab oT2) hf ?_
    intro c' h' tk ext ge lt isC _ htab _
    obtain ⟨o1, vs, f1, tf, fl, tg, inF, tx, tt, op, _, _, _, _, _, _, _, _, _, tr3, _⟩ := isC
    exact rest _ h' tk _ _ ext (Nat.le_trans ge (Nat.le_of_lt lt)) htab.2 rfl tr3
/-- all(test for x in e), e a text -/
theorem pe_allG {c T : Addr} {e it : Expr} {x : Str} {px p pos gp : Pos} {sc : Scope} {pb : Nat → Bool} {te : TE} {k : Nat}
    (hr : Room k X.A) (hg : Gl X "all") (hm : X.mg "all" = none) (B : TabB X.base X.mg c T) (hc : X.env.code = .ref c) (S : GenS X.env sc x)
    (hi : PE X it te) (he : EltG X.prog X.w X.mg sc x e pb) (hs : ∀ v, genFold it X.env v = pure v := by intro _; rfl)
    (ha : starEach [.GeneratorExp e [⟨.Name x px, it, [], 0⟩] sc gp] X.env = (false, eval (.GeneratorExp e [⟨.Name x px, it, [], 0⟩] sc gp) X.env) :: starEach [] X.env := by rfl) :
    PE X (.Call (.Name "all" p) [.GeneratorExp e [⟨.Name x px, it, [], 0⟩] sc gp] [] pos) (tAllS T pb te) := by
  constructor
  intro pins s σ H Q I h
  refine wpAny_Call_Name_kw (ld_blt I hg hm (u := .builtin "all") (by decide +kernel) ?_)
  refine PyProof.Rows.callWith_builtin1 ?_ ha (by rfl)
  rw [ha]
  show wpAny _ _ (spliced ((false, eval (.GeneratorExp e [⟨.Name x px, it, [], 0⟩] sc gp) X.env) :: backTo pos (starEach [] X.env))) _ _ s
  refine Calls.spliced_cons (gen_textG (R := fun a H1 => ∀ H2, Tabbed T H1 H2 → Q (.bl (a.cps.toList.all pb)) H2) hr B hc S hi he hs I h ?_)
  rintro a H1 g s5 hR ⟨fp, wr, G, F, St, W, hst, htr, hI⟩
  refine Calls.spliced_nil (call_all_walkS (W.self 0 _ _ _ hst ⟨g, fp, wr, G, _, F, St, _, rfl, W, hst, htr, ?_⟩))
  intro s' hmv
  obtain ⟨H2, hT, J⟩ := hI s' hmv
  refine ⟨.bl _, H2, J, rfl, ?_⟩
  rw [all_signs a pb]
  exact hR H2 hT
end
end LW
namespace LW
open PySem
/-! ### sixteen hexadecimal digits -/
def dig (d : Nat) : Nat := if d < 10 then 48 + d else 87 + d
/-- k digits of n -/
def hx : Nat → Nat → List Nat
  | 0, _ => []
  | k + 1, n => hx k (n / 16) ++ [dig (n % 16)]
theorem hx_len : ∀ k n, (hx k n).length = k
  | 0, _ => rfl
  | k + 1, n => by simp [hx, hx_len k]
theorem hx_zero : ∀ k, hx k 0 = List.replicate k 48
  | 0 => rfl
  | k + 1 => by
    show hx k (0 / 16) ++ [dig (0 % 16)] = _
    rw [Nat.zero_div, hx_zero k, List.replicate_succ']
    rfl
theorem core_acc : ∀ (f n : Nat) (ds : List Char), Nat.toDigitsCore 16 f n ds = Nat.toDigitsCore 16 f n [] ++ ds
  | 0, n, ds => rfl
  | f + 1, n, ds => by
    unfold Nat.toDigitsCore
    by_cases h : n / 16 = 0
    · simp [h]
    · simp only [h, if_false]
      rw [core_acc f (n / 16) (Nat.digitChar (n % 16) :: ds), core_acc f (n / 16) [Nat.digitChar (n % 16)]]
      simp
theorem dig_char {d : Nat} (h : d < 16) : (Nat.digitChar d).toNat = dig d := by
  have : ∀ d : Fin 16, (Nat.digitChar d.val).toNat = dig d.val := by decide +kernel
  exact this ⟨d, h⟩
theorem core_hx : ∀ (k f n : Nat), 1 ≤ k → n < 16 ^ k → n < f →
    ((Nat.toDigitsCore 16 f n []).map Char.toNat).length ≤ k ∧
    List.replicate (k - ((Nat.toDigitsCore 16 f n []).map Char.toNat).length) 48 ++ (Nat.toDigitsCore 16 f n []).map Char.toNat = hx k n
  | 0, _, _, h, _, _ => by omega
  | k + 1, 0, n, _, _, h => by omega
  | k + 1, f + 1, n, _, h, hf => by
    have hm : n % 16 < 16 := Nat.mod_lt _ (by decide)
    by_cases h0 : n / 16 = 0
    · have e : Nat.toDigitsCore 16 (f + 1) n [] = [Nat.digitChar (n % 16)] := by
        unfold Nat.toDigitsCore
        simp [h0]
      rw [e]
      refine ⟨by simp, ?_⟩
      show List.replicate (k + 1 - 1) 48 ++ [(Nat.digitChar (n % 16)).toNat] = hx k (n / 16) ++ [dig (n % 16)]
      rw [h0, hx_zero, dig_char hm, Nat.add_sub_cancel]
    · have e : Nat.toDigitsCore 16 (f + 1) n [] = Nat.toDigitsCore 16 f (n / 16) [] ++ [Nat.digitChar (n % 16)] := by
        rw [← core_acc]
        conv => lhs; unfold Nat.toDigitsCore
        simp [h0]
      have h16 : n / 16 < 16 ^ k := by
        rw [Nat.div_lt_iff_lt_mul (by decide)]
        rw [Nat.pow_succ] at h
        exact h
      have k1 : 1 ≤ k := by
        cases k with
        | zero => rw [Nat.pow_zero] at h16; omega
        | succ k => omega
      have ih := core_hx k f (n / 16) k1 h16 (by omega)
      rw [e, List.map_append]
      refine ⟨by have i1 := ih.1; simp only [List.length_append, List.length_map, List.length_cons, List.length_nil] at i1 ⊢; omega, ?_⟩
      show List.replicate (k + 1 - _) 48 ++ (_ ++ [(Nat.digitChar (n % 16)).toNat]) = hx k (n / 16) ++ [dig (n % 16)]
      rw [← ih.2, dig_char hm, ← List.append_assoc]
      have el : ((Nat.toDigitsCore 16 f (n / 16) []).map Char.toNat ++ ([Nat.digitChar (n % 16)].map Char.toNat)).length = ((Nat.toDigitsCore 16 f (n / 16) []).map Char.toNat).length + 1 := by simp
      rw [el, show k + 1 - (((Nat.toDigitsCore 16 f (n / 16) []).map Char.toNat).length + 1) = k - ((Nat.toDigitsCore 16 f (n / 16) []).map Char.toNat).length by omega]
theorem toDigits_hx {n : Nat} (h : n < 16 ^ 16) : ((Nat.toDigits 16 n).map Char.toNat).length ≤ 16 ∧
    List.replicate (16 - ((Nat.toDigits 16 n).map Char.toNat).length) 48 ++ (Nat.toDigits 16 n).map Char.toNat = hx 16 n := core_hx 16 (n + 1) n (by decide) h (by omega)
theorem toDigits_ne (n : Nat) : ((Nat.toDigits 16 n).map Char.toNat).isEmpty = false := by
  unfold Nat.toDigits
  by_cases h0 : n / 16 = 0
  · unfold Nat.toDigitsCore
    simp [h0]
  · unfold Nat.toDigitsCore
    simp only [h0, if_false]
    rw [core_acc]
    simp
/-- the digits as they are counted -/
def hexDigits : List Nat := [48, 49, 50, 51, 52, 53, 54, 55, 56, 57, 97, 98, 99, 100, 101, 102]
theorem dig_mem {d : Nat} (h : d < 16) : dig d ∈ hexDigits := by
  have : ∀ d : Fin 16, dig d.val ∈ hexDigits := by decide +kernel
  exact this ⟨d, h⟩
theorem hx_mem : ∀ k n, ∀ c ∈ hx k n, c ∈ hexDigits
  | 0, _, c, h => by simp [hx] at h
  | k + 1, n, c, h => by
    rcases List.mem_append.mp h with h | h
    · exact hx_mem k _ c h
    · rw [List.mem_singleton.mp h]
      exact dig_mem (Nat.mod_lt _ (by decide))
/-- the value of a digit: its first place -/
def val (c : Nat) : Nat := hexDigits.idxOf c
def readHex (l : List Nat) : Nat := l.foldl (fun n c => n * 16 + val c) 0
theorem val_dig {d : Nat} (h : d < 16) : val (dig d) = d := by
  have : ∀ d : Fin 16, val (dig d.val) = d.val := by decide +kernel
  exact this ⟨d, h⟩
theorem read_hx : ∀ k n, n < 16 ^ k → readHex (hx k n) = n
  | 0, n, h => by
    rw [Nat.pow_zero] at h
    have : n = 0 := by omega
    subst this
    rfl
  | k + 1, n, h => by
    have h16 : n / 16 < 16 ^ k := by
      rw [Nat.div_lt_iff_lt_mul (by decide)]
      rw [Nat.pow_succ] at h
      exact h
    have ih := read_hx k _ h16
    unfold readHex at ih ⊢
    show (hx k (n / 16) ++ [dig (n % 16)]).foldl _ 0 = n
    rw [List.foldl_append, ih]
    show n / 16 * 16 + val (dig (n % 16)) = n
    rw [val_dig (Nat.mod_lt _ (by decide))]
    omega
/-- the address's text of a number -/
def hexS (n : Nat) : Str := ⟨(hx 16 n).toArray⟩
end LW
namespace LW
open PySem PySem.Spec PyProof.Rows L2
/-- the field of a number in sixteen hexadecimal digits -/
def fld (neg : Bool) (n : Nat) : Str :=
  let sg : List Nat := if neg then [45] else []
  let ds0 : List Nat := (Nat.toDigits 16 n).map fun c => c.toNat
  let other : Int := (sg.length : Int) + 0 + 0
  let room : Int := 16 - other
  let ds : List Nat := if ds0.isEmpty then [] else List.replicate (room.toNat - ds0.length) 48 ++ ds0
  let pad : Nat := (16 - other - (ds.length : Int)).toNat
  ⟨(List.replicate 0 48 ++ sg ++ [] ++ List.replicate pad 48 ++ ds ++ [] ++ List.replicate 0 48).toArray⟩
theorem iteNo {c : Prop} [Decidable c] {X Y : Prop} (hc : ¬ c) (h : Y) : if c then X else Y := by
  rw [if_neg hc]
  exact h
theorem iteYes {c : Prop} [Decidable c] {X Y : Prop} (hc : c) (h : X) : if c then X else Y := by
  rw [if_pos hc]
  exact h
theorem gives_hex (a : Int) (t u : Tok) : Gives (Builtin.«int.__format__» ⟨[.int a t, .str "016x" u], []⟩) (.str (fld (decide (a < 0)) a.natAbs)) := by
  intro prog w A R s hq
  unfold Builtin.«int.__format__»
  refine wpAny_bind (wpAny_of_eq (a := (_, _)) rfl ?_)
  refine wpAny_bind (wpAny_of_eq (a := a) rfl ?_)
  refine wpAny_bind (wpAny_typeNameOf (T := "str") (typeIs_str _ _ _) (by decide) fun _ => ?_)
  refine wpAny_bind (wpAny_of_eq (a := some _) rfl ?_)
  refine wpAny_ite (iteNo (by decide +kernel) ?_)
  refine wpAny_ite (iteNo (by decide +kernel) ?_)
  refine wpAny_bind (wpAny_typeNameOfCut_int ?_)
  have hp : Builtin.Float.parseFormatSpec (Str.ofString "016x").cps.toList "int" 62 = .ok ⟨48, 61, none, false, false, some 16, none, none, some 120⟩ := by rfl
  rw [hp]
  refine wpAny_ite (iteYes (by decide +kernel) ?_)
  exact Gives.of_eq (m := .str (fld (decide (a < 0)) a.natAbs)) rfl prog w A R s hq
end LW
namespace LW
open PySem PySem.Spec PyProof.Rows L2
theorem fld_hexS {n : Nat} (h : n < 16 ^ 16) : fld false n = hexS n := by
  have e := toDigits_hx h
  have l : (hx 16 n).length = 16 := hx_len 16 n
  unfold fld hexS
  simp only [toDigits_ne, Bool.false_eq_true, if_false, List.length_nil, List.replicate_zero, List.nil_append, List.append_nil]
  rw [show ((16 : Int) - (((0 : Nat) : Int) + 0 + 0)).toNat = 16 from rfl, show (fun c : Char => c.toNat) = Char.toNat from rfl, e.2, l]
  rfl
theorem gives_hexS {n : Nat} (h : n < 16 ^ 16) (t u : Tok) : Gives (Builtin.«int.__format__» ⟨[.int (n : Int) t, .str "016x" u], []⟩) (.str (hexS n)) := by
  have g := gives_hex (n : Int) t u
  rw [show decide ((n : Int) < 0) = false from decide_eq_false (by omega), Int.natAbs_natCast, fld_hexS h] at g
  exact g
theorem hexS_len (n : Nat) : (hexS n).length = 16 := by
  show (hx 16 n).toArray.size = 16
  rw [List.size_toArray, hx_len]
section
variable {X : Cx}
/-- {n:016x} -/
def tHex (te : TE) : TE := fun σ H Q => te σ H fun x H1 => ∃ n : Nat, x = .int (n : Int) ∧ n < 16 ^ 16 ∧ Q (.str (hexS n)) H1
theorem pe_hex {e : Expr} {te : TE} {j : Nat} {p1 p2 pos : Pos} (he : PE X e te) : PE X (.FormattedValue e (-1) (some (.JoinedStr [.Constant (.str "016x") j p1] p2)) pos) (tHex te) := by
  constructor
  intro pins s σ H Q I h
  refine wpAny_FormattedValue_spec (thn (he.run pins s σ H _ I h) ?_)
  rintro v s1 ⟨x, H1, I1, r1, n, ex, hn, q⟩
  subst ex
  obtain ⟨t, et⟩ := r1
  subst et
  refine wpAny_JoinedStr_one (Calls.Constant_str ⟨_, _, rfl, ?_⟩)
  refine wpAny_formatField_spec (by decide +kernel) (fun s' => typeIs_int s' (n : Int) t) F.slot_int_format F.entry_int_format F.args_int_format_2 (fun u => gives_hexS hn t u) ?_ (by decide +kernel)
    (by rw [hexS_len]; decide +kernel)
  exact ⟨.str (hexS n), H1, (I1.tok _).tok _, ⟨_, rfl⟩, q⟩
end
end LW
namespace LW
open PySem PySem.Spec PyProof.Rows L2
/-- as it was but at D -/
def But (D : Addr) (H H' : Hp) : Prop := ∀ b, b ≠ D → H' b = H b
theorem But.refl (D : Addr) (H : Hp) : But D H H := fun _ _ => rfl
theorem But.upd {D : Addr} {H : Hp} {o : HO} : But D H (upd H D o) := fun _ hb => upd_ne hb
theorem But.same {D : Addr} {H H' : Hp} (h : But D H H') (n : H D = none) : Same H H' := fun b o e => by
  rw [h b (ne_of_none e n)]
  exact e
theorem But.list {K : PySem.W.Frag} {D a : Addr} {H H' : Hp} {xs : List V} (h : But D H H') (n : H D = none) (s : SqL K H a xs) : SqL K H' a xs := (h.same n).seq s
theorem upd_eq {H H' : Hp} {D : Addr} {o : HO} (h : But D H H') (e : H' D = some o) : H' = upd H D o := by
  funext b
  by_cases hb : b = D
  · subst hb; rw [e, upd_same]
  · rw [h b hb, upd_ne hb]
section
variable {J : It} {n : Nat} {G : Hp → Prop} {Y : Nat → Hp → V → Hp → Prop}
/-- a comprehension whose parts make nothing -/
theorem lc_flt (w : Walk J n G Y) {j : Nat} {tt : TT} {te : TE} {vs : List Nat} {σ : L2.St} {H1 : Hp} {D : Addr} {Qd : Hp → Prop} (t : Nat → Bool) (f : Nat → V)
    (hn : n < 16000000) (hG : ∀ H, But D H1 H → G H) (hw : ∀ x, wipe ((wipe σ vs).set j (some x)) vs = wipe σ vs)
    (hs : ∀ i x H H', i < n → But D H1 H → Y i H x H' → H' = H ∧ (∀ Q : Bool → Hp → Prop, Q (t i) H → tt ((wipe σ vs).set j (some x)) H Q) ∧ (t i = true → ∀ Q : VK, Q (f i) H → te ((wipe σ vs).set j (some x)) H Q))
    (hd : Qd (upd H1 D (.lst (((List.range n).filter t).map f)))) :
    ∃ W : Nat → Nat → Hp → Prop, (∃ m, W 0 m (upd H1 D (.lst []))) ∧ ∀ i m H, W i m H →
      (J.stop i H ∧ Qd H) ∨ (J.go i H ∧ ∃ Nx : Hp → Prop, (∀ H', Nx H' → ∃ m', m' < m ∧ W (i + 1) m' H') ∧ ∀ x H', J.yld i H x H' → gName j x (wipe σ vs) H' fun σ2 H2 => wipe σ2 vs = wipe σ vs ∧ tt σ2 H2 fun b H3 =>
        if b = true then te σ2 H3 fun y H4 => ∃ acc, H4 D = some (.lst acc) ∧ acc.length < sizeLine ∧ Nx (upd H4 D (.lst (acc ++ [y]))) else Nx H3) := by
  refine lc_it w (fun i H => H = upd H1 D (.lst (((List.range i).filter t).map f))) rfl (fun i H _ e => hG H (by rw [e]; exact But.upd)) ?_ (fun H e => by rw [e]; exact hd)
  rintro i x H H' hi e hy
  have b1 : But D H1 H := by rw [e]; exact But.upd
  obtain ⟨e2, ht, he⟩ := hs i x H H' hi b1 hy
  subst e2
  have hD : H' D = some (.lst (((List.range i).filter t).map f)) := by rw [e, upd_same]
  refine ⟨hw x, ht _ ?_⟩
  rw [List.range_succ, List.filter_append, List.map_append]
  cases hti : t i with
  | true =>
    rw [if_pos rfl]
    refine he hti _ ⟨_, hD, ?_, ?_⟩
    · have l1 : (((List.range i).filter t).map f).length ≤ i := by
        rw [List.length_map]
        exact Nat.le_trans (List.length_filter_le _ _) (by rw [List.length_range]; exact Nat.le_refl _)
      exact Nat.lt_of_le_of_lt l1 (Nat.lt_trans hi (Nat.lt_trans hn (by decide)))
    · rw [e, upd_upd]
      simp [hti]
  | false =>
    rw [if_neg Bool.false_ne_true]
    simp [hti]
    exact e
theorem lc_map (w : Walk J n G Y) {j : Nat} {te : TE} {vs : List Nat} {σ : L2.St} {H1 : Hp} {D : Addr} {Qd : Hp → Prop} (f : Nat → V)
    (hn : n < 16000000) (hG : ∀ H, But D H1 H → G H) (hw : ∀ x, wipe ((wipe σ vs).set j (some x)) vs = wipe σ vs)
    (hs : ∀ i x H H', i < n → But D H1 H → Y i H x H' → H' = H ∧ ∀ Q : VK, Q (f i) H → te ((wipe σ vs).set j (some x)) H Q)
    (hd : Qd (upd H1 D (.lst ((List.range n).map f)))) :
    ∃ W : Nat → Nat → Hp → Prop, (∃ m, W 0 m (upd H1 D (.lst []))) ∧ ∀ i m H, W i m H →
      (J.stop i H ∧ Qd H) ∨ (J.go i H ∧ ∃ Nx : Hp → Prop, (∀ H', Nx H' → ∃ m', m' < m ∧ W (i + 1) m' H') ∧ ∀ x H', J.yld i H x H' → gName j x (wipe σ vs) H' fun σ2 H2 => wipe σ2 vs = wipe σ vs ∧ tYes σ2 H2 fun b H3 =>
        if b = true then te σ2 H3 fun y H4 => ∃ acc, H4 D = some (.lst acc) ∧ acc.length < sizeLine ∧ Nx (upd H4 D (.lst (acc ++ [y]))) else Nx H3) := by
  refine lc_flt w (tt := tYes) (fun _ => true) f hn hG hw (fun i x H H' hi hb hy => ?_) ?_
  · obtain ⟨e, k⟩ := hs i x H H' hi hb hy
    exact ⟨e, fun Q q => q, fun _ => k⟩
  · rw [List.filter_eq_self.mpr (fun _ _ => rfl)]
    exact hd
end
theorem range_map_get {α β : Type} (g : α → β) (d : α) (l : List α) : (List.range l.length).map (fun i => g (l.getD i d)) = l.map g := by
  apply List.ext_getElem
  · simp
  · intro i h1 h2
    simp at h1 h2 ⊢
    rw [List.getElem?_eq_getElem (by simpa using h1)]
    rfl
theorem cutV_map {α : Type} (g : α → V) (xs : List α) (lo hi : Option Int) : ∃ ys : List α, cutV (xs.map g) lo hi = ys.map g ∧ ys.length ≤ xs.length ∧ ∀ y ∈ ys, y ∈ xs := by
  refine ⟨(xs.drop (HT.sIx xs.length 0 lo)).take (HT.sIx xs.length xs.length hi - HT.sIx xs.length 0 lo), ?_, ?_, ?_⟩
  · unfold cutV
    rw [List.length_map, ← List.map_drop, ← List.map_take]
  · rw [List.length_take, List.length_drop]
    omega
  · intro y hy
    exact List.mem_of_mem_drop (List.mem_of_mem_take hy)
section
variable {X : Cx}
/-- repr(b) -/
theorem call_repr_bl : CallR X (.builtin "repr") (fun xs H Q => ∃ b : Bool, xs = [.bl b] ∧ Q (.str (if b then "True" else "False")) H) := by
  intro pins s σ H xs us Q I r h
  obtain ⟨b, rfl, q⟩ := h
  obtain ⟨u, rfl, r1⟩ := vals1 r
  cases (show u = Value.bool b from r1)
  exact PySem.P.repr_of_bool ⟨.str _, H, I.tok _, ⟨_, rfl⟩, q⟩
end
end LW
namespace LW
open PySem PySem.Spec PyProof.Rows L2
def topS (i : Nat) : Stmt := PySem.Challenge.pw_layerwharf_k01_addresses.main.body.getD i (.Pass ⟨0, 0, 0, 0⟩)
/-! ### the number of an address -/
def kinds : List Str := ["layer", "image", "bundle"]
def stepN (n c : Nat) : Nat := (n * 257 + c + 1) % 2305843009213693951
def addrNum (j : Nat) (l : List Nat) : Nat := l.foldl stepN (j + 1)
theorem addrNum_lt {j : Nat} (h : j < 3) : ∀ l, addrNum j l < 16 ^ 16 := by
  intro l
  unfold addrNum
  have : ∀ (l : List Nat) (n : Nat), n < 2305843009213693951 → l.foldl stepN n < 2305843009213693951 := by
    intro l
    induction l with
    | nil => intro n h; exact h
    | cons c r ih => intro n h; exact ih _ (Nat.mod_lt _ (by decide))
  exact Nat.lt_trans (this l (j + 1) (by omega)) (by decide)
theorem stepN_int (n c : Nat) : ((n : Int) * 257 + (c : Int) + 1) % 2305843009213693951 = ((stepN n c : Nat) : Int) := by
  unfold stepN
  omega
theorem fold_take {α β : Type} (g : β → α → β) (b : β) (l : List α) (i : Nat) (c : α) (h : l[i]? = some c) : (l.take (i + 1)).foldl g b = g ((l.take i).foldl g b) c := by
  rw [List.take_add_one, h, List.foldl_append]
  rfl
def isAddr (t : Str) : Bool := decide (t.length = 16) && t.cps.toList.all fun c => decide (c ∈ hexDigits)
theorem isAddr_hexS (n : Nat) : isAddr (hexS n) = true := by
  unfold isAddr
  rw [Bool.and_eq_true]
  refine ⟨decide_eq_true (hexS_len n), List.all_eq_true.mpr fun c h => decide_eq_true (hx_mem 16 n c ?_)⟩
  simpa [hexS] using h
/-! ### what the top holds -/
structure Tx (K : PySem.W.Frag) (mg : Str → Option Value) (kd : Addr) : Prop where
  len : mg "len" = none
  int : mg "int" = none
  abs : mg "abs" = none
  ord : mg "ord" = none
  all : mg "all" = none
  range : mg "range" = none
  rep : mg "repr" = none
  isi : mg "isinstance" = none
  str : mg "str" = none
  tup : mg "tuple" = none
  KINDS : mg "KINDS" = some (.ref kd)
  kdo : ∃ (o : Obj) (its : Array Value) (n : Nat), K.lookup kd = some o ∧ o.cls = .type "tuple" ∧ o.dict = none ∧ o.data = .seq its n ∧ its.size ≤ sizeLine ∧ Vals (kinds.map V.str) its.toList
  FACTOR : ∃ t, mg "_FACTOR" = some (.int 257 t)
  MODULUS : ∃ t, mg "_MODULUS" = some (.int 2305843009213693951 t)
  DIGITS : ∃ t, mg "_DIGITS" = some (.str "0123456789abcdef" t)
  LENGTH : ∃ t, mg "_LENGTH" = some (.int 16 t)
theorem Tx.kds {K : PySem.W.Frag} {mg : Str → Option Value} {kd : Addr} (T : Tx K mg kd) (H : Hp) : SqT K H kd (kinds.map V.str) := by
  obtain ⟨o, its, n, h1, h2, _, h4, h5, h6⟩ := T.kdo
  exact .inr ⟨o, its, n, h1, h2, h4, h5, h6⟩
abbrev s_address_of : Stmt := topS 6
abbrev N_address_of : List Str := ["kind", "text", "number", "character"]
abbrev P_address_of : List Str := ["kind", "text"]
theorem sc_address_of : FnScope N_address_of P_address_of (defScope s_address_of) := ⟨rfl, rfl, rfl, by decide +kernel, rfl, by decide +kernel, by decide +kernel⟩
def spAddr : Sp := fun vs H Q _ => ∃ (k t : Str) (j : Nat), vs = [.str k, .str t] ∧ kinds[j]? = some k ∧ j < 3 ∧ Q (.str (hexS (addrNum j t.cps.toList))) H
theorem kinds_first {j : Nat} {k : Str} (h : kinds[j]? = some k) : ∀ m, m < j → kinds[m]? ≠ some k := by
  have key : ∀ j : Fin 3, ∀ m : Fin 3, m.val < j.val → kinds[m.val]? ≠ kinds[j.val]? := by decide +kernel
  have hj : j < 3 := by
    have := (List.getElem?_eq_some_iff.mp h).1
    simpa [kinds] using this
  intro m hm
  have := key ⟨j, hj⟩ ⟨m, by omega⟩ hm
  rw [← h]
  exact this
section
variable {P : Program} {w : World} {K : PySem.W.Frag} {mg : Str → Option Value} {base : Heap} {CX : CXT} {kd : Addr}
theorem ok_address_of {f : Addr} {fd : FuncData} (F : Fun K "address_of" "address_of" s_address_of f fd) (T : Tx K mg kd) : FnOk P w K mg base CX0 1 f fd P_address_of spAddr := by
  refine F.ok sc_address_of (fun vs H Q E h => ?_) (fun cdv A outer s H vs Q E hr h => ?_)
  · obtain ⟨k, t, j, rfl, _⟩ := h
    rfl
  · obtain ⟨k, t, j, rfl, hj, j3, q⟩ := h
    have nd := sc_address_of.nd
    obtain ⟨tf, cF⟩ := T.FACTOR
    obtain ⟨tm, cM⟩ := T.MODULUS
    refine ⟨_, pss_cons (ps_set (i := 2) nd rfl (.inl rfl) (pe_op op_add (pe_bm PySem.F.plainAttrs_tuple PySem.F.slot_tuple_index PySem.F.type_tuple_index mt_tup_index (pe_glob (v := .ref kd) (by rfl) T.KINDS rfl) (pa_cons (pv 0) pa_nil)) pe_int))
  (pss_cons (ps_for PassesOwn.never rfl (pi_str (pv 1)) (pg_name (i := 3) nd rfl (.inl rfl))
    (pss_one (ps_set (i := 2) nd rfl (.inl rfl) (pe_op op_mod (pe_op op_add (pe_op op_add (pe_op op_mul (pv 2) (pe_glob (v := .int 257) (by rfl) cF ⟨_, rfl⟩)) (pe_callB call_ord (by rfl) T.ord (by decide +kernel) (pa_cons (pv 3) pa_nil))) pe_int) (pe_glob (v := .int 2305843009213693951) (by rfl) cM ⟨_, rfl⟩)))))
  (pss_one (ps_ret (pe_joined1 (pe_hex (pv 2)))))), ?_⟩
    refine ⟨?_, .str k, rfl, kd, kinds, k, j, rfl, rfl, T.kds H, hj, kinds_first hj, _, _, rfl, rfl, ?_⟩
    · obtain ⟨o, its, n, h1, h2, h3, _⟩ := T.kdo
      exact .inr (.inl ⟨rfl, o, h1, h2, h3⟩)
    refine ⟨.str t, rfl, t, rfl, ?_⟩
    refine for_it walk_str (fun i σ H' => H' = H ∧ ∃ v, σ = [some (.str k), some (.str t), some (.int (addrNum j (t.cps.toList.take i) : Nat)), v]) ⟨rfl, none, ?_⟩ (fun _ _ _ _ _ => True.intro) ?_ ?_
    · rfl
    · rintro i x σ H1 H2 hi ⟨rfl, v, rfl⟩ ⟨rfl, c, hc, rfl⟩
      refine ⟨_, rfl, _, _, rfl, rfl, .inr ⟨by decide, by decide⟩, _, rfl, ⟨#[c]⟩, rfl, rfl, _, _, rfl, rfl, _, _, rfl, rfl, _, _, rfl, rfl, ?_, rfl, some (.str ⟨#[c]⟩), ?_⟩
      · show (0 : Int) < 2305843009213693951
        decide
      · have hc' : t.cps.toList[i]? = some c := by rw [Array.getElem?_toList]; exact hc
        unfold addrNum
        rw [fold_take stepN _ _ _ _ hc', ← stepN_int]
        rfl
    · rintro σ H1 ⟨rfl, v, rfl⟩
      have e : t.cps.toList.take t.cps.size = t.cps.toList := List.take_of_length_le (by simp)
      rw [e]
      exact ⟨_, rfl, _, rfl, addrNum_lt j3 _, q⟩
end
end LW
namespace LW
open PySem PySem.Spec PyProof.Rows L2 GxR
/-- a def of the text whose code object stands at c -/
structure FunC (K : PySem.W.Frag) (x qual : Str) (st : Stmt) (f : Addr) (fd : FuncData) (c : Addr) : Prop where
  ex : ∃ (oc : Value) (od : Option Addr) (kV doc pm : Value) (an : Option Addr) (ct : Value) (osl : Array (Option Value)),
    fd = PySem.W.fnOf x qual (defArgs st) (defBody st) (defScope st) .none kV doc pm an (.ref c) ct ∧ K.lookup f = some ⟨oc, od, .func fd, osl⟩ ∧ PySem.W.codeIn K (.ref c) qual = true
  kp : PySem.W.keepIn K (.ref f) = true
theorem FunC.ok {P : Program} {w : World} {K : PySem.W.Frag} {mg : Str → Option Value} {base : Heap} {x qual : Str} {st : Stmt} {f c : Addr} {fd : FuncData} {N ps : List Str} {k : Nat} {sp : Sp} (F : FunC K x qual st f fd c)
    (S : FnScope N ps (defScope st)) (len : ∀ vs H Q E, sp vs H Q E → vs.length = ps.length)
    (body : ∀ (A : Around) (outer : List Env) (s : Shared) (H : Hp) (vs : List V) (Q : VK) (E : XK), Room k (A.deeper (envOfC qual (defScope st) s.heap.objs.size f (.ref c))) → sp vs H Q E →
      ∃ t, PSs (cxOf CX0 P w K mg base N qual (defScope st) f (.ref c) A outer s H E).nox (defBody st) t ∧ t { nx := fun _ H' => Q .non H', rt := Q } (start N vs) H) :
    FnOk P w K mg base CX0 (k + 1) f fd ps sp := by
  obtain ⟨oc, od, kV, doc, pm, an, ct, osl, e, lk, hcd⟩ := F.ex
  subst e
  refine fn_of lk hcd S len fun A outer s H vs Q E hr hsp => ?_
  obtain ⟨t, h, q⟩ := body A outer s H vs Q E hr hsp
  exact ⟨t, h.nox, q⟩
theorem no_free {ns : List (Str × NameKind)} {R : Str × NameKind → Prop} (h : ∀ y ∈ ns, y.2 ≠ .free) : ∀ y ∈ ns, y.2 = .free → R y := fun y hy e => absurd e (h y hy)
abbrev s_is_address : Stmt := topS 7
abbrev N_is_address : List Str := ["text"]
abbrev P_is_address : List Str := ["text"]
theorem sc_is_address : FnScope N_is_address P_is_address (defScope s_is_address) := ⟨rfl, rfl, rfl, by decide +kernel, rfl, by decide +kernel, by decide +kernel⟩
/-- yes or no; the def's table of code may have grown -/
def spIs (B : Addr) : Sp := fun vs H Q _ => ∃ t : Str, vs = [.str t] ∧ t.length ≤ sizeLine ∧ TabG H B ∧ ∀ H', Tabbed B H H' → Q (.bl (isAddr t)) H'
theorem digits_eq : (Str.ofString "0123456789abcdef").cps.toList = hexDigits := by decide +kernel
abbrev s_law_good : Stmt := topS 14
abbrev N_law_good : List Str := ["text", "character"]
abbrev P_law_good : List Str := ["text"]
theorem sc_law_good : FnScope N_law_good P_law_good (defScope s_law_good) := ⟨rfl, rfl, rfl, by decide +kernel, rfl, by decide +kernel, by decide +kernel⟩
def spGood : Sp := fun vs H Q _ => ∃ t : Str, vs = [.str t] ∧ t.length ≤ 1000 ∧ ∀ H', Same H H' → Q (.bl (isAddr t)) H'
abbrev s_law_read : Stmt := topS 13
abbrev N_law_read : List Str := ["text", "number", "character"]
abbrev P_law_read : List Str := ["text"]
theorem sc_law_read : FnScope N_law_read P_law_read (defScope s_law_read) := ⟨rfl, rfl, rfl, by decide +kernel, rfl, by decide +kernel, by decide +kernel⟩
def spRead : Sp := fun vs H Q _ => ∃ t : Str, vs = [.str t] ∧ (∀ c ∈ t.cps.toList, c ∈ hexDigits) ∧ Q (.int (readHex t.cps.toList : Nat)) H
theorem occ_dig : ∀ c ∈ hexDigits, ∃ rest, Builtin.Str.occurrences (Str.ofString "0123456789abcdef") ⟨#[c]⟩ 0 (Str.ofString "0123456789abcdef").length 1 = val c :: rest := by
  have : ∀ c ∈ hexDigits, (Builtin.Str.occurrences (Str.ofString "0123456789abcdef") ⟨#[c]⟩ 0 (Str.ofString "0123456789abcdef").length 1).head? = some (val c) := by decide +kernel
  intro c hc
  have h := this c hc
  cases e : Builtin.Str.occurrences (Str.ofString "0123456789abcdef") ⟨#[c]⟩ 0 (Str.ofString "0123456789abcdef").length 1 with
  | nil => rw [e] at h; cases h
  | cons x r =>
    rw [e] at h
    have : x = val c := Option.some.inj h
    exact ⟨r, by rw [this]⟩
abbrev s_law_number : Stmt := topS 12
abbrev N_law_number : List Str := ["kind", "codes", "number", "code"]
abbrev P_law_number : List Str := ["kind", "codes"]
theorem sc_law_number : FnScope N_law_number P_law_number (defScope s_law_number) := ⟨rfl, rfl, rfl, by decide +kernel, rfl, by decide +kernel, by decide +kernel⟩
def spNumber (K : PySem.W.Frag) : Sp := fun vs H Q _ => ∃ (k : Str) (a : Addr) (j : Nat) (cs : List Nat), vs = [.str k, .ref a] ∧ kinds[j]? = some k ∧ SqL K H a (cs.map fun c => V.int (c : Nat)) ∧
  ∀ H', Same H H' → Q (.int (addrNum j cs : Nat)) H'
abbrev s_law_state : Stmt := topS 9
abbrev N_law_state : List Str := ["script", "cells", "cell"]
abbrev P_law_state : List Str := ["script"]
theorem sc_law_state : FnScope N_law_state P_law_state (defScope s_law_state) := ⟨rfl, rfl, rfl, by decide +kernel, rfl, by decide +kernel, by decide +kernel⟩
def LS (H : Hp) (a c : Addr) (n : Int) (cs : List Int) : Prop :=
  H a = some (.lst [.int n, .ref c]) ∧ H c = some (.lst (cs.map V.int)) ∧ a ≠ c ∧ 0 < cs.length ∧ cs.length ≤ 63 ∧ (∀ z ∈ cs, 0 ≤ z) ∧ 0 ≤ n
def SL (H : Hp) (a c : Addr) : Prop := ∃ n cs, LS H a c n cs
def spState (K : PySem.W.Frag) : Sp := fun vs H Q _ => ∃ (l : Addr) (ns : List Int), vs = [.ref l] ∧ SqL K H l (ns.map V.int) ∧ ns.length ≤ 63 ∧
  ∀ (a c : Addr) (H' : Hp), H a = none → H c = none → Same H H' → SL H' a c → Q (.ref a) H'
theorem same_upd {H : Hp} {p : Addr} {o : HO} (h : H p = none) : Same H (upd H p o) := fun b x e => by
  rw [upd_ne (ne_of_none e h)]
  exact e
section
variable {P : Program} {w : World} {K : PySem.W.Frag} {mg : Str → Option Value} {base : Heap} {kd : Addr}
theorem ok_is_address {f c B : Addr} {fd : FuncData} (F : FunC K "is_address" "is_address" s_is_address f fd c) (T : Tx K mg kd) (TB : TabB base mg c B) : FnOk P w K mg base CX0 1 f fd P_is_address (spIs B) := by
  refine F.ok sc_is_address (fun vs H Q E h => ?_) (fun A outer s H vs Q E hr h => ?_)
  · obtain ⟨t, rfl, _⟩ := h
    rfl
  · obtain ⟨t, rfl, hl, hB, q⟩ := h
    obtain ⟨tl, cL⟩ := T.LENGTH
    obtain ⟨td, cD⟩ := T.DIGITS
    refine ⟨_, pss_one (ps_ret (pe_and (pe_cmpR op_eq (pe_callB call_len_str (by rfl) T.len (by decide +kernel) (pa_cons (pv 0) pa_nil)) (pe_glob (v := .int 16) (by rfl) cL ⟨_, rfl⟩) (nomark _))
      (pe_one (pe_allG hr (by rfl) T.all TB rfl ⟨rfl, rfl, by decide +kernel, rfl, rfl, no_free (by decide +kernel)⟩ (pv 0) (elt_inG rfl rfl rfl cD))))), ?_⟩
    refine ⟨_, rfl, t, rfl, hl, rfl, _, rfl, ?_⟩
    have e1 : decide (V.int (t.length : Nat) = V.int 16) = decide (t.length = 16) := by
      apply decide_eq_decide.mpr
      constructor
      · intro h; injection h with h; omega
      · intro h; rw [h]; rfl
    rw [e1]
    cases e2 : decide (t.length = 16) with
    | false =>
      rw [if_neg Bool.false_ne_true]
      have := q H ⟨hB, fun _ _ => rfl⟩
      unfold isAddr at this
      rw [e2] at this
      exact this
    | true =>
      rw [if_pos rfl]
      refine ⟨_, rfl, t, rfl, hB, fun H2 hT => ?_⟩
      have := q H2 hT
      unfold isAddr at this
      rw [e2, Bool.true_and] at this
      rw [digits_eq]
      exact this
theorem ok_read {f : Addr} {fd : FuncData} (F : Fun K "_law_read" "_law_read" s_law_read f fd) : FnOk P w K mg base CX0 1 f fd P_law_read spRead := by
  refine F.ok sc_law_read (fun vs H Q E h => ?_) (fun cdv A outer s H vs Q E hr h => ?_)
  · obtain ⟨t, rfl, _⟩ := h
    rfl
  · obtain ⟨t, rfl, hd, q⟩ := h
    have nd := sc_law_read.nd
    refine ⟨_, pss_cons (ps_set (i := 1) nd rfl (.inl rfl) pe_int)
  (pss_cons (ps_for PassesOwn.never rfl (pi_str (pv 0)) (pg_name (i := 2) nd rfl (.inl rfl))
    (pss_one (ps_set (i := 1) nd rfl (.inl rfl) (pe_op op_add (pe_op op_mul (pv 1) pe_int) (pe_bm PySem.F.plainAttrs_str PySem.F.slot_str_index PySem.F.type_str_index mt_sindex pe_str (pa_cons (pv 2) pa_nil))))))
  (pss_one (ps_ret (pv 1)))), ?_⟩
    refine ⟨.str t, rfl, t, rfl, ?_⟩
    refine for_it walk_str (fun i σ H' => H' = H ∧ ∃ v, σ = [some (.str t), some (.int (readHex (t.cps.toList.take i) : Nat)), v]) ⟨rfl, none, rfl⟩ (fun _ _ _ _ _ => True.intro) ?_ ?_
    · rintro i x σ H1 H2 hi ⟨rfl, v, rfl⟩ ⟨rfl, c, hc, rfl⟩
      have hc' : t.cps.toList[i]? = some c := by rw [Array.getElem?_toList]; exact hc
      obtain ⟨rest, ho⟩ := occ_dig c (hd c (List.mem_of_getElem? hc'))
      refine ⟨_, rfl, _, _, rfl, rfl, .inr ⟨by decide, by decide⟩, rfl, _, rfl, _, _, _, rest, rfl, rfl, ho, _, _, rfl, rfl, rfl, some (.str ⟨#[c]⟩), ?_⟩
      unfold readHex
      rw [fold_take _ _ _ _ _ hc']
      rfl
    · rintro σ H1 ⟨rfl, v, rfl⟩
      have e : t.cps.toList.take t.cps.size = t.cps.toList := List.take_of_length_le (by simp)
      rw [e]
      exact ⟨_, rfl, q⟩
theorem ok_number {f : Addr} {fd : FuncData} (F : Fun K "_law_number" "_law_number" s_law_number f fd) (T : Tx K mg kd) : FnOk P w K mg base CX0 1 f fd P_law_number (spNumber K) := by
  refine F.ok sc_law_number (fun vs H Q E h => ?_) (fun cdv A outer s H vs Q E hr h => ?_)
  · obtain ⟨k, a, j, cs, rfl, _⟩ := h
    rfl
  · obtain ⟨k, a, j, cs, rfl, hj, hS, q⟩ := h
    have nd := sc_law_number.nd
    refine ⟨_, pss_cons (ps_set (i := 2) nd rfl (.inl rfl) (pe_op op_add pe_int (pe_bm PySem.F.plainAttrs_list PySem.F.slot_list_index PySem.F.type_list_index mt_index (pe_lst (pa_cons pe_str (pa_cons pe_str (pa_cons pe_str pa_nil)))) (pa_cons (pv 0) pa_nil))))
  (pss_cons (ps_for PassesOwn.never rfl (pi_list (pv 1)) (pg_name (i := 3) nd rfl (.inl rfl))
    (pss_one (ps_set (i := 2) nd rfl (.inl rfl) (pe_op op_mod (pe_callTy call_int1 (by rfl) T.int (by decide +kernel) (pa_cons (pe_op op_add (pe_op op_add (pe_op op_mul (pv 2) pe_int) (pv 3)) pe_int) pa_nil)) pe_int))))
  (pss_one (ps_ret (pv 2)))), ?_⟩
    refine ⟨by show 3 ≤ sizeLine; decide, fun p np => ?_⟩
    have hp : (upd H p (.lst (kinds.map V.str))) p = some (.lst (kinds.map V.str)) := upd_same
    have first : ∀ (m : Nat) (z' : V), m < j → (kinds.map V.str)[m]? = some z' → eqV z' (.str k) = false := by
      intro m z' hm hz
      have h1 := kinds_first hj m hm
      rw [List.getElem?_map] at hz
      cases e : kinds[m]? with
      | none => rw [e] at hz; cases hz
      | some y =>
        rw [e] at hz
        cases hz
        show decide _ = false
        refine decide_eq_false fun hh => h1 ?_
        rw [e, hh]
    refine ⟨.inl ⟨rfl, _, SqL.of hp⟩, .str k, rfl, p, kinds.map V.str, .str k, j, .str k, rfl, rfl, SqL.of hp, rfl, rfl, ?_, ?_, first, _, _, rfl, rfl, ?_⟩
    · rw [List.getElem?_map, hj]; rfl
    · show decide _ = true
      exact decide_eq_true rfl
    · have sm : Same H (upd H p (.lst (kinds.map V.str))) := same_upd np
      refine ⟨.ref a, rfl, a, rfl, ⟨_, sm.seq hS⟩, ?_⟩
      refine for_it (walk_list (K := K) (a := a) (xs := cs.map fun c => V.int (c : Nat))) (fun i σ H' => Same H H' ∧ ∃ v, σ = [some (.str k), some (.ref a), some (.int (addrNum j (cs.take i) : Nat)), v]) ⟨sm, none, ?_⟩ (fun _ _ _ _ h => h.1.seq hS) ?_ ?_
      · show [some (V.str k), some (V.ref a), some (V.int (1 + (j : Int))), none] = _
        rw [Int.add_comm]
        rfl
      · rintro i x σ H1 H2 hi ⟨sm1, v, rfl⟩ ⟨rfl, hx⟩
        rw [List.getElem?_map] at hx
        cases e : cs[i]? with
        | none => rw [e] at hx; cases hx
        | some c =>
          rw [e] at hx
          cases hx
          refine ⟨_, rfl, _, _, rfl, rfl, .inr ⟨by decide, by decide⟩, _, rfl, _, _, rfl, rfl, _, _, rfl, rfl, .inl ⟨_, rfl, _, _, rfl, rfl, ?_, sm1, some (.int (c : Nat)), ?_⟩⟩
          · show (0 : Int) < 2305843009213693951
            decide
          · unfold addrNum
            rw [fold_take stepN _ _ _ _ e, ← stepN_int]
            rfl
      · rintro σ H1 ⟨sm1, v, rfl⟩
        have e : cs.take (cs.map fun c => V.int (c : Nat)).length = cs := List.take_of_length_le (by simp)
        rw [e]
        exact ⟨_, rfl, q _ sm1⟩
end
end LW
namespace LW
open PySem PySem.Spec PyProof.Rows L2 GxR
/-- a draw: 0 .. m - 1 -/
def spTake : Sp := fun vs H Q _ => ∃ (a c : Addr) (m : Int), vs = [.ref a, .int m] ∧ SL H a c ∧ 1 ≤ m ∧ m < 1000000 ∧
  ∀ (v : Int) (H' : Hp), 0 ≤ v → v < m → (∀ b, b ≠ a → b ≠ c → H' b = H b) → SL H' a c → Q (.int v) H'
abbrev s_law_take : Stmt := topS 10
abbrev N_law_take : List Str := ["state", "most", "cells", "at", "cell", "mixed"]
abbrev P_law_take : List Str := ["state", "most"]
theorem sc_law_take : FnScope N_law_take P_law_take (defScope s_law_take) := ⟨rfl, rfl, rfl, by decide +kernel, rfl, by decide +kernel, by decide +kernel⟩
theorem at2_0 {x y : V} : atI [x, y] 0 = some x := rfl
theorem at2_1 {x y : V} : atI [x, y] 1 = some y := rfl
theorem all_dig_filter (l : List Nat) : decide (V.int ((((List.range l.length).filter fun i => !decide (l.getD i 0 ∈ hexDigits)).map fun i => V.str ⟨#[l.getD i 0]⟩).length : Nat) = V.int 0) = l.all fun c => decide (c ∈ hexDigits) := by
  rw [List.length_map]
  rw [Bool.eq_iff_iff, decide_eq_true_eq, List.all_eq_true]
  constructor
  · intro h c hc
    injection h with h
    have h0 : ((List.range l.length).filter fun i => !decide (l.getD i 0 ∈ hexDigits)) = [] := List.length_eq_zero_iff.mp (by omega)
    obtain ⟨i, hi, e⟩ := List.getElem_of_mem hc
    have := List.filter_eq_nil_iff.mp h0 i (List.mem_range.mpr hi)
    rw [List.getD_eq_getElem?_getD, List.getElem?_eq_getElem hi] at this
    simp at this
    rw [← e]
    exact decide_eq_true this
  · intro h
    have h0 : ((List.range l.length).filter fun i => !decide (l.getD i 0 ∈ hexDigits)) = [] := by
      refine List.filter_eq_nil_iff.mpr fun i hi => ?_
      have hi' := List.mem_range.mp hi
      rw [List.getD_eq_getElem?_getD, List.getElem?_eq_getElem hi']
      have := h l[i] (List.getElem_mem hi')
      simp at this ⊢
      exact this
    rw [h0]
    rfl
section
variable {P : Program} {w : World} {K : PySem.W.Frag} {mg : Str → Option Value} {base : Heap} {kd : Addr}
theorem ok_good {f : Addr} {fd : FuncData} (F : Fun K "_law_good" "_law_good" s_law_good f fd) (T : Tx K mg kd) : FnOk P w K mg base CX0 1 f fd P_law_good spGood := by
  refine F.ok sc_law_good (fun vs H Q E h => ?_) (fun cdv A outer s H vs Q E hr h => ?_)
  · obtain ⟨t, rfl, _⟩ := h
    rfl
  · obtain ⟨t, rfl, hl, q⟩ := h
    have nd := sc_law_good.nd
    have hsz : t.length ≤ sizeLine := Nat.le_trans hl (by decide)
    refine ⟨_, pss_cons (ps_if (pt_cmpR op_ne (pe_callB call_len_str (by rfl) T.len (by decide +kernel) (pa_cons (pv 0) pa_nil)) pe_int (nomark _))
    (pss_one (ps_ret pe_bl))
    (pss_nil))
  (pss_one (ps_ret (pe_cmpR op_eq (pe_callB call_len_seq (by rfl) T.len (by decide +kernel) (pa_cons (pe_lc (own := [("character", 1)]) (g := gName 1) rfl nd (pi_str (pv 0)) (blkOk_by (N := N_law_good) (sc := defScope s_law_good) (by decide +kernel)) (fun _ _ _ _ _ => (pg_name (i := 1) nd rfl (Or.inl rfl))) (fun _ _ _ _ _ => (pts_one (pt_cmpR op_notIn_sign (pv 1) pe_str (by rfl)))) (fun _ _ _ _ _ => (pv 1))) pa_nil)) pe_int (nomark _)))), ?_⟩
    refine ⟨_, rfl, t, rfl, hsz, rfl, _, rfl, ?_⟩
    have e1 : decide (V.int (t.length : Nat) = V.int 16) = decide (t.length = 16) := by
      apply decide_eq_decide.mpr
      constructor
      · intro h; injection h with h; omega
      · intro h; rw [h]; rfl
    rw [e1]
    cases e2 : decide (t.length = 16) with
    | false =>
      refine iteT ?_
      have := q H (Same.refl H)
      unfold isAddr at this
      rw [e2] at this
      exact this
    | true =>
      refine iteF ?_
      refine ⟨.str t, rfl, t, rfl, fun D nD => lc_flt walk_str (σ := [some (.str t), none]) (vs := [1]) (fun i => !decide (t.cps.toList.getD i 0 ∈ hexDigits)) (fun i => .str ⟨#[t.cps.toList.getD i 0]⟩) ?_ (fun _ _ => True.intro) (fun _ => rfl) ?_ ?_⟩
      · exact Nat.lt_of_le_of_lt (show t.cps.size ≤ 1000 from hl) (by decide)
      · rintro i x H1 H2 hi hb ⟨rfl, c, hc, rfl⟩
        have hc' : t.cps.toList.getD i 0 = c := by
          have h1 : t.cps.toList[i]? = some c := by rw [Array.getElem?_toList]; exact hc
          rw [List.getD_eq_getElem?_getD, h1]
          rfl
        refine ⟨rfl, fun Q2 k => ⟨_, rfl, c, _, rfl, rfl, _, rfl, ?_⟩, fun _ Q2 k => ⟨_, rfl, ?_⟩⟩
        · rw [digits_eq, ← hc']
          exact k
        · rw [← hc']
          exact k
      · refine ⟨D, _, rfl, .inl (SqL.of upd_same), rfl, ?_⟩
        have := q _ (same_upd (o := .lst (((List.range t.cps.size).filter fun i => !decide (t.cps.toList.getD i 0 ∈ hexDigits)).map fun i => .str ⟨#[t.cps.toList.getD i 0]⟩)) nD)
        unfold isAddr at this
        rw [e2, Bool.true_and, ← all_dig_filter] at this
        exact this
theorem ok_state {f : Addr} {fd : FuncData} (F : Fun K "_law_state" "_law_state" s_law_state f fd) (T : Tx K mg kd) : FnOk P w K mg base CX0 1 f fd P_law_state (spState K) := by
  refine F.ok sc_law_state (fun vs H Q E h => ?_) (fun cdv A outer s H vs Q E hr h => ?_)
  · obtain ⟨l, ns, rfl, _⟩ := h
    rfl
  · obtain ⟨l, ns, rfl, hS, hl, q⟩ := h
    have nd := sc_law_state.nd
    refine ⟨_, pss_cons (ps_setLc (i := 1) (own := [("cell", 2)]) (g := gName 2) (tt := tYes) rfl nd rfl rfl (sw_true rfl rfl rfl (by decide +kernel)) (pi_list (pe_slice sl_list (pv 0) po_none (po_some pe_int))) (blkOk_by (N := N_law_state) (sc := defScope s_law_state) (by decide +kernel)) (fun _ _ _ _ _ => (pg_name (i := 2) nd rfl (Or.inl rfl))) (fun _ _ _ _ _ => pts_nil) (fun _ _ _ _ _ => (pe_callB call_abs (by rfl) T.abs (by decide +kernel) (pa_cons (pv 2) pa_nil))))
  (pss_cons (ps_if (pt_cmpR op_eq (pe_callB call_len_seq (by rfl) T.len (by decide +kernel) (pa_cons (pv 1) pa_nil)) pe_int (nomark _))
    (pss_one (ps_set (i := 1) nd rfl (.inl rfl) (pe_lst (pa_cons pe_int pa_nil))))
    (pss_nil))
  (pss_one (ps_ret (pe_lst (pa_cons pe_int (pa_cons (pv 1) pa_nil)))))), ?_⟩
    obtain ⟨zs, ez, lz, _⟩ := cutV_map V.int ns none (some 63)
    refine ⟨.ref l, rfl, 63, rfl, l, _, rfl, hS, fun p np => ?_⟩
    rw [ez]
    have s1 : Same H (upd H p (.lst (zs.map V.int))) := same_upd np
    refine ⟨p, rfl, ⟨_, SqL.of upd_same⟩, fun D nD => lc_map (walk_list (K := K) (a := p) (xs := zs.map V.int)) (σ := [some (.ref l), none, none]) (vs := [2])
      (fun i => .int (if zs.getD i 0 < 0 then -zs.getD i 0 else zs.getD i 0)) ?_ ?_ (fun _ => rfl) ?_ ?_⟩
    · rw [List.length_map]
      exact Nat.lt_of_le_of_lt (Nat.le_trans lz hl) (by decide)
    · intro H2 hb
      exact hb.list nD (SqL.of upd_same)
    · rintro i x H2 H3 hi hb ⟨rfl, hx⟩
      rw [List.getElem?_map] at hx
      cases e : zs[i]? with
      | none => rw [e] at hx; cases hx
      | some z =>
        rw [e] at hx
        cases hx
        refine ⟨rfl, fun Q2 k => ⟨_, rfl, z, rfl, ?_⟩⟩
        have : zs.getD i 0 = z := by rw [List.getD_eq_getElem?_getD, e]; rfl
        rw [this] at k
        exact k
    · rw [List.length_map]
      have em : ((List.range zs.length).map fun i => V.int (if zs.getD i 0 < 0 then -zs.getD i 0 else zs.getD i 0)) = (zs.map fun z => if z < 0 then -z else z).map V.int := by
        rw [range_map_get (fun z : Int => V.int (if z < 0 then -z else z)) 0 zs, List.map_map]
        rfl
      rw [em]
      have s2 : Same H (upd (upd H p (.lst (zs.map V.int))) D (.lst ((zs.map fun z => if z < 0 then -z else z).map V.int))) := s1.trans (same_upd nD)
      have fin : ∀ (c : Addr) (cs : List Int) (H2 : Hp), Same H H2 → H c = none → H2 c = some (.lst (cs.map V.int)) → 0 < cs.length → cs.length ≤ 63 → (∀ z ∈ cs, 0 ≤ z) →
          ∀ x, H2 x = none → Q (.ref x) (upd H2 x (.lst [.int 0, .ref c])) := by
        intro c cs H2 sm nc hc h0 h63 hnn x nx
        have ncx : c ≠ x := ne_of_none hc nx
        refine q x c _ (sm.free nx) nc (sm.trans (same_upd nx)) ⟨0, cs, upd_same, ?_, ncx.symm, h0, h63, hnn, by omega⟩
        rw [upd_ne ncx]
        exact hc
      refine ⟨_, rfl, D, _, rfl, .inl (SqL.of upd_same), rfl, _, rfl, ite2 (fun e => ?_) (fun e => ?_)⟩
      · refine ⟨by show 1 ≤ sizeLine; decide, fun c nc => ?_⟩
        refine ⟨_, rfl, by show 2 ≤ sizeLine; decide, ?_⟩
        exact fin c [0] _ (s2.trans (same_upd nc)) (s2.free nc) upd_same (by decide) (by decide) (by decide)
      · refine ⟨_, rfl, by show 2 ≤ sizeLine; decide, ?_⟩
        refine fin D (zs.map fun z => if z < 0 then -z else z) _ s2 (s1.free nD) upd_same ?_ ?_ ?_
        · have e' := of_decide_eq_false (eq_false_of_ne_true e)
          rw [List.length_map]
          rw [List.length_map, List.length_map] at e'
          rcases Nat.eq_zero_or_pos zs.length with h | h
          · exact absurd (by rw [h]; rfl) e'
          · exact h
        · rw [List.length_map]
          omega
        · intro z hz
          obtain ⟨y, _, rfl⟩ := List.mem_map.mp hz
          split <;> omega
theorem ok_take {f : Addr} {fd : FuncData} (F : Fun K "_law_take" "_law_take" s_law_take f fd) (z_len : mg "len" = none) (z_int : mg "int" = none) : FnOk P w K mg base CX0 1 f fd P_law_take spTake := by
  refine F.ok sc_law_take (fun vs H Q E h => ?_) (fun cdv A outer s H vs Q E hr h => ?_)
  · obtain ⟨a, c, m, rfl, _⟩ := h
    rfl
  · obtain ⟨a, c, m, rfl, ⟨n, cs, ha, hc, hac, h0, h63, hnn, hn⟩, hm1, hm2, q⟩ := h
    have nd := sc_law_take.nd
    refine ⟨_, pss_cons (ps_set (i := 2) nd rfl (.inl rfl) (pe_ix ix_list (pv 0) pe_int (fun _ _ => rfl)))
  (pss_cons (ps_set (i := 3) nd rfl (.inl rfl) (pe_op op_mod (pe_ix ix_list (pv 0) pe_int (fun _ _ => rfl)) (pe_callB call_len_seq (by rfl) z_len (by decide +kernel) (pa_cons (pv 2) pa_nil))))
  (pss_cons (ps_set (i := 4) nd rfl (.inl rfl) (pe_ix ix_list (pv 2) (pv 3) (fun _ _ => rfl)))
  (pss_cons (ps_if (pt_cmpR op_ge (pv 4) pe_int (nomark _))
    (pss_cons (ps_asg (pe_op op_fdiv (pv 4) (pv 1)) (pg_sub (pv 2) (pv 3) set_list))
  (pss_one (ps_ret (pe_op op_mod (pv 4) (pv 1)))))
    (pss_nil))
  (pss_cons (ps_asg (pe_op op_add (pe_ix ix_list (pv 0) pe_int (fun _ _ => rfl)) pe_int) (pg_sub (pv 0) pe_int set_list))
  (pss_cons (ps_set (i := 5) nd rfl (.inl rfl) (pe_op op_mod (pe_callTy call_int1 (by rfl) z_int (by decide +kernel) (pa_cons (pe_op op_add (pe_op op_mul (pv 4) pe_int) (pe_op op_mul (pe_ix ix_list (pv 0) pe_int (fun _ _ => rfl)) pe_int)) pa_nil)) pe_int))
  (pss_cons (ps_set (i := 5) nd rfl (.inl rfl) (pe_op op_mod (pe_callTy call_int1 (by rfl) z_int (by decide +kernel) (pa_cons (pe_op op_add (pe_op op_mul (pv 5) pe_int) (pe_op op_mul (pe_ix ix_list (pv 0) pe_int (fun _ _ => rfl)) pe_int)) pa_nil)) pe_int))
  (pss_one (ps_ret (pe_op op_mod (pe_op op_fdiv (pv 5) pe_int) (pv 1)))))))))), ?_⟩
    have hA : SqL K H a [.int n, .ref c] := SqL.of ha
    have hC : SqL K H c (cs.map V.int) := SqL.of hc
    have hl : (0 : Int) < (((cs.map V.int).length : Nat) : Int) := by rw [List.length_map]; omega
    have e0 : 0 ≤ n % ((cs.map V.int).length : Int) := Int.emod_nonneg _ (by omega)
    have e1 : n % ((cs.map V.int).length : Int) < ((cs.map V.int).length : Int) := Int.emod_lt_of_pos _ hl
    obtain ⟨j, hj⟩ : ∃ j : Nat, n % ((cs.map V.int).length : Int) = (j : Int) := ⟨_, (Int.toNat_of_nonneg e0).symm⟩
    have hjl : j < cs.length := by rw [List.length_map] at e1; rw [List.length_map] at hj; omega
    have gz : (cs.map V.int)[j]? = some (.int cs[j]) := by rw [List.getElem?_map, List.getElem?_eq_getElem hjl]; rfl
    have hz0 : 0 ≤ cs[j] := hnn _ (List.getElem_mem hjl)
    -- cells = state[1]; at = state[0] % len(cells); cell = cells[at]
    refine ⟨.ref a, rfl, a, _, 1, _, rfl, rfl, hA, at2_1, ?_⟩
    refine ⟨.ref a, rfl, a, _, 0, _, rfl, rfl, hA, at2_0, .ref c, rfl, c, _, rfl, .inl hC, _, _, rfl, rfl, hl, ?_⟩
    refine ⟨.ref c, rfl, _, rfl, c, _, _, .int cs[j], rfl, rfl, hC, by rw [hj]; exact atI_nat gz, ?_⟩
    -- if cell >= ..
    refine ⟨_, rfl, _, _, rfl, rfl, _, rfl, ite2 (fun _ => ?_) (fun _ => ?_)⟩
    · refine ⟨_, rfl, _, rfl, cs[j], m, rfl, rfl, ⟨by omega, by omega⟩, .ref c, rfl, _, rfl, c, _, _, j, rfl, rfl, hc, ?_, ?_⟩
      · unfold ixN
        rw [hj, List.length_map, if_pos (by omega), if_pos (by omega)]
        rfl
      · refine ⟨_, rfl, _, rfl, cs[j], m, rfl, rfl, by omega, ?_⟩
        refine q _ _ (Int.emod_nonneg _ (by omega)) (Int.emod_lt_of_pos _ (by omega)) (fun b _ hb => upd_ne hb) ⟨n, cs.set j (cs[j] / m), ?_, ?_, hac, by rw [List.length_set]; exact h0, by rw [List.length_set]; exact h63, ?_, hn⟩
        · rw [upd_ne hac]; exact ha
        · rw [upd_same, List.map_set]
        · intro z hz
          rcases List.mem_or_eq_of_mem_set hz with h | h
          · exact hnn z h
          · rw [h]; exact Int.ediv_nonneg hz0 (by omega)
    · refine ⟨.ref a, rfl, a, _, 0, _, rfl, rfl, hA, at2_0, n, 1, rfl, rfl, .ref a, rfl, a, _, 0, 0, rfl, rfl, ha, rfl, ?_⟩
      have ha' : (upd H a (.lst [.int (n + 1), .ref c])) a = some (.lst [.int (n + 1), .ref c]) := upd_same
      have hA' : SqL K (upd H a (.lst [.int (n + 1), .ref c])) a [.int (n + 1), .ref c] := SqL.of ha'
      refine ⟨_, rfl, cs[j], _, rfl, rfl, .inr ⟨by decide, by decide⟩, .ref a, rfl, a, _, 0, _, rfl, rfl, hA', at2_0, _, _, rfl, rfl, .inr ⟨by decide, by decide⟩, _, _, rfl, rfl, .inl ⟨_, rfl, ?_⟩⟩
      refine ⟨_, _, rfl, rfl, by show (0 : Int) < 2147483647; decide, ?_⟩
      refine ⟨_, rfl, _, _, rfl, rfl, .inr ⟨by decide, by decide⟩, .ref a, rfl, a, _, 0, _, rfl, rfl, hA', at2_0, _, _, rfl, rfl, .inr ⟨by decide, by decide⟩, _, _, rfl, rfl, .inl ⟨_, rfl, ?_⟩⟩
      refine ⟨_, _, rfl, rfl, by show (0 : Int) < 1000000007; decide, ?_⟩
      refine ⟨_, rfl, _, _, rfl, rfl, ⟨by decide, by decide⟩, _, rfl, _, m, rfl, rfl, by omega, ?_⟩
      refine q _ _ (Int.emod_nonneg _ (by omega)) (Int.emod_lt_of_pos _ (by omega)) (fun b hb _ => upd_ne hb) ⟨n + 1, cs, ha', ?_, hac, h0, h63, hnn, by omega⟩
      rw [upd_ne (Ne.symm hac)]
      exact hc
end
end LW
namespace LW
open PySem PySem.Spec PyProof.Rows L2 GxR
open TL (joinL tl tl_join join_eq)
/-- a def of the module by its name -/
structure DefAt (K : PySem.W.Frag) (mg : Str → Option Value) (x : Str) (st : Stmt) (ps : List Str) (f : Addr) (fd : FuncData) : Prop where
  fn : Fun K x x st f fd
  at_ : mg x = some (.ref f)
  bd : Binds K fd ps []
theorem tyes {σ : L2.St} {H : Hp} {A B : Hp → Prop} (h : A H) : tYes σ H fun b H3 => if b = true then A H3 else B H3 := by
  show (if true = true then A H else B H)
  rw [if_pos rfl]
  exact h
theorem SL.eq {H H' : Hp} {a c : Addr} (s : SL H a c) (ea : H' a = H a) (ec : H' c = H c) : SL H' a c := by
  obtain ⟨n, cs, h1, h2, r⟩ := s
  exact ⟨n, cs, by rw [ea]; exact h1, by rw [ec]; exact h2, r⟩
theorem SL.same {H H' : Hp} {a c : Addr} (s : SL H a c) (e : Same H H') : SL H' a c := by
  obtain ⟨n, cs, h1, h2, r⟩ := s
  exact ⟨n, cs, e _ _ h1, e _ _ h2, r⟩
theorem SL.ne {H : Hp} {a c x : Addr} (s : SL H a c) (n : H x = none) : x ≠ a ∧ x ≠ c := by
  obtain ⟨_, cs, h1, h2, r⟩ := s
  exact ⟨(ne_of_none h1 n).symm, (ne_of_none h2 n).symm⟩
theorem SL.tab {H : Hp} {a c B : Addr} (s : SL H a c) (t : TabG H B) : B ≠ a ∧ B ≠ c := by
  obtain ⟨_, cs, h1, h2, r⟩ := s
  obtain ⟨ps, e, _⟩ := t
  exact ⟨ne_of e h1 (by intro q; cases q), ne_of e h2 (by intro q; cases q)⟩
theorem tab_same {H H' : Hp} {B : Addr} (t : TabG H B) (e : Same H H') : TabG H' B := by
  obtain ⟨ps, h, r⟩ := t
  exact ⟨ps, e _ _ h, r⟩
theorem tab_eq {H H' : Hp} {B : Addr} (t : TabG H B) (e : H' B = H B) : TabG H' B := by
  obtain ⟨ps, h, r⟩ := t
  exact ⟨ps, by rw [e]; exact h, r⟩
theorem nat_of {v m : Int} (h0 : 0 ≤ v) (h1 : v < m) : ∃ j : Nat, v = (j : Int) ∧ (j : Int) < m := ⟨v.toNat, by omega, by omega⟩
/-! ### the signs of the texts -/
def signs : Str := " !\"#$&'()*+,-./0123456789:;<=>?@ABCDEFGHIJKLMNOPQRSTUVWXYZ[\\]^_`abcdefghijklmnopqrstuvwxyz{|}~"
def sign (z : Nat) : Nat := 32 + z + (if z > 4 then 1 else 0)
theorem sign_at {z : Nat} (h : z < 94) : signs.cps.toList[z]? = some (sign z) := by
  have : ∀ z : Fin 94, signs.cps.toList[z.val]? = some (sign z.val) := by decide +kernel
  exact this ⟨z, h⟩
theorem joinL_nil : ∀ l : List (List Nat), joinL [] l = l.flatten
  | [] => rfl
  | [p] => by simp [joinL]
  | p :: q :: r => by
    show p ++ ([] ++ joinL [] (q :: r)) = _
    rw [joinL_nil (q :: r)]
    simp
theorem join_signs (zs : List Nat) : (Txt.join (Str.ofString "") (zs.map fun z => (⟨#[sign z]⟩ : Str))).cps.toList = zs.map sign := by
  have e : (Txt.join (Str.ofString "") (zs.map fun z => (⟨#[sign z]⟩ : Str))).cps.toList = tl (Str.join (Str.ofString "") (zs.map fun z => (⟨#[sign z]⟩ : Str))) := by
    rw [join_eq]
  rw [e, tl_join, show tl (Str.ofString "") = [] by decide +kernel, joinL_nil, List.map_map]
  have : (tl ∘ fun z => (⟨#[sign z]⟩ : Str)) = fun z => [sign z] := rfl
  rw [this]
  clear e this
  induction zs with
  | nil => rfl
  | cons z r ih => simp [ih]
abbrev s_law : Stmt := topS 15
abbrev N_law : List Str := ["script", "state", "kind", "signs", "places", "codes", "text", "told", "at", "piece", "other", "k", "place"]
abbrev P_law : List Str := ["script"]
theorem sc_law : FnScope N_law P_law (defScope s_law) := ⟨rfl, rfl, rfl, by decide +kernel, rfl, by decide +kernel, by decide +kernel⟩
def spLaw (K : PySem.W.Frag) (B : Addr) : Sp := fun vs H Q _ => ∃ (l : Addr) (ns : List Int), vs = [.ref l] ∧ SqL K H l (ns.map V.int) ∧ ns.length ≤ 63 ∧ TabG H B ∧ ∀ H', Q (.bl true) H'
section
variable {P : Program} {w : World} {K : PySem.W.Frag} {mg : Str → Option Value} {base : Heap} {kd : Addr}
theorem ok_law {f fS fT fA fG fR fM fI cI B : Addr} {fd dS dT dA dG dR dM dI : FuncData} (F : Fun K "law" "law" s_law f fd) (T : Tx K mg kd)
    (DS : DefAt K mg "_law_state" s_law_state P_law_state fS dS) (DT : DefAt K mg "_law_take" s_law_take P_law_take fT dT) (DA : DefAt K mg "address_of" s_address_of P_address_of fA dA)
    (DG : DefAt K mg "_law_good" s_law_good P_law_good fG dG) (DR : DefAt K mg "_law_read" s_law_read P_law_read fR dR) (DM : DefAt K mg "_law_number" s_law_number P_law_number fM dM)
    (FI : FunC K "is_address" "is_address" s_is_address fI dI cI) (mI : mg "is_address" = some (.ref fI)) (bI : Binds K dI P_is_address []) (TB : TabB base mg cI B) :
    FnOk P w K mg base CX0 2 f fd P_law (spLaw K B) := by
  have GS : FnOk P w K mg base CX0 1 fS dS P_law_state (spState K) := ok_state DS.fn T
  have GT : FnOk P w K mg base CX0 1 fT dT P_law_take spTake := ok_take DT.fn T.len T.int
  have GA : FnOk P w K mg base CX0 1 fA dA P_address_of spAddr := ok_address_of DA.fn T
  have GG : FnOk P w K mg base CX0 1 fG dG P_law_good spGood := ok_good DG.fn T
  have GR : FnOk P w K mg base CX0 1 fR dR P_law_read spRead := ok_read DR.fn
  have GM : FnOk P w K mg base CX0 1 fM dM P_law_number (spNumber K) := ok_number DM.fn T
  have GI : FnOk P w K mg base CX0 1 fI dI P_is_address (spIs B) := ok_is_address FI T TB
  refine F.ok sc_law (fun vs H Q E h => ?_) (fun cdv A outer s H vs Q E hr h => ?_)
  · obtain ⟨l, ns, rfl, _⟩ := h
    rfl
  · obtain ⟨l, ns, rfl, hS, hl, hB, q⟩ := h
    have nd := sc_law.nd
    refine ⟨_, pss_cons (ps_set (i := 1) nd rfl (.inr rfl) (pe_call GS hr rfl DS.at_ DS.fn.kp DS.bd .nil pass0 (pa_cons (pv 0) pa_nil)))
  (pss_cons (ps_set (i := 2) nd rfl (.inl rfl) (pe_ix ix_list (pe_lst (pa_cons pe_str (pa_cons pe_str (pa_cons pe_str pa_nil)))) (pe_call GT hr rfl DT.at_ DT.fn.kp DT.bd .nil pass0 (pa_cons (pv 1) (pa_cons pe_int pa_nil))) (fun _ _ => rfl)))
  (pss_cons (ps_set (i := 3) nd rfl (.inr rfl) pe_str)
  (pss_cons (ps_setLc (i := 4) (own := [("k", 11)]) (g := gName 11) (tt := tYes) rfl nd rfl rfl (sw_true rfl rfl rfl (by decide +kernel)) (pi_range1 (by rfl) T.range (pa_cons (pe_call GT hr rfl DT.at_ DT.fn.kp DT.bd .nil pass0 (pa_cons (pv 1) (pa_cons pe_int pa_nil))) pa_nil)) (blkOk_by (N := N_law) (sc := defScope s_law) (by decide +kernel)) (fun _ _ _ _ _ => (pg_name (i := 11) nd rfl (Or.inl rfl))) (fun _ _ _ _ _ => pts_nil) (fun _ _ _ _ _ => (pe_call GT hr rfl DT.at_ DT.fn.kp DT.bd .nil pass0 (pa_cons (pv 1) (pa_cons pe_int pa_nil)))))
  (pss_cons (ps_setLc (i := 5) (own := [("place", 12)]) (g := gName 12) (tt := tYes) rfl nd rfl rfl (sw_true rfl rfl rfl (by decide +kernel)) (pi_list (pv 4)) (blkOk_by (N := N_law) (sc := defScope s_law) (by decide +kernel)) (fun _ _ _ _ _ => (pg_name (i := 12) nd rfl (Or.inl rfl))) (fun _ _ _ _ _ => pts_nil) (fun _ _ _ _ _ => (pe_op op_add (pe_op op_add pe_int (pv 12)) (pe_callTy call_int1 (by rfl) T.int (by decide +kernel) (pa_cons (pe_cmpR op_gt (pv 12) pe_int (nomark _)) pa_nil)))))
  (pss_cons (ps_set (i := 6) nd rfl (.inl rfl) (pe_join pe_str (pe_lc (own := [("place", 12)]) (g := gName 12) (tt := tYes) rfl nd (pi_list (pv 4)) (blkOk_by (N := N_law) (sc := defScope s_law) (by decide +kernel)) (fun _ _ _ _ _ => (pg_name (i := 12) nd rfl (Or.inl rfl))) (fun _ _ _ _ _ => pts_nil) (fun _ _ _ _ _ => (pe_ix ix_str (pv 3) (pv 12) (fun _ _ => rfl))))))
  (pss_cons (ps_set (i := 7) nd rfl (.inl rfl) (pe_call GA hr rfl DA.at_ DA.fn.kp DA.bd .nil pass0 (pa_cons (pv 2) (pa_cons (pv 6) pa_nil))))
  (pss_cons (ps_if (PW.pt (pw_or (pt_not (pt_val (pe_callB call_isi (by rfl) T.isi (by decide +kernel) (pa_cons (pv 7) (pa_cons (pe_bltn (v := .ty "str") (by rfl) T.str (by decide +kernel) rfl) pa_nil))))) (pw_or (pt_not (pt_val (pe_call GG hr rfl DG.at_ DG.fn.kp DG.bd .nil pass0 (pa_cons (pv 7) pa_nil)))) (pw_or1 (pt_cmpR op_ne (pe_call GR hr rfl DR.at_ DR.fn.kp DR.bd .nil pass0 (pa_cons (pv 7) pa_nil)) (pe_call GM hr rfl DM.at_ DM.fn.kp DM.bd .nil pass0 (pa_cons (pv 2) (pa_cons (pv 5) pa_nil))) (nomark _))))))
    (pss_one (ps_ret pe_bl))
    (pss_nil))
  (pss_cons (ps_if (PW.pt (pw_or (pt_cmpR (op_neD hr.units) (pe_callTy call_tupleT (by rfl) T.tup (by decide +kernel) (pa_cons (pe_glob (v := .ref kd) (by rfl) T.KINDS rfl) pa_nil)) (pe_tup (pa_cons pe_str (pa_cons pe_str (pa_cons pe_str pa_nil)))) (nomark _)) (pw_or1 (pt_cmpR op_notBl (pe_call GI hr rfl mI FI.kp bI .nil pass0 (pa_cons (pv 7) pa_nil)) pe_bl (nomark _)))))
    (pss_one (ps_ret pe_bl))
    (pss_nil))
  (pss_cons (ps_set (i := 8) nd rfl (.inl rfl) (pe_call GT hr rfl DT.at_ DT.fn.kp DT.bd .nil pass0 (pa_cons (pv 1) (pa_cons pe_int pa_nil))))
  (pss_cons (ps_set (i := 9) nd rfl (.inl rfl) (pe_ix ix_list (pe_lst (pa_cons pe_str (pa_cons pe_str (pa_cons pe_str (pa_cons pe_str (pa_cons pe_str (pa_cons pe_str (pa_cons pe_str (pa_cons pe_str pa_nil))))))))) (pe_call GT hr rfl DT.at_ DT.fn.kp DT.bd .nil pass0 (pa_cons (pv 1) (pa_cons pe_int pa_nil))) (fun _ _ => rfl)))
  (pss_cons (ps_set (i := 10) nd rfl (.inl rfl) (pe_op op_add_str (pe_op op_add_str (pe_slice sl_str (pv 7) po_none (po_some (pv 8))) (pv 9)) (pe_slice sl_str (pv 7) (po_some (pe_op op_add (pv 8) (pe_call GT hr rfl DT.at_ DT.fn.kp DT.bd .nil pass0 (pa_cons (pv 1) (pa_cons pe_int pa_nil))))) po_none)))
  (pss_one (ps_ret (pe_cmpR op_eq (pe_callB call_repr_bl (by rfl) T.rep (by decide +kernel) (pa_cons (pe_call GI hr rfl mI FI.kp bI .nil pass0 (pa_cons (pv 10) pa_nil)) pa_nil)) (pe_callB call_repr_bl (by rfl) T.rep (by decide +kernel) (pa_cons (pe_call GG hr rfl DG.at_ DG.fn.kp DG.bd .nil pass0 (pa_cons (pv 10) pa_nil)) pa_nil)) (nomark _))))))))))))))), ?_⟩
    -- state
    refine ⟨.ref l, rfl, l, ns, rfl, hS, hl, fun a c H1 na nc sm1 s1 => ?_⟩
    have b1 : TabG H1 B := tab_same hB sm1
    -- kind
    refine ⟨by show 3 ≤ sizeLine; decide, fun p np => ⟨.ref a, rfl, a, c, 3, rfl, s1.same (same_upd np), by decide, by decide, fun v H2 v0 v3 e2 s2 => ?_⟩⟩
    have npa := s1.ne np
    obtain ⟨j, rfl, hj⟩ := nat_of v0 v3
    have j3 : j < 3 := by omega
    obtain ⟨k, hk⟩ : ∃ k, kinds[j]? = some k := ⟨kinds[j]'j3, List.getElem?_eq_getElem j3⟩
    have hp : SqL K H2 p (kinds.map V.str) := SqL.of (by rw [e2 p npa.1 npa.2, upd_same]; rfl)
    have bB := s1.tab b1
    have b2 : TabG H2 B := tab_eq (tab_same b1 (same_upd np)) (e2 B bB.1 bB.2)
    refine ⟨p, _, _, .str k, rfl, rfl, hp, atI_nat (by rw [List.getElem?_map, hk]; rfl), ?_⟩
    -- places
    refine ⟨.ref a, rfl, a, c, 31, rfl, s2, by decide, by decide, fun n H3 n0 n31 e3 s3 => ⟨n, rfl, by omega, by omega, fun D nD => ?_⟩⟩
    have b3 : TabG H3 B := tab_eq b2 (e3 B bB.1 bB.2)
    have nDa := s3.ne nD
    have nDB : B ≠ D := by
      obtain ⟨_, hh, _⟩ := b3
      exact ne_of_none hh nD
    refine lc_range (lo := 0) (n := n.toNat) (fun i H' => ∃ zs : List Nat, zs.length = i ∧ (∀ z ∈ zs, z < 94) ∧ H' D = some (.lst (zs.map fun (z : Nat) => V.int (z : Nat))) ∧ SL H' a c ∧ H' B = H3 B)
      ⟨[], rfl, (by simp), upd_same, s3.same (same_upd nD), upd_ne nDB⟩ ?_ ?_
    · rintro i H4 hi ⟨zs, lz, hz, hD, s4, eB⟩
      refine ⟨rfl, tyes ?_⟩
      refine ⟨_, rfl, a, c, 94, rfl, s4, by decide, by decide, fun v H5 v0 v94 e5 s5 => ?_⟩
      obtain ⟨z, rfl, hz94⟩ := nat_of v0 v94
      refine ⟨_, by rw [e5 D nDa.1 nDa.2]; exact hD, ?_, zs ++ [z], by simp [lz], ?_, ?_, ?_, ?_⟩
      · rw [List.length_map, lz]
        exact Nat.lt_of_lt_of_le (show i < 31 by omega) (by decide)
      · intro y hy
        rcases List.mem_append.mp hy with h | h
        · exact hz y h
        · rw [List.mem_singleton.mp h]
          omega
      · rw [upd_same, List.map_append]
        rfl
      · exact s5.eq (upd_ne nDa.1.symm) (upd_ne nDa.2.symm)
      · rw [upd_ne nDB, e5 B bB.1 bB.2]
        exact eB
    · rintro H4 ⟨zs, lz, hz, hD, s4, eB⟩
      have b4 : TabG H4 B := tab_eq b3 eB
      have z30 : zs.length ≤ 30 := by omega
      -- codes
      refine ⟨_, rfl, D, rfl, ⟨_, SqL.of hD⟩, fun D2 nD2 => lc_map (walk_list (K := K) (a := D) (xs := zs.map fun (z : Nat) => V.int (z : Nat))) (vs := [12]) (fun i => .int (sign (zs.getD i 0) : Nat)) ?_ ?_ (fun _ => rfl) ?_ ?_⟩
      · rw [List.length_map]
        omega
      · intro H5 hb
        exact hb.list nD2 (SqL.of hD)
      · rintro i x H5 H6 hi hb ⟨rfl, hx⟩
        rw [List.getElem?_map] at hx
        cases e : zs[i]? with
        | none => rw [e] at hx; cases hx
        | some z =>
          rw [e] at hx
          cases hx
          refine ⟨rfl, fun Q2 kk => ⟨_, rfl, _, _, rfl, rfl, _, rfl, _, _, rfl, rfl, .inr ⟨_, rfl, _, _, rfl, rfl, ?_⟩⟩⟩
          have e9 : zs.getD i 0 = z := by rw [List.getD_eq_getElem?_getD, e]; rfl
          rw [e9] at kk
          have e8 : ((32 : Int) + (z : Int) + (if decide ((4 : Int) < (z : Int)) = true then 1 else 0)) = ((sign z : Nat) : Int) := by
            unfold sign
            by_cases h : z > 4
            · rw [if_pos (decide_eq_true (by omega)), if_pos h]; omega
            · rw [if_neg (by simp; omega), if_neg h]; omega
          show Q2 (.int ((32 : Int) + (z : Int) + (if decide ((4 : Int) < (z : Int)) = true then 1 else 0))) H6
          rw [e8]
          exact kk
      · have em : ((List.range (zs.map fun (z : Nat) => V.int (z : Nat)).length).map fun i => V.int (sign (zs.getD i 0) : Nat)) = (zs.map sign).map fun (c : Nat) => V.int (c : Nat) := by
          rw [List.length_map, range_map_get (fun z : Nat => V.int (sign z : Nat)) 0 zs, List.map_map]
          rfl
        rw [em]
        have sm5 : Same H4 (upd H4 D2 (.lst ((zs.map sign).map fun (c : Nat) => V.int (c : Nat)))) := same_upd nD2
        have hD5 := sm5 _ _ hD
        -- text
        refine ⟨⟨_, rfl⟩, _, rfl, D, rfl, ⟨_, SqL.of hD5⟩, fun D3 nD3 => lc_map (walk_list (K := K) (a := D) (xs := zs.map fun (z : Nat) => V.int (z : Nat))) (vs := [12]) (fun i => .str ⟨#[sign (zs.getD i 0)]⟩) ?_ ?_ (fun _ => rfl) ?_ ?_⟩
        · rw [List.length_map]
          omega
        · intro H5 hb
          exact hb.list nD3 (SqL.of hD5)
        · rintro i x H5 H6 hi hb ⟨rfl, hx⟩
          rw [List.getElem?_map] at hx
          cases e : zs[i]? with
          | none => rw [e] at hx; cases hx
          | some z =>
            rw [e] at hx
            cases hx
            refine ⟨rfl, fun Q2 kk => ⟨_, rfl, _, rfl, _, _, sign z, rfl, rfl, by decide +kernel, atI_nat (sign_at (hz z (List.mem_of_getElem? e))), ?_⟩⟩
            have e9 : zs.getD i 0 = z := by rw [List.getD_eq_getElem?_getD, e]; rfl
            rw [e9] at kk
            exact kk
        · have et : ((List.range (zs.map fun (z : Nat) => V.int (z : Nat)).length).map fun i => V.str ⟨#[sign (zs.getD i 0)]⟩) = (zs.map fun z => (⟨#[sign z]⟩ : Str)).map V.str := by
            rw [List.length_map, range_map_get (fun z : Nat => V.str ⟨#[sign z]⟩) 0 zs, List.map_map]
            rfl
          rw [et]
          have sm6 := sm5.trans (same_upd (o := .lst ((zs.map fun z => (⟨#[sign z]⟩ : Str)).map V.str)) nD3)
          have hC6 := (same_upd (o := .lst ((zs.map fun z => (⟨#[sign z]⟩ : Str)).map V.str)) nD3) _ _ (upd_same (H := H4) (a := D2) (o := .lst ((zs.map sign).map fun (c : Nat) => V.int (c : Nat))))
          refine ⟨_, D3, zs.map fun z => (⟨#[sign z]⟩ : Str), rfl, rfl, .inl (SqL.of upd_same), ?_, ?_⟩
          · have l1 : ∀ zs : List Nat, ((zs.map fun z => (⟨#[sign z]⟩ : Str)).map (·.length)).sum = zs.length := by
              intro zs
              induction zs with
              | nil => rfl
              | cons z r ih =>
                rw [List.map_cons, List.map_cons, List.sum_cons, ih, List.length_cons, Nat.add_comm]
                rfl
            rw [l1, show (Str.ofString "").length = 0 from rfl]
            omega
          -- told
          generalize hT : Txt.join (Str.ofString "") (zs.map fun z => (⟨#[sign z]⟩ : Str)) = text
          have htx : text.cps.toList = zs.map sign := by rw [← hT, join_signs]
          have S6 : SL (upd (upd H4 D2 (.lst ((zs.map sign).map fun (c : Nat) => V.int (c : Nat)))) D3 (.lst ((zs.map fun z => (⟨#[sign z]⟩ : Str)).map V.str))) a c := s4.same sm6
          have B6 := tab_same b4 sm6
          generalize hH6 : upd (upd H4 D2 (.lst ((zs.map sign).map fun (c : Nat) => V.int (c : Nat)))) D3 (.lst ((zs.map fun z => (⟨#[sign z]⟩ : Str)).map V.str)) = H6 at hC6 S6 B6 ⊢
          refine ⟨_, rfl, _, rfl, k, text, j, rfl, hk, j3, ?_⟩
          rw [htx]
          have lh : (hexS (addrNum j (zs.map sign))).length = 16 := hexS_len _
          have rd : readHex (hexS (addrNum j (zs.map sign))).cps.toList = addrNum j (zs.map sign) := by
            rw [show (hexS (addrNum j (zs.map sign))).cps.toList = hx 16 (addrNum j (zs.map sign)) by simp [hexS]]
            exact read_hx 16 _ (addrNum_lt j3 _)
          have dg : ∀ c ∈ (hexS (addrNum j (zs.map sign))).cps.toList, c ∈ hexDigits := by
            intro c hc
            exact hx_mem 16 _ c (by simpa [hexS] using hc)
          have ia : isAddr (hexS (addrNum j (zs.map sign))) = true := isAddr_hexS _
          generalize hexS (addrNum j (zs.map sign)) = told at lh rd dg ia ⊢
          -- isinstance(told, str)
          refine ⟨_, rfl, .str told, .ty "str", .type "str", .type "str", true, rfl, .ty "str", .base (.str told), kit_ty (by decide +kernel), true, rfl, ?_⟩
          refine iteF ?_
          -- _law_good(told)
          refine ⟨_, rfl, told, rfl, by omega, fun H7 sm7 => ⟨true, by rw [ia], iteF ?_⟩⟩
          -- _law_read(told) != _law_number(kind, codes)
          refine ⟨_, rfl, told, rfl, dg, _, rfl, _, rfl, k, D2, j, zs.map sign, rfl, hk, SqL.of (sm7 _ _ hC6), fun H8 sm8 => ?_⟩
          rw [rd]
          refine ⟨rfl, false, by rw [decide_eq_true rfl]; rfl, iteF ?_⟩
          -- tuple(KINDS) != (..)
          have B8 := tab_same (tab_same B6 sm7) sm8
          have S8 := (S6.same sm7).same sm8
          refine ⟨kd, _, rfl, T.kds _, by show 3 ≤ sizeLine; decide, fun tp ntp => ?_⟩
          have sm9 := same_upd (o := .tup (kinds.map V.str)) ntp
          refine ⟨.tuple [.str "layer", .str "image", .str "bundle"], .tuple [.str "layer", .str "image", .str "bundle"], .tup (T.kds _) (.cons (.str _) (.cons (.str _) (.cons (.str _) .nil))),
            .tup (xs := kinds.map V.str) (SqT.of upd_same) (.cons (.str _) (.cons (.str _) (.cons (.str _) .nil))), by decide +kernel, by decide +kernel, false, by decide +kernel, iteF ?_⟩
          have B9 := tab_same B8 sm9
          have S9 := S8.same sm9
          -- is_address(told) is not True
          refine ⟨_, rfl, told, rfl, by rw [lh]; decide, B9, fun H10 t10 => ?_⟩
          rw [ia]
          refine ⟨true, true, rfl, rfl, false, rfl, iteF ?_⟩
          have S10 : SL H10 a c := S9.eq (t10.2 a (S9.tab B9).1.symm) (t10.2 c (S9.tab B9).2.symm)
          have B10 : TabG H10 B := t10.1
          -- at
          refine ⟨_, rfl, a, c, 17, rfl, S10, by decide, by decide, fun v H11 v0 v17 e11 S11 => ?_⟩
          obtain ⟨at_, rfl, hat⟩ := nat_of v0 v17
          have bB := S10.tab B10
          have B11 : TabG H11 B := tab_eq B10 (e11 B bB.1 bB.2)
          -- piece
          refine ⟨by show 8 ≤ sizeLine; decide, fun pp npp => ⟨_, rfl, a, c, 8, rfl, S11.same (same_upd npp), by decide, by decide, fun v H12 v0 v8 e12 S12 => ?_⟩⟩
          obtain ⟨pj, rfl, hpj⟩ := nat_of v0 v8
          have npa := S11.ne npp
          have B12 : TabG H12 B := tab_eq (tab_same B11 (same_upd npp)) (e12 B bB.1 bB.2)
          have hpp : SqL K H12 pp (([("" : Str), "0", "f", "g", "A", " ", "7a", "F"] : List Str).map V.str) := SqL.of (by rw [e12 pp npa.1 npa.2, upd_same]; rfl)
          obtain ⟨piece, hpiece⟩ : ∃ piece : Str, ([("" : Str), "0", "f", "g", "A", " ", "7a", "F"] : List Str)[pj]? = some piece := ⟨_, List.getElem?_eq_getElem (by show pj < 8; omega)⟩
          have lp : piece.length ≤ 2 := by
            have : ∀ y ∈ ([("" : Str), "0", "f", "g", "A", " ", "7a", "F"] : List Str), y.length ≤ 2 := by decide +kernel
            exact this piece (List.mem_of_getElem? hpiece)
          refine ⟨pp, _, _, .str piece, rfl, rfl, hpp, atI_nat (by rw [List.getElem?_map, hpiece]; rfl), ?_⟩
          -- other
          have lc1 : ∀ lo hi, (cutS told lo hi).length ≤ 16 := fun lo hi => by
            have := cutS_length told lo hi
            omega
          refine ⟨_, rfl, _, rfl, _, rfl, told, rfl, by rw [lh]; decide, _, rfl, _, _, rfl, rfl, ?_, ?_⟩
          · have := lc1 none (some (at_ : Int))
            exact Nat.le_trans (show _ ≤ 18 by omega) (by decide)
          refine ⟨_, rfl, _, rfl, _, rfl, a, c, 2, rfl, S12, by decide, by decide, fun v H13 v0 v2 e13 S13 => ?_⟩
          have B13 : TabG H13 B := tab_eq B12 (e13 B bB.1 bB.2)
          refine ⟨_, _, rfl, rfl, _, rfl, told, rfl, by rw [lh]; decide, ?_⟩
          generalize h1 : cutS told none (some (at_ : Int)) = c1
          generalize h2 : cutS told (some ((at_ : Int) + v)) none = c2
          have l1 : c1.length ≤ 16 := by rw [← h1]; exact lc1 _ _
          have l2 : c2.length ≤ 16 := by rw [← h2]; exact lc1 _ _
          have lapp : ∀ x y : Str, (x ++ y).length = x.length + y.length := fun x y => by
            show (x.cps ++ y.cps).size = _
            rw [Array.size_append]
            rfl
          refine ⟨_, _, rfl, rfl, ?_, ?_⟩
          · rw [lapp]
            exact Nat.le_trans (show _ ≤ 34 by omega) (by decide)
          generalize h3 : c1 ++ piece ++ c2 = other
          have l3 : other.length ≤ 34 := by
            rw [← h3, lapp, lapp]
            omega
          -- repr(is_address(other)) == repr(_law_good(other))
          refine ⟨_, rfl, other, rfl, Nat.le_trans l3 (by decide), B13, fun H14 t14 => ⟨_, rfl, _, rfl, other, rfl, by omega, fun H15 sm15 => ⟨_, rfl, ?_⟩⟩⟩
          refine ⟨rfl, ?_⟩
          rw [decide_eq_true rfl]
          exact q _
end
end LW
namespace LW
open PySem PySem.Spec PyProof.Rows L2 GxR
/-- the end of a law's row: all that the head says is at hand -/
theorem walk_gnd {l : PySem.W.OpenLaw} {n k : Nat} {q : Program} {loose : List Str} {XP : (Str → Option Value) → Heap → Prop} {YP : World → Heap → Prop} {d : DefRec} {K : Params → PySem.W.Frag} {CX : World → CXT} {x : Str}
    (hn : l.most = some n) (hn2 : n ≤ sizeLine) (hdf : d.params.defaults = []) (hr : Room k callerA) (hY : ∀ (w : World) (h : Heap), YP w h → (K w.params).In h)
    (F : ∀ (w : World) (s0 : Shared) (mg mb : Str → Option Value) (fa : Addr) (h : Heap), PySem.W.Ground q loose [] XP w s0 mg mb h → YP w h → (K w.params).In h → mg d.name = some (.ref fa) → LamX.LawAtS l w (K w.params) (CX w) k n x mg fa h)
    (hCX : ∀ (w : World) (H : Hp) (s : Shared) (e : Value) (s' : Shared), CX w [] H s (fun _ _ _ => False) e s' → False) :
    PySem.W.WalkO q loose XP YP l.row.toRowW d [] (fun f vs => PySem.call f vs) := by
  refine Att.attach_callB hn hdf ?_
  intro w s0 s1 mg mb fa o pm cd doc a vs ns G Y ho hd hcd hmg hobj hints hlen hbits hg
  have KX := hY w _ Y
  obtain ⟨fd, cs, sp, hT, nT, C, hb, hsp, hF⟩ := F w s0 mg mb fa _ G Y KX hmg
  refine LamX.law_callTs KX G.T.g G.T.b G.T.builtins G.T.nolimit hg hT nT C G.T.bmain hobj hints (Nat.le_trans hlen hn2) hr hF hb ?_ ?_
  · intro H hH hS
    exact hsp H a ns hlen hbits hH hS
  · intro H e s'
    exact hCX w H s1 e s'
/-- a function of the module as the head leaves it -/
theorem def_at {K : PySem.W.Frag} {h : Heap} {mg : Str → Option Value} {x : Str} {st : Stmt} {ps : List Str} {f : Addr} {oc : Value} {od an : Option Addr} {sl : Array (Option Value)} {kV dc pm cd ct : Value}
    (X : K.In h) (G : h.Ns mainGlobals mg) (a : PySem.W.nsIn K mainGlobals x = some (some (.ref f)))
    (l : K.lookup f = some ⟨oc, od, .func (PySem.W.fnOf x x (defArgs st) (defBody st) (defScope st) .none kV dc pm an cd ct), sl⟩)
    (c : PySem.W.codeIn K cd x = true) (k : PySem.W.keepIn K (.ref f) = true)
    (b : ∀ (kV doc pm : Value) (an : Option Addr) (cdv ct : Value) (us : List Value), us.length = ps.length → bindArgs (PySem.W.fnOf x x (defArgs st) (defBody st) (defScope st) .none kV doc pm an cdv ct) ⟨us, []⟩ = pure (ps.zip us)) :
    DefAt K mg x st ps f (PySem.W.fnOf x x (defArgs st) (defBody st) (defScope st) .none kV dc pm an cd ct) :=
  ⟨fun_mk (st := st) l c k, PySem.W.mg_of X G a, (fun_mk (st := st) l c k).binds b⟩
end LW
namespace LW
open PySem PySem.Spec PyProof.Rows L2 GxR
theorem all_mk {l : PySem.W.OpenLaw} {w : World} {K : PySem.W.Frag} {h : Heap} {mg : Str → Option Value} {fa kd fA fI fS fT fM fR fG fL cI B : Addr} (X : K.In h) (G : h.Ns mainGlobals mg) (hfa : mg "law" = some (.ref fa))
    (tb : PySem.W.CodeHd h cI B ∧ h.get? B = some { cls := .none, data := .fields #[] }) (nB : K.lookup B = none) (cM : ∃ t, mg "_MODULUS" = some (.int 2305843009213693951 t))
    {oA oI oS oT oM oR oG oL : Option Addr} {nA nI nS nT nM nR nG nL : Option Addr} {sA sI sS sT sM sR sG sL : Array (Option Value)}
    {a1 a2 a3 a4 a5 a6 b1 b2 b3 b4 b5 c1 c2 c3 c4 c5 c6 d1 d2 d3 d4 d5 d6 e1 e2 e3 e4 e5 e6 g1 g2 g3 g4 g5 g6 h1 h2 h3 h4 h5 h6 i1 i2 i3 i4 i5 i6 : Value} {tF tD tL t1 t2 t3 : Tok} {kn : Nat} {ks : Array (Option Value)}
    (aA : PySem.W.nsIn K mainGlobals "address_of" = some (some (.ref fA))) (lA : K.lookup fA = some ⟨a1, oA, .func (PySem.W.fnOf "address_of" "address_of" (defArgs s_address_of) (defBody s_address_of) (defScope s_address_of) .none a2 a3 a4 nA a5 a6), sA⟩) (cA : PySem.W.codeIn K a5 "address_of" = true) (kA : PySem.W.keepIn K (.ref fA) = true)
    (aI : PySem.W.nsIn K mainGlobals "is_address" = some (some (.ref fI))) (lI : K.lookup fI = some ⟨b1, oI, .func (PySem.W.fnOf "is_address" "is_address" (defArgs s_is_address) (defBody s_is_address) (defScope s_is_address) .none b2 b3 b4 nI (.ref cI) b5), sI⟩) (ccI : PySem.W.codeIn K (.ref cI) "is_address" = true) (kI : PySem.W.keepIn K (.ref fI) = true)
    (aS : PySem.W.nsIn K mainGlobals "_law_state" = some (some (.ref fS))) (lS : K.lookup fS = some ⟨c1, oS, .func (PySem.W.fnOf "_law_state" "_law_state" (defArgs s_law_state) (defBody s_law_state) (defScope s_law_state) .none c2 c3 c4 nS c5 c6), sS⟩) (cS : PySem.W.codeIn K c5 "_law_state" = true) (kS : PySem.W.keepIn K (.ref fS) = true)
    (aT : PySem.W.nsIn K mainGlobals "_law_take" = some (some (.ref fT))) (lT : K.lookup fT = some ⟨d1, oT, .func (PySem.W.fnOf "_law_take" "_law_take" (defArgs s_law_take) (defBody s_law_take) (defScope s_law_take) .none d2 d3 d4 nT d5 d6), sT⟩) (cT : PySem.W.codeIn K d5 "_law_take" = true) (kT : PySem.W.keepIn K (.ref fT) = true)
    (aM : PySem.W.nsIn K mainGlobals "_law_number" = some (some (.ref fM))) (lM : K.lookup fM = some ⟨e1, oM, .func (PySem.W.fnOf "_law_number" "_law_number" (defArgs s_law_number) (defBody s_law_number) (defScope s_law_number) .none e2 e3 e4 nM e5 e6), sM⟩) (ccM : PySem.W.codeIn K e5 "_law_number" = true) (kM : PySem.W.keepIn K (.ref fM) = true)
    (aR : PySem.W.nsIn K mainGlobals "_law_read" = some (some (.ref fR))) (lR : K.lookup fR = some ⟨g1, oR, .func (PySem.W.fnOf "_law_read" "_law_read" (defArgs s_law_read) (defBody s_law_read) (defScope s_law_read) .none g2 g3 g4 nR g5 g6), sR⟩) (cR : PySem.W.codeIn K g5 "_law_read" = true) (kR : PySem.W.keepIn K (.ref fR) = true)
    (aG : PySem.W.nsIn K mainGlobals "_law_good" = some (some (.ref fG))) (lG : K.lookup fG = some ⟨h1, oG, .func (PySem.W.fnOf "_law_good" "_law_good" (defArgs s_law_good) (defBody s_law_good) (defScope s_law_good) .none h2 h3 h4 nG h5 h6), sG⟩) (cG : PySem.W.codeIn K h5 "_law_good" = true) (kG : PySem.W.keepIn K (.ref fG) = true)
    (aL : PySem.W.nsIn K mainGlobals "law" = some (some (.ref fL))) (lL : K.lookup fL = some ⟨i1, oL, .func (PySem.W.fnOf "law" "law" (defArgs s_law) (defBody s_law) (defScope s_law) .none i2 i3 i4 nL i5 i6), sL⟩) (cL : PySem.W.codeIn K i5 "law" = true) (kL : PySem.W.keepIn K (.ref fL) = true)
    (aK : PySem.W.nsIn K mainGlobals "KINDS" = some (some (.ref kd))) (lK : K.lookup kd = some ⟨.type "tuple", none, .seq #[.str "layer" t1, .str "image" t2, .str "bundle" t3] kn, ks⟩)
    (aF : PySem.W.nsIn K mainGlobals "_FACTOR" = some (some (.int 257 tF))) (aD : PySem.W.nsIn K mainGlobals "_DIGITS" = some (some (.str "0123456789abcdef" tD))) (aN : PySem.W.nsIn K mainGlobals "_LENGTH" = some (some (.int 16 tL)))
    (z1 : PySem.W.nsIn K mainGlobals "len" = some none) (z2 : PySem.W.nsIn K mainGlobals "int" = some none) (z3 : PySem.W.nsIn K mainGlobals "abs" = some none) (z4 : PySem.W.nsIn K mainGlobals "ord" = some none) (z5 : PySem.W.nsIn K mainGlobals "all" = some none)
    (z6 : PySem.W.nsIn K mainGlobals "range" = some none) (z7 : PySem.W.nsIn K mainGlobals "repr" = some none) (z8 : PySem.W.nsIn K mainGlobals "isinstance" = some none) (z9 : PySem.W.nsIn K mainGlobals "str" = some none) (z10 : PySem.W.nsIn K mainGlobals "tuple" = some none)
    (hp : l.prog = PySem.Challenge.pw_layerwharf_k01_addresses) :
    LamX.LawAtS l w K CX0 2 63 "script" mg fa h := by
  have e := hfa.symm.trans (PySem.W.mg_of X G aL)
  cases e
  have T : Tx K mg kd := ⟨PySem.W.mg_none_of X G z1, PySem.W.mg_none_of X G z2, PySem.W.mg_none_of X G z3, PySem.W.mg_none_of X G z4, PySem.W.mg_none_of X G z5, PySem.W.mg_none_of X G z6, PySem.W.mg_none_of X G z7, PySem.W.mg_none_of X G z8, PySem.W.mg_none_of X G z9, PySem.W.mg_none_of X G z10,
    PySem.W.mg_of X G aK, ⟨_, _, _, lK, rfl, rfl, rfl, by show 3 ≤ sizeLine; decide, .cons ⟨_, rfl⟩ (.cons ⟨_, rfl⟩ (.cons ⟨_, rfl⟩ .nil))⟩, ⟨_, PySem.W.mg_of X G aF⟩, cM, ⟨_, PySem.W.mg_of X G aD⟩, ⟨_, PySem.W.mg_of X G aN⟩⟩
  have FI : FunC K "is_address" "is_address" s_is_address fI _ cI := ⟨⟨_, _, _, _, _, _, _, _, rfl, lI, ccI⟩, kI⟩
  refine ⟨PySem.W.fnOf "law" "law" (defArgs s_law) (defBody s_law) (defScope s_law) .none i2 i3 i4 nL i5 i6, [(cI, B)], spLaw K B, ?_, ?_, ?_, ?_, ?_, ?_⟩
  · intro p hp
    rw [List.mem_singleton.mp hp]
    exact tb.2
  · intro p hp
    rw [List.mem_singleton.mp hp]
    exact nB
  · intro p hp
    rw [List.mem_singleton.mp hp]
    exact tb.1
  · exact fun s v => .of_eq rfl
  · intro H a ns hl _ hH hS
    exact ⟨a, ns, rfl, hS, hl, ⟨#[], hH _ (List.mem_singleton.mpr rfl), True.intro⟩, fun _ => rfl⟩
  · intro base _ _ hT
    exact ok_law (fun_mk (st := s_law) lL cL kL) T (def_at X G aS lS cS kS fun _ _ _ _ _ _ us hl => match us, hl with | [_], _ => rfl) (def_at X G aT lT cT kT fun _ _ _ _ _ _ us hl => match us, hl with | [_, _], _ => rfl)
      (def_at X G aA lA cA kA fun _ _ _ _ _ _ us hl => match us, hl with | [_, _], _ => rfl) (def_at X G aG lG cG kG fun _ _ _ _ _ _ us hl => match us, hl with | [_], _ => rfl)
      (def_at X G aR lR cR kR fun _ _ _ _ _ _ us hl => match us, hl with | [_], _ => rfl) (def_at X G aM lM ccM kM fun _ _ _ _ _ _ us hl => match us, hl with | [_, _], _ => rfl)
      FI (PySem.W.mg_of X G aI) ((fun_mk (st := s_is_address) lI ccI kI).binds fun _ _ _ _ _ _ us hl => match us, hl with | [_], _ => rfl) (let t := hT _ (List.mem_singleton.mpr rfl); ⟨t.code, t.bm, t.gP⟩)
end LW
open PySem PySem.W PyProof.Rows
set_option maxHeartbeats 0 in
theorem PySem.Challenge.cw_layerwharf_k01_addresses_holds : PySem.Challenge.rw_layerwharf_k01_addresses.Holds := by
  w_on; o_law; k_head; (case hw => w_witness2)
  k_fill
  refine LW.walk_gnd (l := PySem.Challenge.rw_layerwharf_k01_addresses) (n := 63) (k := 2) (x := "script") (CX := fun _ => L2.CX0) rfl (by decide) rfl ⟨rfl, by decide, by decide⟩ (fun w h Y => PySem.W.kIn_of Y) ?F (fun _ _ _ _ _ h => h)
  case F =>
    intro w s0 mg mb fa h G Y KX hmg
    refine' LW.all_mk KX G.T.g hmg ?tb ?nB ?cM ?aA ?lA ?cA ?kA ?aI ?lI ?ccI ?kI ?aS ?lS ?cS ?kS ?aT ?lT ?cT ?kT ?aM ?lM ?ccM ?kM ?aR ?lR ?cR ?kR ?aG ?lG ?cG ?kG ?aL ?lL ?cL ?kL ?aK ?lK ?aF ?aD ?aN ?z1 ?z2 ?z3 ?z4 ?z5 ?z6 ?z7 ?z8 ?z9 ?z10 rfl
    (case aA => k_is); (case lA => k_is); (case cA => k_is); (case kA => k_is)
    (case aI => k_is); (case lI => k_is); (case ccI => k_is); (case kI => k_is)
    (case aS => k_is); (case lS => k_is); (case cS => k_is); (case kS => k_is)
    (case aT => k_is); (case lT => k_is); (case cT => k_is); (case kT => k_is)
    (case aM => k_is); (case lM => k_is); (case ccM => k_is); (case kM => k_is)
    (case aR => k_is); (case lR => k_is); (case cR => k_is); (case kR => k_is)
    (case aG => k_is); (case lG => k_is); (case cG => k_is); (case kG => k_is)
    (case aL => k_is); (case lL => k_is); (case cL => k_is); (case kL => k_is)
    (case aK => k_is); (case lK => k_is); (case aF => k_is); (case aD => k_is); (case aN => k_is)
    (case z1 => k_is); (case z2 => k_is); (case z3 => k_is); (case z4 => k_is); (case z5 => k_is); (case z6 => k_is); (case z7 => k_is); (case z8 => k_is); (case z9 => k_is); (case z10 => k_is)
    case tb =>
      exact tab_of (x := "is_address") G.T KX rfl (by rfl)
    case cM =>
      obtain ⟨v, e, r⟩ := G.X.2.val (PySem.Str.ofString "_MODULUS", .int 2305843009213693951) (List.Mem.head _)
      cases r
      exact ⟨_, e⟩
    case nB => rfl
