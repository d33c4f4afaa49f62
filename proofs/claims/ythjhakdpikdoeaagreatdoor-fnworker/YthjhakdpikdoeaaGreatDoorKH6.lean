import Derived.Test.YthjhakdpikdoeaaGreatDoorNH
import Derived.Test.YthjhakdpikdoeaaGreatDoorKH1
import Derived.Test.YthjhakdpikdoeaaGreatDoorKYB
set_option linter.unusedVariables false
set_option maxHeartbeats 8000000
set_option maxRecDepth 100000
namespace Go.Proofs.YthjhakdpikdoeaaGreatDoor
open Proofs.Tryz
open Go.RowKit
def z19:List Value:=wk 0 false false (mc M.g16z none 0)
def wc (z:M.W19) (b:Option Addr) (n:Nat):List Value:=wk z.no z.up z.has (mc z.of b n)
theorem wc_one (z:M.W19) (b:Option Addr) (n:Nat):∀ v∈wc z b n,v.oneCell'=true:=wk_one (mc_one _ _ _)
structure Wv (w:World) (z:M.W19) (b:Option Addr) (n:Nat):Prop where
 le:z.of.le 1048576
 at':M.LksAt w b z.of.ls
 ns:M.NS b n z.of.ls
theorem Wv.below {w w':World} {z:M.W19} {b:Option Addr} {n:Nat} (h:Wv w z b n) (hb:Below w.heap.size w w'):Wv w' z b n:=⟨h.le,M.lks_below h.at' hb,h.ns⟩
theorem Wv.on {w w':World} {z:M.W19} {b:Option Addr} {n B:Nat} {t:TypeId} {vs:List Value} (h:Wv w z b n) (hC:Cl w B t vs) (h0:∀ x,vs[0]?≠some (.bool x)) (ho:OnB B w w'):Wv w' z b n:=⟨h.le,lks_on h.at' h.ns hC h0 ho,h.ns⟩
section
variable {ops:Array Oper} {rest:List Oper} {o:Oper} {a:Act} {u:World} {Q:Exit->Act->World->Prop}
theorem wp_ldmW (hw:Region.wanted o (yielded ops a.tmps)=true) (x:Operand) (ho:o.op=.load 31 x) {B j:Nat} (hx:a.eval x=.pointer (some ⟨B,j,none⟩)) {t:TypeId} {pre vs:List Value} (hB:Cl u B t (pre++vs)) (hl:vs.length=16) (hj:pre.length=j)
 (h:wpList prog ops Q rest (a.put o.dst (.agg vs.toArray)) u):wpList prog ops Q (o::rest) a u:=by
 refine wpList_step fun K hK=>?_;rw [if_pos hw];unfold Oper.wp;rw [ex_ldN 31 x ho hx (fun i v e=>by rw [hB.cell,List.getElem?_append_right om_,<- e];congr 1;omega) underlying31 rfl (by rw [hl];kernel_rfl)];exact hK _ _ h
end
theorem c11w (x:M.W19) (b:Option Addr) (n:Nat) (w:World) (hx:Wv w x b n):
 Calls prog 11 #[.agg (wc x b n).toArray] w fun e w'=>M.IsB (M.WkOk x) e/\Below w.heap.size w w':=M.c11 x b n w hx.le hx.at'
theorem c25w (x:M.W19) (b:Option Addr) (n:Nat) (w:World) (hx:Wv w x b n):
 Calls prog 25 #[.agg (wc x b n).toArray] w fun e w'=>(∃ ao c,e=.returned (.agg (wc x ao c).toArray)/\Wv w' x ao c)/\Below w.heap.size w w':=
 (M.c25 x b n w hx.le.2.1.1 hx.at' hx.ns).mono fun e w' ⟨⟨ao,c,h2,h3⟩,hb⟩=>⟨⟨ao,c,h2,hx.le,h3.at',h3.ns c⟩,hb⟩
theorem c28w (m:M.G16) (b:Option Addr) (n:Nat) (w:World) (hm:m.le 1048576) (hat:M.LksAt w b m.ls) (hN:M.NS b n m.ls):
 Calls prog 28 #[.agg (mc m b n).toArray] w fun e w'=>(∃ ao c,e=.returned (.agg (mc m ao c).toArray)/\M.LksAt w' ao m.ls/\M.NS ao c m.ls)/\Below w.heap.size w w':=
 (M.c28 m b n w hm.2.1.1 hat hN).mono fun e w' ⟨⟨ao,c,h2,h3⟩,hb⟩=>⟨⟨ao,c,h2,h3.at',h3.ns c⟩,hb⟩
theorem c27w (m:M.G16) (b:Option Addr) (n:Nat) (w:World) (hk:m.kd=1) (hm:m.le 1048576) (hat:M.LksAt w b m.ls):
 Calls prog 27 #[.agg (mc m b n).toArray] w fun e w'=>M.Is27 m e/\Below w.heap.size w w':=by
 obtain ⟨kd,to,fr,ep,ed,km,ls,ct,tn⟩:=m;obtain rfl:kd=1:=hk;exact M.c27 ⟨1,to,fr,ep,ed,km,ls,ct,tn⟩ b n w hm hat
theorem fin8 {x y:M.W19} {m:M.G16} {b:Option Addr} {n:Nat} {w u:World} (hT:M.TkR x m y) (hC:Cl u (w.heap.size+1+1) 33 (wc y b n)) (hv:Wv u y b n) (hb:Below w.heap.size w u) (tm:Array Value) (h4:tm[4]?=some (.pointer (some ⟨w.heap.size+1+1,0,none⟩))):bodyPost prog f8 (fun e w'=>(∃ y ao c,M.TkR x m y/\e=.returned (.agg (wc y ao c).toArray)/\Wv w' y ao c)/\Below w.heap.size w w') .ret ⟨tm,[]⟩ u:=
 bodyPost_ret (v:=.agg (wc y b n).toArray) (M.results_blk (P:=prog) (ty:=33) rfl _ u (w.heap.size+1+1) (wc y b n) _ (by simp [h4]) hC.blk underlying33 rfl kr_) rfl ⟨⟨y,b,n,hT,rfl,hv⟩,hb⟩
structure T3 (w:World) (x:M.W19) (b:Option Addr) (n:Nat) (m:M.G16) (c:Option Addr) (k:Nat) (u:World):Prop where
 cx:Cl u w.heap.size 33 (wc x b n)
 vx:Wv u x b n
 cm:Cl u (w.heap.size+1) 31 (mc m c k)
 am:M.LksAt u c m.ls
 cr:Cl u (w.heap.size+1+1) 33 z19
 bw:Below w.heap.size w u
theorem T3.below {w:World} {x:M.W19} {b:Option Addr} {n:Nat} {m:M.G16} {c:Option Addr} {k:Nat} {u u':World} (h:T3 w x b n m c k u) (hb:Below u.heap.size u u'):T3 w x b n m c k u':=⟨h.cx.below hb h.cx.lt,h.vx.below hb,h.cm.below hb h.cm.lt,M.lks_below h.am hb,h.cr.below hb h.cr.lt,h.bw.trans (hb.mono h.bw.size)⟩
theorem T3.on {w:World} {x:M.W19} {b:Option Addr} {n:Nat} {m:M.G16} {c:Option Addr} {k X:Nat} {u u':World} (h:T3 w x b n m c k u) {vs:List Value} (hX:Cl u X 33 vs) (h0:∀ x,vs[0]?≠some (.bool x)) (hN:M.NS c k m.ls) (hw:w.heap.size+1+1<X) (ho:OnB X u u'):T3 w x b n m c k u':=⟨h.cx.on ho om_,h.vx.on hX h0 ho,h.cm.on ho om_,lks_on h.am hN hX h0 ho,h.cr.on ho om_,h.bw.trans (ho.below om_)⟩
theorem c8v (x:M.W19) (m:M.G16) (b:Option Addr) (n:Nat) (c:Option Addr) (k:Nat) (w:World) (hx:Wv w x b n) (hm:m.le 1048576) (hat:M.LksAt w c m.ls) (hN:M.NS c k m.ls):
 Calls prog 8 #[.agg (wc x b n).toArray,.agg (mc m c k).toArray] w fun e w'=>(∃ y ao c,M.TkR x m y/\e=.returned (.agg (wc y ao c).toArray)/\Wv w' y ao c)/\Below w.heap.size w w':=by
 have HX:=hdI hx;have HA:=hdI hat;clear hx hat;show Calls prog 8 #[.agg #[.int .i64 x.no,.bool x.up,.bool x.has,.int .i64 x.of.kd,.int .i64 x.of.to,.int .i64 x.of.fr,.int .i64 x.of.ep,.int .i64 x.of.ed,.string x.of.km.nm,.string x.of.km.tl,.string x.of.km.ar,.slice b x.of.ls.length n,.int .i64 x.of.ct,.bool x.of.tn.over,.int .i64 x.of.tn.cd,.string x.of.tn.tx,.bool x.of.tn.has,.string x.of.tn.nm,.int .i64 x.of.tn.st],.agg #[.int .i64 m.kd,.int .i64 m.to,.int .i64 m.fr,.int .i64 m.ep,.int .i64 m.ed,.string m.km.nm,.string m.km.tl,.string m.km.ar,.slice c m.ls.length k,.int .i64 m.ct,.bool m.tn.over,.int .i64 m.tn.cd,.string m.tn.tx,.bool m.tn.has,.string m.tn.nm,.int .i64 m.tn.st]] w _;go_enter func8,ntmps8
 go_upto_region 1 with fail
 obtain ⟨y0,hy⟩:∃ y:World,y=((w.alloc (.cells (wc x b n).toArray 33)).alloc (.cells (mc m c k).toArray 31)).alloc (.cells z19.toArray 33):=⟨_,rfl⟩;have hy':=hy;simp only [wc,z19,wk,mc,M.g16z,M.t6z,m3z,List.length_nil] at hy';rw [<- hy'];have b0:Below w.heap.size w y0:=by rw [hy];exact (by2 _ _ _).alloc so_ _
 have HT:Hid (T3 w x b n m c k y0):=⟨by rw [hy];exact cl_old (cl_old (cl_new w _ 33) _) _,HX.out.below b0,by rw [hy];exact cl_old (cl_at sm_) _,M.lks_below HA.out b0,by rw [hy];exact cl_at sm_,b0⟩;clear hy hy' b0 HX HA;generalize Value.agg #[.int .i64 x.no,.bool x.up,.bool x.has,.int .i64 x.of.kd,.int .i64 x.of.to,.int .i64 x.of.fr,.int .i64 x.of.ep,.int .i64 x.of.ed,.string x.of.km.nm,.string x.of.km.tl,.string x.of.km.ar,.slice b x.of.ls.length n,.int .i64 x.of.ct,.bool x.of.tn.over,.int .i64 x.of.tn.cd,.string x.of.tn.tx,.bool x.of.tn.has,.string x.of.tn.nm,.int .i64 x.of.tn.st]=T1;generalize Value.agg #[.int .i64 m.kd,.int .i64 m.to,.int .i64 m.fr,.int .i64 m.ep,.int .i64 m.ed,.string m.km.nm,.string m.km.tl,.string m.km.ar,.slice c m.ls.length k,.int .i64 m.ct,.bool m.tn.over,.int .i64 m.tn.cd,.string m.tn.tx,.bool m.tn.has,.string m.tn.nm,.int .i64 m.tn.st]=T2;have CX:=HT.out.cx;generalize hV:wc x b n=V at CX;have CX:=hdI CX;have VL:Hid (V.length=19):=by show _=_;rw [<- hV];rfl
 have HV:=hdI hV;clear hV
 go_wp2_with (refine wp_ldk rfl (.tmp 2) rfl (B:=w.heap.size) rfl (t:=33) (vs:=V) (by with_reducible exact CX.out) VL.out ?_)
 rw [<- HV.out];clear CX VL HV;refine (c11w x b n y0 HT.out.vx).mono ?_;rintro e y1 ⟨⟨r,rfl,hr⟩,hb⟩;have HT:=hdI (HT.out.below hb);clear hb;cases r
 · have hno:¬M.WkOk x:=fun h=>by have:=hr.2 h;cases this
   have CR:=hdI HT.out.cr
   go_wp2_with (refine wp_stk rfl (.tmp 4) (.tmp 9) rfl (B:=w.heap.size+1+1) rfl (t:=33) (vs:=z19) (xs:=z19) rfl (by with_reducible exact CR.out) rfl rfl (wk_one (mc_one _ _ _)) rfl ?_;intro y2 C2 o2)
   exact fin8 (.inl ⟨hno,rfl⟩) (y:=M.w19z) (b:=none) (n:=0) C2 ⟨(ms_zero (K:=1048576) y2).le,.inl rfl,.inr rfl⟩ (HT.out.bw.trans (o2.below om_)) _ rfl
 have hok:=hr.1 rfl;clear hr;have CX:=HT.out.cx;generalize hV:wc x b n=V at CX;have CX:=hdI CX;have VL:Hid (V.length=19):=by show _=_;rw [<- hV];rfl
 have HV:=hdI hV;clear hV
 go_wp2_with (refine wp_ldk rfl (.tmp 2) rfl (B:=w.heap.size) rfl (t:=33) (vs:=V) (by with_reducible exact CX.out) VL.out ?_)
 rw [<- HV.out];clear CX VL HV;refine (c25w x b n y1 HT.out.vx).mono ?_;rintro e y2 ⟨⟨ao,co,rfl,hv⟩,hb⟩;have HT:=hdI (HT.out.below hb);have HW:=hdI hv;clear hb hv;have hbA:Below y2.heap.size y2 (y2.alloc (.cells #[.int .i64 0,.bool false,.bool false,.int .i64 0,.int .i64 0,.int .i64 0,.int .i64 0,.int .i64 0,.string ⟨#[]⟩,.string ⟨#[]⟩,.string ⟨#[]⟩,.slice none 0 0,.int .i64 0,.bool false,.int .i64 0,.string ⟨#[]⟩,.bool false,.string ⟨#[]⟩,.int .i64 0] 33)):=bA;have CZ:Hid (Cl (y2.alloc (.cells #[.int .i64 0,.bool false,.bool false,.int .i64 0,.int .i64 0,.int .i64 0,.int .i64 0,.int .i64 0,.string ⟨#[]⟩,.string ⟨#[]⟩,.string ⟨#[]⟩,.slice none 0 0,.int .i64 0,.bool false,.int .i64 0,.string ⟨#[]⟩,.bool false,.string ⟨#[]⟩,.int .i64 0] 33)) y2.heap.size 33 z19):=cl_new y2 z19 33;generalize hV:wc x ao co=V;have VL:Hid (V.length=19):=by show _=_;rw [<- hV];rfl
 have V1:Hid (∀ v∈V,v.oneCell'=true):=by show ∀ v∈V,_;rw [<- hV];exact wc_one _ _ _
 have HV:=hdI hV;clear hV
 go_wp2_with (refine wp_stk rfl (.tmp 5) (.tmp 11) rfl (B:=y2.heap.size) rfl (t:=33) (vs:=V) (xs:=z19) rfl (by with_reducible exact CZ.out) VL.out rfl V1.out rfl ?_;intro y3 C3 o3;refine Hid.out ?_)
 unfold Hid;rw [<- HV.out] at C3;have hbN:Below y2.heap.size y2 y3:=hbA.trans (o3.below lr_);have hzX:=HT.out.cr.lt;have HT:=hdI (HT.out.below hbN);have HW:=hdI (HW.out.below hbN);have HC:=hdI C3;clear hbA CZ VL V1 HV C3 o3 hbN;generalize y2.heap.size=X at*;have a0:y3.cell? ⟨w.heap.size,0,none⟩=some (.int .i64 x.no):=HT.out.cx.cell 0;have a1:y3.cell? ⟨w.heap.size,1,none⟩=some (.bool x.up):=HT.out.cx.cell 1;have m0:y3.cell? ⟨w.heap.size+1,0,none⟩=some (.int .i64 m.kd):=HT.out.cm.cell 0;have m1:y3.cell? ⟨w.heap.size+1,1,none⟩=some (.int .i64 m.to):=HT.out.cm.cell 1;have mark:True:=trivial;by_cases hon:x.up=true/\m.kd=1/\m.to=x.no
 case' neg=>
  have hno:¬M.TkOn x m:=fun h=>hon ⟨h.1,h.2.1,h.2.2.1⟩;have HR:Hid (M.TkR x m x):=.inr (.inr ⟨hok,hno,rfl⟩);rcases (show x.up=false\/(x.up=true/\(m.kd==1)=false)\/(x.up=true/\(m.kd==1)=true/\(m.to==x.no)=false) by cases hu:x.up <;> by_cases hk:m.kd=1 <;> by_cases ht:m.to=x.no <;> simp_all) with h1 | ⟨h1,h2⟩ | ⟨h1,h2,h3⟩
  all_goals
   rw [h1] at a1;clear h1 hon hno;revert mark
 case' pos=>
  obtain ⟨hu,hk,ht⟩:=hon;have h2:(m.kd==1)=true:=by rw [hk];rfl
  have h3:(m.to==x.no)=true:=by rw [ht];exact beq_self_eq_true _
  rw [hu] at a1;have CM:=HT.out.cm;generalize hV:mc m c k=V at CM;have CM:Hid (Cl y3 (w.heap.size+1) 31 ([]++V)):=CM;have VL:Hid (V.length=16):=by show _=_;rw [<- hV];rfl
  have HV:=hdI hV;have HK:=hdI hk;have HH:=hdI ht;clear hV hk ht
  go_wp2_with (refine wp_ldmW rfl (.tmp 3) rfl (B:=w.heap.size+1) (j:=0) rfl (pre:=[]) (t:=31) (vs:=V) (by with_reducible exact CM.out) VL.out rfl ?_)
  rw [<- HV.out];clear CM VL HV;refine (c27w m c k y3 HK.out hm HT.out.am).mono ?_;rintro e y4 ⟨⟨sg,rfl,hg⟩,hb⟩;have HT:=hdI (HT.out.below hb);have HW:=hdI (HW.out.below hb);have HC:=hdI (HC.out.below hb HC.out.lt);clear hb a0 a1 m0 m1;rcases hg with ⟨ho,rfl⟩ | ⟨ho,rfl⟩
  case' inr=>
   have HR:Hid (M.TkR x m x):=.inr (.inr ⟨hok,fun h=>ho h.2.2.2,rfl⟩);revert mark
  case' inl=>
   have HR:Hid (M.TkR x m ⟨x.no,x.up,true,m⟩):=.inr (.inl ⟨hok,⟨hu,HK.out,HH.out,ho⟩,rfl⟩);have n3:(ofL (M.offerL m)).toList.isEmpty=false:=by
    have hl1:1<=(M.offerL m).length:=by unfold M.offerL;simp only [List.length_append,List.length_cons,List.length_nil];omega
    have zs:(ofL (M.offerL m)).size=(M.offerL m).length:=ofL_size _
    cases h:(ofL (M.offerL m)).toList with
    | nil=>rw [M.ba_nil] at h;rw [h] at zs;have zs:0=(M.offerL m).length:=zs;omega
    | cons=>rfl
   generalize ofL (M.offerL m)=sg at n3;have x2:y4.cell? ⟨X,2,none⟩=some (.bool x.has):=HC.out.cell 2;have g2:=HC.out.opn 2;have HC2:Hid (Cl (y4.setCell ⟨X,2,none⟩ (.bool true)) X 33 (wc ⟨x.no,x.up,true,x.of⟩ ao co)):=HC.out.set 2 (.bool true);have HT2:=hdI (HT.out.on HC.out (fun b e=>by cases e) hN hzX (on_set y4 X 2 (.bool true)));have CM:=HT2.out.cm;generalize hV:mc m c k=V at CM;have CM:Hid (Cl _ (w.heap.size+1) 31 ([]++V)):=CM;have VL:Hid (V.length=16):=by show _=_;rw [<- hV];rfl
   have HV:=hdI hV;clear hV h2 h3 HT HW HC
   go_wp2_with (refine wp_ldm rfl (.tmp 3) rfl (B:=w.heap.size+1) (j:=0) rfl (pre:=[]) (t:=31) (vs:=V) (by with_reducible exact CM.out) VL.out rfl ?_)
   rw [<- HV.out];clear CM VL HV x2 g2;generalize y4.setCell ⟨X,2,none⟩ (.bool true)=y5 at HC2 HT2 ⊢;refine (c28w m c k y5 hm HT2.out.am hN).mono ?_;rintro e y6 ⟨⟨am,cm,rfl,hat,hns⟩,hb⟩;have HT:=hdI (HT2.out.below hb);have HC:Hid (Cl y6 X 33 ([.int .i64 x.no,.bool x.up,.bool true]++mc x.of ao co)):=HC2.out.below hb HC2.out.lt;have HA:=hdI hat;clear hb HT2 HC2 hat
   go_wp2_with (refine wp_stm rfl (.tmp 34) (.tmp 33) rfl (B:=X) (j:=3) rfl (t:=33) (pre:=[.int .i64 x.no,.bool x.up,.bool true]) (vs:=mc m am cm) (xs:=mc x.of ao co) rfl (by with_reducible exact HC.out) rfl rfl rfl (mc_one _ _ _) rfl ?_;intro y7 C7 o7;refine Hid.out ?_)
   unfold Hid;have HT:=hdI (HT.out.on HC.out (fun b e=>by cases e) hN hzX o7);have HW:Hid (Wv y7 ⟨x.no,x.up,true,m⟩ am cm):=⟨hm,lks_on HA.out hns HC.out (fun b e=>by cases e) o7,hns⟩;have HC:Hid (Cl y7 X 33 (wc ⟨x.no,x.up,true,m⟩ am cm)):=C7;clear C7 o7 HA;revert mark
 all_goals
  intro _;have CX:=HC.out;generalize hV:wc _ _ _=V at CX;have CX:=hdI CX;have CR:=hdI HT.out.cr;have VL:Hid (V.length=19):=by show _=_;rw [<- hV];rfl
  have V1:Hid (∀ v∈V,v.oneCell'=true):=by show ∀ v∈V,_;rw [<- hV];exact wc_one _ _ _
  have HV:=hdI hV;clear hV
  go_wp2_with (first | refine wp_ldk rfl (.tmp 5) rfl (B:=X) rfl (t:=33) (vs:=V) (by with_reducible exact CX.out) VL.out ?_ | (refine wp_stk rfl (.tmp 4) (.tmp 35) rfl (B:=w.heap.size+1+1) rfl (t:=33) (vs:=V) (xs:=z19) rfl (by with_reducible exact CR.out) VL.out rfl V1.out rfl ?_;intro u8 C8 o8))
  exact fin8 HR.out (by rw [<- HV.out] at C8;exact C8) (HW.out.on HT.out.cr (fun b e=>by cases e) o8) (HT.out.bw.trans (o8.below om_)) _ rfl
end Go.Proofs.YthjhakdpikdoeaaGreatDoor
namespace Go.Proofs.YthjhakdpikdoeaaGreatDoor
open Proofs.Tryz
open Go.RowKit
theorem c102 (x:M.W19) (B:Nat) (b:Option Addr) (n:Nat) (v:Value) (w:World) (Z:M.BlkAt w B (lpL x.no x.up x.has x.of b n v)) (f:M.OpnAt w B):
 Calls prog 102 #[.pointer (some ⟨B,0,none⟩)] w fun e w'=>e=.returned .nilFunc/\M.BlkAt w' B (lqL x.no x.up false v)/\M.OpnAt w' B/\But B w w':=by
 have a2:=Z 2 _ rfl;have f2:=f 2;have Z1:M.BlkAt (w.setCell ⟨B,2,none⟩ (.bool false)) B (lpL x.no x.up false x.of b n v):=Z.set 2 (.bool false) sm_;have f1:M.OpnAt (w.setCell ⟨B,2,none⟩ (.bool false)) B:=f.set _ _;have hb1:But B w (w.setCell ⟨B,2,none⟩ (.bool false)):=(But.refl _ _).setCell _ _;have hSome:∀ i,i<(lzL:List Value).length->((w.setCell ⟨B,2,none⟩ (.bool false)).cell? ⟨B,3+i,none⟩).isSome=true:=fun i hi=>by
  have hz:3+i<((lpL x.no x.up false x.of b n v):List Value).length:=by simp at hi;simp;omega
  rw [Z1 (3+i) _ (List.getElem?_eq_getElem hz)];rfl
 have Z3:M.BlkAt (M.fill (w.setCell ⟨B,2,none⟩ (.bool false)) B 3 lzL) B (lqL x.no x.up false v):=M.BlkAt.fill lzL [.int .i64 x.no,.bool x.up,.bool false] (lgL x.of b n) [.int .i64 0,.int .i64 0,.int .i64 0,.int .i64 0,.int .i64 0,.string ⟨#[]⟩,.string ⟨#[]⟩,.string ⟨#[]⟩,.slice none 0 0,.int .i64 0,.bool false,.int .i64 0,.string ⟨#[]⟩,.bool false,.string ⟨#[]⟩,.int .i64 0,v] 3 Z1 rfl rfl;have f3:M.OpnAt (M.fill (w.setCell ⟨B,2,none⟩ (.bool false)) B 3 lzL) B:=M.OpnAt.fill _ _ f1;have hb3:But B w (M.fill (w.setCell ⟨B,2,none⟩ (.bool false)) B 3 lzL):=M.but_fill _ _ hb1;clear Z f;go_enter func102,ntmps102;have hmark:True:=trivial
 go_wp2_with (refine M.wpList_store_blk rfl 31 _ _ rfl B 3 rfl lzL rfl hSome f1 (by simp [Value.oneCell']) kr_ rfl ?_;revert hmark)
 try intro _
 clear hSome f1 Z1;generalize (M.fill (w.setCell ⟨B,2,none⟩ (.bool false)) B 3 lzL)=U at*
 try go_wp2
 go_ret;exact ⟨rfl,Z3,f3,hb3⟩
theorem c24 (x:M.W19) (B:Nat) (b:Option Addr) (n:Nat) (v:Value) (w:World) (Z:M.BlkAt w B (lpL x.no x.up x.has x.of b n v)):
 Calls prog 24 #[.pointer (some ⟨B,0,none⟩)] w fun e w'=>e=.returned (nxt x.up 54 B)/\Below w.heap.size w w':=by
 have c1:=Z 1 _ rfl;have hcase:x.up=true\/x.up=false:=by cases x.up <;> simp
 clear Z;rcases hcase with hh | hh
 · rw [hh] at c1
   have HH:Hid (x.up=true):=hh;clear hh;go_enter func24,ntmps24;go_wp2
   try go_region
   all_goals (try go_wp2)
   all_goals go_ret
   all_goals exact ⟨by rw [HH.out];rfl,Below.refl _ _⟩
 rw [hh] at c1;have HH:Hid (x.up=false):=hh;clear hh;go_enter func24,ntmps24;go_wp2
 try go_region
 all_goals (try go_wp2)
 all_goals go_ret
 all_goals exact ⟨by rw [HH.out];rfl,Below.refl _ _⟩
end Go.Proofs.YthjhakdpikdoeaaGreatDoor
namespace Go.Proofs.YthjhakdpikdoeaaGreatDoor.M
open Proofs.Tryz
open Go.RowKit
theorem c53z (w:World):Calls prog 53 #[.slice none 0 0] w fun e w'=>e=.returned (.slice none 0 0)/\Below w.heap.size w w':=by
 have hnil:∀ u,(binOp .eql 25 (.slice none 0 0) (.slice none 0 0)).run prog u=.ok (.bool true) u:=fun u=>kr_;go_enter func53,ntmps53;go_wp2;go_ret;exact ⟨rfl,Below.refl _ _⟩
theorem c23z (y:W19) (tail:List Value) (B:Nat) (w:World) (Z:BlkAt w B ((luL y)++tail)) (hB:B<w.heap.size):
 Calls prog 23 #[.pointer (some ⟨B,0,none⟩)] w fun e w'=>e=.returned (.agg ((luL y):List Value).toArray)/\Below w.heap.size w w':=by
 have ZY:BlkAt (w.alloc (.cells (lkA 0 false false) 33)) B (luL y):=fun j v h=>by
  rw [World.cell?_alloc_lt _ _ _ (by exact hB)];exact Z j v (by rw [List.getElem?_append_left (by have:=(List.getElem?_eq_some_iff.1 h).1;exact this)];exact h)
 have hB0:Below w.heap.size w (w.alloc (.cells (lkA 0 false false) 33)):=bA;have ZR:BlkAt (w.alloc (.cells (lkA 0 false false) 33)) w.heap.size (lkL 0 false false):=fun j v h=>by simp [go_sem,h]
 have fR:OpnAt (w.alloc (.cells (lkA 0 false false) 33)) w.heap.size:=fun j=>by simp [go_sem]
 have hz0:(w.alloc (.cells (lkA 0 false false) 33)).heap.size=w.heap.size+1:=sm_;clear Z;go_enter func23,ntmps23;have ZL:BlkAt ((w.alloc (.cells (lkA 0 false false) 33)).alloc (.cells (lkA 0 false false) 33)) (w.heap.size+1) (lkL 0 false false):=fun j v h=>by simp [go_sem,h]
 have fL:OpnAt ((w.alloc (.cells (lkA 0 false false) 33)).alloc (.cells (lkA 0 false false) 33)) (w.heap.size+1):=fun j=>by simp [go_sem]
 have hSome:∀ i,i<((luL y):List Value).length->(((w.alloc (.cells (lkA 0 false false) 33)).alloc (.cells (lkA 0 false false) 33)).cell? ⟨w.heap.size+1,0+i,none⟩).isSome=true:=fun i hi=>by
  rw [Nat.zero_add];have hz:i<((lkL 0 false false):List Value).length:=hi;rw [ZL i _ (List.getElem?_eq_getElem hz)];rfl
 have hmark:True:=trivial
 go_wp2_with (first | refine wpList_load_blk rfl 33 (.tmp 6) rfl B rfl (luL y) _ ZY underlying33 rfl kr_ ?_ | (refine wpList_store_blk rfl 33 (.tmp 3) (.tmp 7) rfl (w.heap.size+1) 0 rfl (luL y) rfl hSome fL (by simp [Value.oneCell']) kr_ rfl ?_;revert hmark))
 intro _;have ZRW:BlkAt ((w.alloc (.cells (lkA 0 false false) 33)).alloc (.cells (lkA 0 false false) 33)) w.heap.size (lkL 0 false false):=fun j v h=>by simp [go_sem,h]
 have fRW:OpnAt ((w.alloc (.cells (lkA 0 false false) 33)).alloc (.cells (lkA 0 false false) 33)) w.heap.size:=fun j=>by simp [go_sem]
 have hBW:Below w.heap.size w ((w.alloc (.cells (lkA 0 false false) 33)).alloc (.cells (lkA 0 false false) 33)):=hB0.alloc hB0.size _;have ZF:BlkAt (fill ((w.alloc (.cells (lkA 0 false false) 33)).alloc (.cells (lkA 0 false false) 33)) (w.heap.size+1) 0 (luL y)) (w.heap.size+1) (luL y):=BlkAt.fill (luL y) [] (lkL 0 false false) [] 0 ZL rfl rfl;have fF:OpnAt (fill ((w.alloc (.cells (lkA 0 false false) 33)).alloc (.cells (lkA 0 false false) 33)) (w.heap.size+1) 0 (luL y)) (w.heap.size+1):=OpnAt.fill _ _ fL;have ZRF:BlkAt (fill ((w.alloc (.cells (lkA 0 false false) 33)).alloc (.cells (lkA 0 false false) 33)) (w.heap.size+1) 0 (luL y)) w.heap.size (lkL 0 false false):=BlkAt.fillO om_ _ _ ZRW;have fRF:OpnAt (fill ((w.alloc (.cells (lkA 0 false false) 33)).alloc (.cells (lkA 0 false false) 33)) (w.heap.size+1) 0 (luL y)) w.heap.size:=OpnAt.fill _ _ fRW;have hBF:Below w.heap.size w (fill ((w.alloc (.cells (lkA 0 false false) 33)).alloc (.cells (lkA 0 false false) 33)) (w.heap.size+1) 0 (luL y)):=below_fill om_ _ _ hBW;have hzF:(fill ((w.alloc (.cells (lkA 0 false false) 33)).alloc (.cells (lkA 0 false false) 33)) (w.heap.size+1) 0 (luL y)).heap.size=w.heap.size+2:=by rw [size_fill];simp
 clear hSome ZL fL ZRW fRW hBW ZR fR hz0 ZY hB0;generalize (fill ((w.alloc (.cells (lkA 0 false false) 33)).alloc (.cells (lkA 0 false false) 33)) (w.heap.size+1) 0 (luL y))=U at*;have u11:=ZF 11 _ rfl
 go_wp2_with fail
 refine (c53z U).mono ?_;rintro e w2 ⟨rfl,hb2⟩;have hB2:Below w.heap.size w w2:=bT hBF hb2;have ZF2:=ZF.below hb2 om_;have fF2:=fF.below hb2 om_;have ZR2:=ZRF.below hb2 om_;have fR2:=fRF.below hb2 om_;have x11:=ZF2 11 _ rfl;have f11:=fF2 11;have ZF3:BlkAt (w2.setCell ⟨w.heap.size+1,11,none⟩ (.slice none 0 0)) (w.heap.size+1) (luL y):=ZF2.set 11 (.slice none 0 0) sm_;have ZR3:BlkAt (w2.setCell ⟨w.heap.size+1,11,none⟩ (.slice none 0 0)) w.heap.size (lkL 0 false false):=ZR2.other _ _ (by show w.heap.size+1≠w.heap.size;omega);have fR3:OpnAt (w2.setCell ⟨w.heap.size+1,11,none⟩ (.slice none 0 0)) w.heap.size:=fR2.set _ _;have hB3:Below w.heap.size w (w2.setCell ⟨w.heap.size+1,11,none⟩ (.slice none 0 0)):=hB2.setCell (p:=⟨w.heap.size+1,11,none⟩) (by show w.heap.size<=w.heap.size+1;omega) _;have hSome:∀ i,i<((luL y):List Value).length->((w2.setCell ⟨w.heap.size+1,11,none⟩ (.slice none 0 0)).cell? ⟨w.heap.size,0+i,none⟩).isSome=true:=fun i hi=>by
  rw [Nat.zero_add];have hz:i<((lkL 0 false false):List Value).length:=hi;rw [ZR3 i _ (List.getElem?_eq_getElem hz)];rfl
 clear ZF fF ZRF fRF u11 hb2 ZF2 fF2 ZR2 fR2 hBF
 go_wp2_with (first | refine wpList_load_blk rfl 33 (.tmp 3) rfl (w.heap.size+1) rfl (luL y) _ ZF3 underlying33 rfl kr_ ?_ | refine wpList_store_blk rfl 33 (.tmp 2) (.tmp 14) rfl w.heap.size 0 rfl (luL y) rfl hSome fR3 (by simp [Value.oneCell']) kr_ rfl ?_)
 have F:BlkAt (fill (w2.setCell ⟨w.heap.size+1,11,none⟩ (.slice none 0 0)) w.heap.size 0 (luL y)) w.heap.size (luL y):=BlkAt.fill (luL y) [] (lkL 0 false false) [] 0 ZR3 rfl rfl;have hBE:Below w.heap.size w (fill (w2.setCell ⟨w.heap.size+1,11,none⟩ (.slice none 0 0)) w.heap.size 0 (luL y)):=below_fill lr_ _ _ hB3;generalize (fill (w2.setCell ⟨w.heap.size+1,11,none⟩ (.slice none 0 0)) w.heap.size 0 (luL y))=E at*;refine bodyPost_ret (v:=.agg ((luL y):List Value).toArray) (results_blk (P:=prog) (ty:=33) rfl _ E w.heap.size (luL y) _ rfl F underlying33 rfl kr_) rfl ⟨rfl,hBE⟩
end Go.Proofs.YthjhakdpikdoeaaGreatDoor.M
