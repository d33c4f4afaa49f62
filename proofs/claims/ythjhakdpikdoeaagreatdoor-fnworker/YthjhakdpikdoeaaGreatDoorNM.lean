import Derived.Test.YthjhakdpikdoeaaGreatDoorKH6
import Derived.Test.YthjhakdpikdoeaaGreatDoorNK
set_option linter.unusedVariables false
set_option maxHeartbeats 8000000
set_option maxRecDepth 100000
namespace Go.Proofs.YthjhakdpikdoeaaGreatDoor
open Proofs.Tryz
open Go.RowKit
structure T8 (K q P:Nat) (w:World) (R X Y:Nat) (no:Int) (up has:Bool) (x:M.G16) (b:Option Addr) (n:Nat) (y:M.G16) (c:Option Addr) (k:Nat) (u:World):Prop where
 rd:RdTo u q P
 bu:But q w u
 qw:q<w.heap.size
 cR:Cl u R 33 z19
 cX:Cl u X 33 (wk no up has (mc x b n))
 mx:MsI K u x b n
 cM:Cl u Y 31 (mc y c k)
 mm:MsI K u y c k
 nR:R≠q
 RX:R≠X
 wX:w.heap.size<=X
 wM:w.heap.size<=Y
section
variable {K K' q P P':Nat} {w u u':World} {R X Y:Nat} {no no':Int} {up has up' has':Bool} {x x' y y':M.G16} {b b' c c':Option Addr} {n n' k k':Nat}
theorem T8.call (h:T8 K q P w R X Y no up has x b n y c k u) (hr:RdTo u' q P') (hb:But q u u'):T8 K q P' w R X Y no up has x b n y c k u':=by
 have:=h.qw;have:=h.wX;have:=h.wM;exact ⟨hr,h.bu.trans hb,h.qw,(hb.block _ h.cR.lt h.nR).trans h.cR,(hb.block _ h.cX.lt om_).trans h.cX,h.mx.but h.rd hb,(hb.block _ h.cM.lt om_).trans h.cM,h.mm.but h.rd hb,h.nR,h.RX,h.wX,h.wM⟩
theorem T8.later (h:T8 K q P w R X Y no up has x b n y c k u) (hb:Below u.heap.size u u'):T8 K q P w R X Y no up has x b n y c k u':=h.call (h.rd.later hb) (But.of_below hb)
theorem T8.rdm (h:T8 K q P w R X Y no up has x b n y c k u) (hp:P<=P'):T8 K q P' w R X Y no up has x b n y c k u:=h.call (h.rd.mono hp) (But.refl _ _)
theorem T8.onX (h:T8 K q P w R X Y no up has x b n y c k u) (ho:OnB X u u') (hX:Cl u' X 33 (wk no' up' has' (mc x' b' n'))) (hm:MsI K u' x' b' n'):T8 K q P w R X Y no' up' has' x' b' n' y c k u':=by
 have:=h.qw;have h1:=h.wX;exact ⟨h.rd.laterB (ho.below lr_) om_,h.bu.laterB (ho.below lr_) om_,h.qw,h.cR.on ho h.RX,hX,hm,h.cM.on ho (h.cM.ne h.cX dc_),h.mm.on h.cX (fun b e=>by cases e) ho,h.nR,h.RX,h.wX,h.wM⟩
theorem T8.onM (h:T8 K q P w R X Y no up has x b n y c k u) (ho:OnB Y u u') (hM:Cl u' Y 31 (mc y' c' k')) (hm:MsI K u' y' c' k'):T8 K q P w R X Y no up has x b n y' c' k' u':=by
 have:=h.qw;have h1:=h.wM;exact ⟨h.rd.laterB (ho.below lr_) om_,h.bu.laterB (ho.below lr_) om_,h.qw,h.cR.on ho (h.cR.ne h.cM dc_),h.cX.on ho (h.cX.ne h.cM dc_),h.mx.on h.cM (fun b e=>by cases e) ho,hM,hm,h.nR,h.RX,h.wX,h.wM⟩
theorem T8.setX (h:T8 K q P w R X Y no up has x b n y c k u) (j:Nat) (v:Value) (e:(wk no up has (mc x b n)).set j v=wk no' up' has' (mc x b n)):T8 K q P w R X Y no' up' has' x b n y c k (u.setCell ⟨X,j,none⟩ v):=
 h.onX (on_set _ _ _ _) (e▸h.cX.set j v) (h.mx.on h.cX (fun b e=>by cases e) (on_set _ _ _ _))
theorem T8.setM (h:T8 K q P w R X Y no up has x b n y c k u) (j:Nat) (v:Value) (e:(mc y c k).set j v=mc y' c k) (hle:y'.le K) (hls:y'.ls=y.ls):T8 K q P w R X Y no up has x b n y' c k (u.setCell ⟨Y,j,none⟩ v):=
 h.onM (on_set _ _ _ _) (e▸h.cM.set j v) ⟨hle,by rw [hls];exact (h.mm.on h.cM (fun b e=>by cases e) (on_set _ _ _ _)).at',by rw [hls];exact h.mm.ns⟩
end
def Is15 (K q P:Nat) (w:World) (e:Ending) (w':World):Prop:=(∃ no up has x b n,e=.returned (.agg (wk no up has (mc x b n)).toArray)/\MsI K w' x b n)/\RdTo w' q P/\But q w w'
theorem fin15 {K q P P':Nat} {w u u':World} {no:Int} {up has:Bool} {x:M.G16} {b:Option Addr} {n:Nat} (hr:RdTo u q P) (hb:But q w u) (hq:q<w.heap.size) (hm:MsI K u x b n) (hR:Cl u w.heap.size 33 z19) (ho:OnB w.heap.size u u') (hC:Cl u' w.heap.size 33 (wk no up has (mc x b n))) (hp:P<=P') (tm:Array Value) (h2:tm[2]?=some (.pointer (some ⟨w.heap.size,0,none⟩))):bodyPost prog f15 (Is15 K q P' w) .ret ⟨tm,[]⟩ u':=
 bodyPost_ret (v:=.agg (wk no up has (mc x b n)).toArray) (M.results_blk (P:=prog) (ty:=33) rfl _ u' w.heap.size (wk no up has (mc x b n)) _ (by simp [h2]) hC.blk underlying33 rfl kr_) rfl ⟨⟨no,up,has,x,b,n,rfl,hm.on hR (fun b e=>by cases e) ho⟩,(hr.laterB (ho.below lr_) hq).mono hp,hb.laterB (ho.below lr_) lr_⟩
theorem c15 (q P:Nat) (w:World) (hp:P<=30000) (hr:RdTo w q P):
 Calls prog 15 #[.pointer (some ⟨q,0,none⟩)] w (Is15 999999 q (P+14000) w):=by
 have HR:=hdI hr;have hq:=hr.lt;clear hr;go_enter func15,ntmps15
 go_wp2_with fail
 obtain ⟨y0,hy⟩:∃ y:World,y=w.alloc (.cells z19.toArray 33):=⟨_,rfl⟩;have hy':=hy;simp only [z19,wk,mc,M.g16z,M.t6z,m3z,List.length_nil] at hy';rw [<- hy'];have b0:Below w.heap.size w y0:=by rw [hy];exact bA
 have R0:Hid (Cl y0 w.heap.size 33 z19):=by show Cl _ _ _ _;rw [hy];exact cl_new w _ 33
 have H0:=hdI (HR.out.later b0);clear hy hy' HR;refine (pickT y0 q P 4 om_ om_ om_ H0.out).mono ?_;rintro e y1 ⟨⟨r1,rfl,r10,r11⟩,hr,ho⟩;have R1:Hid (Cl y1 w.heap.size 33 z19):=(ho.block _ om_).trans R0.out;have B1:Hid (But q w y1):=(But.of_below b0).trans ho.but;have H1:=hdI hr;clear R0 H0 b0 hr ho
 go_wp2_with fail
 refine (pickT y1 q (P+1) 5 om_ om_ om_ H1.out).mono ?_;rintro e y2 ⟨⟨r2,rfl,r20,r21⟩,hr,ho⟩;have R2:Hid (Cl y2 w.heap.size 33 z19):=(ho.block _ om_).trans R1.out;have B2:=hdI (B1.out.trans ho.but);have H2:=hdI hr;clear R1 H1 B1 hr ho;have hz2:w.heap.size<y2.heap.size:=R2.out.lt;have hb0:Below y2.heap.size y2 (y2.alloc (.cells #[.int .i64 0,.bool false,.bool false,.int .i64 0,.int .i64 0,.int .i64 0,.int .i64 0,.int .i64 0,.string ⟨#[]⟩,.string ⟨#[]⟩,.string ⟨#[]⟩,.slice none 0 0,.int .i64 0,.bool false,.int .i64 0,.string ⟨#[]⟩,.bool false,.string ⟨#[]⟩,.int .i64 0] 33)):=bA;have CZ:Hid (Cl (y2.alloc (.cells #[.int .i64 0,.bool false,.bool false,.int .i64 0,.int .i64 0,.int .i64 0,.int .i64 0,.int .i64 0,.string ⟨#[]⟩,.string ⟨#[]⟩,.string ⟨#[]⟩,.slice none 0 0,.int .i64 0,.bool false,.int .i64 0,.string ⟨#[]⟩,.bool false,.string ⟨#[]⟩,.int .i64 0] 33)) y2.heap.size 33 z19):=cl_new y2 z19 33;by_cases hup:0<r2;rotate_left
 · have hupd:decide (0<r2)=false:=by simpa using hup
   go_wp2_with (refine wp_stk rfl (.tmp 3) (.tmp 12) rfl (B:=y2.heap.size) rfl (t:=33) (vs:=wk (1+r1) false false (mc M.g16z none 0)) (xs:=z19) rfl (by with_reducible exact CZ.out) rfl rfl (wk_one (mc_one _ _ _)) rfl ?_;intro y3 C3 o3;refine Hid.out ?_)
   unfold Hid;have hb3:Below y2.heap.size y2 y3:=hb0.trans (o3.below lr_);have R3:=hdI (R2.out.below hb3 R2.out.lt);have H3:=hdI (H2.out.later hb3);have B3:=hdI (B2.out.later hb3);have X3:=hdI C3;have hz3:=C3.lt;clear C3 o3 hb3 hb0 R2 H2 B2 CZ;generalize y2.heap.size=X at*;generalize 1+r1=no at*;have e1:y3.cell? ⟨X,1,none⟩=some (.bool false):=X3.out.cell 1;have CX:=X3.out;generalize hV:wk _ _ _ _=V at CX;have CX:=hdI CX;have CR:=hdI (R3.out);have VL:Hid (V.length=19):=by show _=_;rw [<- hV];rfl
   have V1:Hid (∀ v∈V,v.oneCell'=true):=by show ∀ v∈V,_;rw [<- hV];exact wk_one (mc_one _ _ _)
   have HV:=hdI hV;clear hV
   go_wp2_with (first | refine wp_ldk rfl (.tmp 3) rfl (B:=X) rfl (t:=33) (vs:=V) (by with_reducible exact CX.out) VL.out ?_ | (refine wp_stk rfl (.tmp 2) (.tmp 46) rfl (B:=w.heap.size) rfl (t:=33) (vs:=V) (xs:=z19) rfl (by with_reducible exact CR.out) VL.out rfl V1.out rfl ?_;intro u8 C8 o8))
   exact fin15 (H3.out) (B3.out) hq (ms_zero _) CR.out o8 (by rw [<- HV.out] at C8;exact C8) om_ _ rfl
 go_wp2_with (refine wp_stk rfl (.tmp 3) (.tmp 12) rfl (B:=y2.heap.size) rfl (t:=33) (vs:=wk (1+r1) true false (mc M.g16z none 0)) (xs:=z19) rfl (by with_reducible exact CZ.out) rfl rfl (wk_one (mc_one _ _ _)) rfl ?_;intro y3 C3 o3;refine Hid.out ?_)
 unfold Hid;have hb3:Below y2.heap.size y2 y3:=hb0.trans (o3.below lr_);have R3:=hdI (R2.out.below hb3 R2.out.lt);have H3:=hdI (H2.out.later hb3);have B3:=hdI (B2.out.later hb3);have X3:=hdI C3;have hz3:=C3.lt;clear C3 o3 hb3 hb0 R2 H2 B2 CZ;generalize y2.heap.size=X at*;generalize 1+r1=no at*;have e1:y3.cell? ⟨X,1,none⟩=some (.bool true):=X3.out.cell 1
 go_wp2_with fail
 refine (pickT y3 q (P+2) 3 om_ om_ om_ H3.out).mono ?_;rintro e y4 ⟨⟨r4,rfl,r40,r41⟩,hr,ho⟩;have R4:Hid (Cl y4 w.heap.size 33 z19):=(ho.block _ om_).trans R3.out;have X4:Hid (Cl y4 X 33 (wk no true false (mc M.g16z none 0))):=(ho.block _ om_).trans X3.out;have B4:=hdI (B3.out.trans ho.but);have H4:=hdI hr;clear R3 H3 B3 X3 hr ho hz3 e1;by_cases hr4:0<r4;rotate_left
 · skip
   have CX:=X4.out;generalize hV:wk _ _ _ _=V at CX;have CX:=hdI CX;have CR:=hdI (R4.out);have VL:Hid (V.length=19):=by show _=_;rw [<- hV];rfl
   have V1:Hid (∀ v∈V,v.oneCell'=true):=by show ∀ v∈V,_;rw [<- hV];exact wk_one (mc_one _ _ _)
   have HV:=hdI hV;clear hV
   go_wp2_with (first | refine wp_ldk rfl (.tmp 3) rfl (B:=X) rfl (t:=33) (vs:=V) (by with_reducible exact CX.out) VL.out ?_ | (refine wp_stk rfl (.tmp 2) (.tmp 46) rfl (B:=w.heap.size) rfl (t:=33) (vs:=V) (xs:=z19) rfl (by with_reducible exact CR.out) VL.out rfl V1.out rfl ?_;intro u8 C8 o8))
   exact fin15 (H4.out) (B4.out) hq (ms_zero _) CR.out o8 (by rw [<- HV.out] at C8;exact C8) om_ _ rfl
 go_wp2_with fail
 refine (c17 q (P+3) y4 om_ H4.out).mono ?_;rintro e y5 ⟨⟨tv,rfl,htr,htk⟩,hr,hb⟩;have hX4:=X4.out.lt;have hqX:q<X:=om_;have R5:Hid (Cl y5 w.heap.size 33 z19):=(hb.block _ R4.out.lt om_).trans R4.out;have X5:Hid (Cl y5 X 33 (wk no true false (mc M.g16z none 0))):=(hb.block _ X4.out.lt om_).trans X4.out;have B5:=hdI (B4.out.trans hb);have H5:=hdI hr;have T5:=hdI htr;obtain ⟨ta,tc,tf,rfl,_⟩:=htr;clear R4 X4 B4 H4 hr hb htk hX4
 go_wp2_with fail
 refine (c16 q _ _ y5 om_ H5.out T5.out).mono ?_;rintro e y6 ⟨⟨x6,b6,n6,rfl,hm6⟩,hr,hb⟩;have R6:Hid (Cl y6 w.heap.size 33 z19):=(hb.block _ R5.out.lt om_).trans R5.out;have X6:Hid (Cl y6 X 33 (wk no true false (mc M.g16z none 0))):=(hb.block _ X5.out.lt om_).trans X5.out;have B6:=hdI (B5.out.trans hb);have H6:=hdI hr;have M6:=hdI hm6;clear R5 X5 B5 H5 T5 hr hb hm6;have hb7:Below y6.heap.size y6 (y6.alloc (.cells #[.int .i64 0,.int .i64 0,.int .i64 0,.int .i64 0,.int .i64 0,.string ⟨#[]⟩,.string ⟨#[]⟩,.string ⟨#[]⟩,.slice none 0 0,.int .i64 0,.bool false,.int .i64 0,.string ⟨#[]⟩,.bool false,.string ⟨#[]⟩,.int .i64 0] 31)):=bA;have CZ:Hid (Cl (y6.alloc (.cells #[.int .i64 0,.int .i64 0,.int .i64 0,.int .i64 0,.int .i64 0,.string ⟨#[]⟩,.string ⟨#[]⟩,.string ⟨#[]⟩,.slice none 0 0,.int .i64 0,.bool false,.int .i64 0,.string ⟨#[]⟩,.bool false,.string ⟨#[]⟩,.int .i64 0] 31)) y6.heap.size 31 ([]++mc M.g16z none 0)):=cl_new y6 (mc M.g16z none 0) 31
 go_wp2_with (refine wp_stm rfl (.tmp 4) (.tmp 23) rfl (B:=y6.heap.size) (j:=0) rfl (t:=31) (pre:=[]) (vs:=mc x6 b6 n6) (xs:=mc M.g16z none 0) rfl (by with_reducible exact CZ.out) rfl rfl rfl (mc_one _ _ _) rfl ?_;intro y7 C7 o7;refine Hid.out ?_)
 unfold Hid;have hb8:Below y6.heap.size y6 y7:=hb7.trans (o7.below lr_);have hz6:=B6.out.size;have hX6:=X6.out.lt;have T7:Hid (T8 999999 q (P+1600) w w.heap.size X y6.heap.size no true false M.g16z none 0 x6 b6 n6 y7):=⟨(H6.out.later hb8).mono om_,B6.out.later hb8,hq,R6.out.below hb8 R6.out.lt,X6.out.below hb8 X6.out.lt,ms_zero _,C7,M6.out.below hb8,om_,om_,om_,om_⟩;clear C7 o7 hb8 hb7 CZ R6 X6 B6 H6 M6;generalize y6.heap.size=Y at*
 go_wp2_with fail
 go_loopw [5] (fun i wr=>∃ (k:Nat) (y:M.G16) (c:Option Addr) (m:Nat),i=.int .i64 k/\k<=6/\Hid (T8 999999 q (P+1600*(k+1)) w w.heap.size X Y no true false M.g16z none 0 y c m wr)) (fun i _=>6 - (intOf i).toNat)
 case atStart=>exact ⟨0,_,_,_,rfl,om_,T7.out.rdm om_⟩
 clear T7;obtain ⟨k,y,c,m,rfl,hk,T7⟩:=hrel;have c0:wr.cell? ⟨Y,0,none⟩=some (.int .i64 y.kd):=T7.out.cM.cell 0;by_cases hkd:y.kd=1;rotate_left
 · have hkb:(y.kd==1)=false:=by simpa using hkd
   have hkn:(y.kd !=1)=true:=by simpa using hkd
   by_cases hk6:k<6
   · go_wp2_with fail
     refine (c17 q _ wr om_ T7.out.rd).mono ?_;rintro e y8 ⟨⟨tv,rfl,htr,htk⟩,hr,hb⟩;have T9:=hdI (T7.out.call hr hb);have T5:=hdI htr;obtain ⟨ta,tc,tf,rfl,_⟩:=htr;clear T7 hr hb htk c0
     go_wp2_with fail
     refine (c16 q _ _ y8 om_ T9.out.rd T5.out).mono ?_;rintro e y9 ⟨⟨x9,b9,n9,rfl,hm9⟩,hr,hb⟩;have TA:=hdI (T9.out.call hr hb);have M9:=hdI hm9;clear T9 T5 hr hb hm9;have CM:Hid (Cl y9 Y 31 ([]++mc y c m)):=TA.out.cM
     go_wp2_with (refine wp_stm rfl (.tmp 4) (.tmp 36) rfl (B:=Y) (j:=0) rfl (t:=31) (pre:=[]) (vs:=mc x9 b9 n9) (xs:=mc y c m) rfl (by with_reducible exact CM.out) rfl rfl rfl (mc_one _ _ _) rfl ?_;intro y10 C10 o10;have TB:=hdI (TA.out.onM o10 C10 (M9.out.on TA.out.cM (fun b e=>by cases e) o10));clear C10 o10)
     go_roundw
     case rel=>exact ⟨k+1,_,_,_,by go_num,om_,TB.out.rdm om_⟩
     case measure=>simp [intOf];omega
   have CX:=T7.out.cX;generalize hV:wk _ _ _ _=V at CX;have CX:=hdI CX;have CR:=hdI T7.out.cR;have VL:Hid (V.length=19):=by show _=_;rw [<- hV];rfl
   have V1:Hid (∀ v∈V,v.oneCell'=true):=by show ∀ v∈V,_;rw [<- hV];exact wk_one (mc_one _ _ _)
   have HV:=hdI hV;clear hV
   go_wp2_with (first | refine wp_ldk rfl (.tmp 3) rfl (B:=X) rfl (t:=33) (vs:=V) (by with_reducible exact CX.out) VL.out ?_ | (refine wp_stk rfl (.tmp 2) (.tmp 46) rfl (B:=w.heap.size) rfl (t:=33) (vs:=V) (xs:=z19) rfl (by with_reducible exact CR.out) VL.out rfl V1.out rfl ?_;intro u8 C8 o8))
   exact fin15 T7.out.rd T7.out.bu hq T7.out.mx CR.out o8 (by rw [<- HV.out] at C8;exact C8) om_ _ rfl
 rw [hkd] at c0;have x0:wr.cell? ⟨X,0,none⟩=some (.int .i64 no):=T7.out.cX.cell 0;have x2:wr.cell? ⟨X,2,none⟩=some (.bool false):=T7.out.cX.cell 2;have g2:=T7.out.cX.opn 2;have c1:wr.cell? ⟨Y,1,none⟩=some (.int .i64 y.to):=T7.out.cM.cell 1;have g1:=T7.out.cM.opn 1;have hXY:=T7.out.cX.ne T7.out.cM dc_;have D:=hdI ((T7.out.setM (y':={ y with to:=no }) 1 (.int .i64 no) rfl T7.out.mm.le rfl).setX (has':=true) 2 (.bool true) rfl);have CY:=D.out.cM;generalize hV:mc _ c m=V at CY;have CY:Hid (Cl _ Y 31 ([]++V)):=CY;have CX:Hid (Cl _ X 33 ([.int .i64 no,.bool true,.bool true]++mc M.g16z none 0)):=D.out.cX;have VL:Hid (V.length=16):=by show _=_;rw [<- hV];rfl
 have V1:Hid (∀ v∈V,v.oneCell'=true):=by show ∀ v∈V,_;rw [<- hV];exact mc_one _ _ _
 have HV:=hdI hV;clear hV hkd;have mk:True:=trivial;by_cases hk6:k<6
 all_goals
  go_wp2_with (first | refine wp_ldm rfl (.tmp 4) rfl (B:=Y) (j:=0) rfl (pre:=[]) (t:=31) (vs:=V) (by with_reducible exact CY.out) VL.out rfl ?_ | (refine wp_stm rfl (.tmp 45) (.tmp 44) rfl (B:=X) (j:=3) rfl (t:=33) (pre:=[.int .i64 no,.bool true,.bool true]) (vs:=V) (xs:=mc M.g16z none 0) rfl (by with_reducible exact CX.out) VL.out rfl rfl V1.out rfl ?_;intro y8 C8 o8;refine Hid.out ?_))
  unfold Hid;have TC:Hid (T8 999999 q (P+1600*(k+1)) w w.heap.size X Y no true true { y with to:=no } c m { y with to:=no } c m y8):=D.out.onX o8 (by rw [<- HV.out] at C8;exact C8) (D.out.mm.on D.out.cX (fun b e=>by cases e) o8);clear CX CY VL V1 HV D T7 C8 o8 x0 x2 g2 c1 g1 c0;have CX:=TC.out.cX;generalize hV:wk _ _ _ _=V at CX;have CX:=hdI CX;have CR:=hdI TC.out.cR;have VL:Hid (V.length=19):=by show _=_;rw [<- hV];rfl
  have V1:Hid (∀ v∈V,v.oneCell'=true):=by show ∀ v∈V,_;rw [<- hV];exact wk_one (mc_one _ _ _)
  have HV:=hdI hV;clear hV
  go_wp2_with (first | refine wp_ldk rfl (.tmp 3) rfl (B:=X) rfl (t:=33) (vs:=V) (by with_reducible exact CX.out) VL.out ?_ | (refine wp_stk rfl (.tmp 2) (.tmp 46) rfl (B:=w.heap.size) rfl (t:=33) (vs:=V) (xs:=z19) rfl (by with_reducible exact CR.out) VL.out rfl V1.out rfl ?_;intro u8 C8 o8))
  exact fin15 TC.out.rd TC.out.bu hq TC.out.mx CR.out o8 (by rw [<- HV.out] at C8;exact C8) om_ _ rfl
end Go.Proofs.YthjhakdpikdoeaaGreatDoor
namespace Go.Proofs.YthjhakdpikdoeaaGreatDoor
open Proofs.Tryz
open Go.RowKit
structure S8 (K q P:Nat) (w:World) (no:Int) (up has:Bool) (x:M.G16) (b:Option Addr) (n:Nat) (u:World):Prop where
 rd:RdTo u q P
 bu:But q w u
 qw:q<w.heap.size
 cR:Cl u (w.heap.size+1) 33 z19
 cX:Cl u w.heap.size 33 (wk no up has (mc x b n))
 ms:MsI K u x b n
section
variable {K K' q P P':Nat} {w u u':World} {no no':Int} {up has up' has':Bool} {x x':M.G16} {b b':Option Addr} {n n':Nat}
theorem S8.call (h:S8 K q P w no up has x b n u) (hr:RdTo u' q P') (hb:But q u u'):S8 K q P' w no up has x b n u':=by
 have:=h.qw;exact ⟨hr,h.bu.trans hb,h.qw,(hb.block _ h.cR.lt om_).trans h.cR,(hb.block _ h.cX.lt om_).trans h.cX,h.ms.but h.rd hb⟩
theorem S8.later (h:S8 K q P w no up has x b n u) (hb:Below u.heap.size u u'):S8 K q P w no up has x b n u':=h.call (h.rd.later hb) (But.of_below hb)
theorem S8.on (h:S8 K q P w no up has x b n u) (ho:OnB w.heap.size u u') (hX:Cl u' w.heap.size 33 (wk no' up' has' (mc x' b' n'))) (hm:MsI K' u' x' b' n'):S8 K' q P w no' up' has' x' b' n' u':=by
 have:=h.qw;exact ⟨h.rd.laterB (ho.below lr_) om_,h.bu.laterB (ho.below lr_) om_,h.qw,h.cR.on ho om_,hX,hm⟩
theorem S8.set (h:S8 K q P w no up has x b n u) (hK:K<=K') (j:Nat) (v:Value) (e:(wk no up has (mc x b n)).set j v=wk no' up' has' (mc x b n)):S8 K' q P w no' up' has' x b n (u.setCell ⟨w.heap.size,j,none⟩ v):=
 h.on (on_set _ _ _ _) (e▸h.cX.set j v) ((h.ms.on h.cX (fun b e=>by cases e) (on_set _ _ _ _)).mono hK)
theorem S8.setO (h:S8 K q P w no up has x b n u) (hK:K<=K') (j:Nat) (v:Value) (e:(wk no up has (mc x b n)).set j v=wk no up has (mc x' b n)) (hle:x'.le K') (hls:x'.ls=x.ls):S8 K' q P w no up has x' b n (u.setCell ⟨w.heap.size,j,none⟩ v):=
 h.on (on_set _ _ _ _) (e▸h.cX.set j v) ⟨hle,by rw [hls];exact (h.ms.on h.cX (fun b e=>by cases e) (on_set _ _ _ _)).at',by rw [hls];exact h.ms.ns⟩
theorem fin20 (h:S8 K q P w no up has x b n u) (ho:OnB (w.heap.size+1) u u') (hC:Cl u' (w.heap.size+1) 33 (wk no up has (mc x b n))) (hp:P<=P') (tm:Array Value) (h4:tm[4]?=some (.pointer (some ⟨w.heap.size+1,0,none⟩))):bodyPost prog f20 (Is15 K q P' w) .ret ⟨tm,[]⟩ u':=by
 have:=h.qw;exact bodyPost_ret (v:=.agg (wk no up has (mc x b n)).toArray) (M.results_blk (P:=prog) (ty:=33) rfl _ u' (w.heap.size+1) (wk no up has (mc x b n)) _ (by simp [h4]) hC.blk underlying33 rfl kr_) rfl ⟨⟨no,up,has,x,b,n,rfl,h.ms.on h.cR (fun b e=>by cases e) ho⟩,(h.rd.laterB (ho.below lr_) om_).mono hp,h.bu.laterB (ho.below lr_) om_⟩
end
theorem c20 (q P:Nat) (no:Int) (up has:Bool) (x:M.G16) (b:Option Addr) (n:Nat) (w:World) (hp:P<=60000) (hr:RdTo w q P) (hm:MsI 999999 w x b n):
 Calls prog 20 #[.pointer (some ⟨q,0,none⟩),.agg (wk no up has (mc x b n)).toArray] w (Is15 1000000 q (P+30) w):=by
 have HR:=hdI hr;have hq:=hr.lt;have HM:=hdI hm;clear hr hm;show Calls prog 20 #[.pointer (some ⟨q,0,none⟩),.agg #[.int .i64 no,.bool up,.bool has,.int .i64 x.kd,.int .i64 x.to,.int .i64 x.fr,.int .i64 x.ep,.int .i64 x.ed,.string x.km.nm,.string x.km.tl,.string x.km.ar,.slice b x.ls.length n,.int .i64 x.ct,.bool x.tn.over,.int .i64 x.tn.cd,.string x.tn.tx,.bool x.tn.has,.string x.tn.nm,.int .i64 x.tn.st]] w _;go_enter func20,ntmps20
 go_wp2_with fail
 obtain ⟨y0,hy⟩:∃ y:World,y=(w.alloc (.cells (wk no up has (mc x b n)).toArray 33)).alloc (.cells z19.toArray 33):=⟨_,rfl⟩;have hy':=hy;simp only [z19,wk,mc,M.g16z,M.t6z,m3z,List.length_nil] at hy';rw [<- hy'];have b0:Below w.heap.size w y0:=by rw [hy];exact by2 _ _ _
 have H0:Hid (S8 999999 q P w no up has x b n y0):=⟨HR.out.later b0,But.of_below b0,hq,by rw [hy];exact cl_at sm_,by rw [hy];exact cl_old (cl_new w _ 33) _,HM.out.below b0⟩;have hle:=le_mono HM.out.le (show 999999<=1000000 by omega);clear hy hy' HR HM b0;generalize Value.agg #[.int .i64 no,.bool up,.bool has,.int .i64 x.kd,.int .i64 x.to,.int .i64 x.fr,.int .i64 x.ep,.int .i64 x.ed,.string x.km.nm,.string x.km.tl,.string x.km.ar,.slice b x.ls.length n,.int .i64 x.ct,.bool x.tn.over,.int .i64 x.tn.cd,.string x.tn.tx,.bool x.tn.has,.string x.tn.nm,.int .i64 x.tn.st]=T1;refine (pickT y0 q P 5 om_ om_ om_ H0.out.rd).mono ?_;rintro e y1 ⟨⟨r,rfl,r0,r1⟩,hr,ho⟩;have H1:=hdI (H0.out.call hr ho.but);clear H0 hr ho;have mark:True:=trivial;rcases (by omega:r=0\/r=1\/r=2\/r=3\/r=4) with h | h | h | h | h
 all_goals subst h
 case' inl=>
  go_wp2_with fail
  obtain ⟨y2,hy⟩:∃ y:World,y=y1.alloc (.cells #[.int .i64 0,.int .i64 5] 3):=⟨_,rfl⟩;rw [<- hy];have H2:Hid (S8 999999 q (P+1) w no up has x b n y2):=(by rw [hy];exact H1.out.later bA);have C2:Hid (Cl y2 y1.heap.size 3 [.int .i64 0,.int .i64 5]):=by show Cl _ _ _ _;rw [hy];exact cl_new y1 _ 3
  have hq1:=H1.out.rd.lt;clear hy H1;refine (pickT y2 q (P+1) 2 om_ om_ om_ H2.out.rd).mono ?_;rintro e y3 ⟨⟨r3,rfl,r30,r31⟩,hr,ho⟩;have H3:=hdI (H2.out.call hr ho.but);have C3:Hid (Cl y3 y1.heap.size 3 [.int .i64 0,.int .i64 5]):=(ho.block _ om_).trans C2.out;clear H2 C2 hr ho;obtain ⟨zz,hz⟩:=lit_z [.int .i64 0,.int .i64 5] dc_ r30 (by simpa using r31);have cz:=(C3.out.cell r3.toNat).trans hz;clear C3;have c0:y3.cell? ⟨w.heap.size,0,none⟩=some (.int .i64 no):=H3.out.cX.cell 0;have f0:=H3.out.cX.opn 0;have H8:=hdI (H3.out.set (K':=1000000) om_ (no':=zz) 0 (.int .i64 zz) rfl);revert mark
 case' inr.inl=>
  have c1:y1.cell? ⟨w.heap.size,1,none⟩=some (.bool up):=H1.out.cX.cell 1;have f1:=H1.out.cX.opn 1;have H8:=hdI (H1.out.set (K':=1000000) om_ (up':=!up) 1 (.bool (!up)) rfl);revert mark
 case' inr.inr.inl=>
  have c2:y1.cell? ⟨w.heap.size,2,none⟩=some (.bool has):=H1.out.cX.cell 2;have f2:=H1.out.cX.opn 2;have H8:=hdI (H1.out.set (K':=1000000) om_ (has':=!has) 2 (.bool (!has)) rfl);revert mark
 case' inr.inr.inr.inl=>
  have CX:=H1.out.cX;unfold wk at CX;generalize hV:mc x b n=V at CX;have CX:Hid (Cl y1 w.heap.size 33 ([.int .i64 no,.bool up,.bool has]++V)):=CX;have VL:Hid (V.length=16):=by show _=_;rw [<- hV];rfl
  have HV:=hdI hV;clear hV
  go_wp2_with (refine wp_ldm rfl (.tmp 36) rfl (B:=w.heap.size) (j:=3) rfl (pre:=[.int .i64 no,.bool up,.bool has]) (t:=33) (vs:=V) (by with_reducible exact CX.out) VL.out rfl ?_)
  rw [<- HV.out];clear CX VL HV;refine (c19 q (P+1) x b n y1 om_ H1.out.rd H1.out.ms).mono ?_;rintro e y3 ⟨⟨x3,b3,n3,rfl,hm3⟩,hr,ho⟩;have H3:=hdI (H1.out.call hr ho);have M3:=hdI hm3;clear H1 hr ho hm3;have CX:Hid (Cl y3 w.heap.size 33 ([.int .i64 no,.bool up,.bool has]++mc x b n)):=H3.out.cX
  go_wp2_with (refine wp_stm rfl (.tmp 39) (.tmp 38) rfl (B:=w.heap.size) (j:=3) rfl (t:=33) (pre:=[.int .i64 no,.bool up,.bool has]) (vs:=mc x3 b3 n3) (xs:=mc x b n) rfl (by with_reducible exact CX.out) rfl rfl rfl (mc_one _ _ _) rfl ?_;intro y8 C8 o8;refine Hid.out ?_)
  unfold Hid;have H8:=hdI (H3.out.on (K':=1000000) (no':=no) (up':=up) (has':=has) o8 C8 (M3.out.on H3.out.cX (fun b e=>by cases e) o8));clear CX C8 o8 H3 M3;revert mark
 case' inr.inr.inr.inr=>
  have c4:y1.cell? ⟨w.heap.size,4,none⟩=some (.int .i64 x.to):=H1.out.cX.cell 4;have f4:=H1.out.cX.opn 4;have H8:=hdI (H1.out.setO (K':=1000000) om_ (x':={ x with to:=wrap64 (x.to+1) }) 4 (.int .i64 (wrap64 (x.to+1))) rfl hle rfl);revert mark
 all_goals
  intro _;have CX:=H8.out.cX;generalize hV:wk _ _ _ _=V at CX;have CX:=hdI CX;have CR:=hdI H8.out.cR;have VL:Hid (V.length=19):=by show _=_;rw [<- hV];rfl
  have V1:Hid (∀ v∈V,v.oneCell'=true):=by show ∀ v∈V,_;rw [<- hV];exact wk_one (mc_one _ _ _)
  have HV:=hdI hV;clear hV
  go_wp2_with (first | refine wp_ldk rfl (.tmp 3) rfl (B:=w.heap.size) rfl (t:=33) (vs:=V) (by with_reducible exact CX.out) VL.out ?_ | (refine wp_stk rfl (.tmp 4) (.tmp 40) rfl (B:=w.heap.size+1) rfl (t:=33) (vs:=V) (xs:=z19) rfl (by with_reducible exact CR.out) VL.out rfl V1.out rfl ?_;intro u8 C8 o8))
  exact fin20 H8.out o8 (by rw [<- HV.out] at C8;exact C8) om_ _ rfl
end Go.Proofs.YthjhakdpikdoeaaGreatDoor
