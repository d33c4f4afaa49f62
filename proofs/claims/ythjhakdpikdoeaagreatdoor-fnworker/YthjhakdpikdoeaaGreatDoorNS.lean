import Derived.Test.YthjhakdpikdoeaaGreatDoorKH5
import Derived.Test.YthjhakdpikdoeaaGreatDoorNN
import Derived.Test.YthjhakdpikdoeaaGreatDoorZ47
set_option linter.unusedVariables false
set_option maxHeartbeats 8000000
set_option maxRecDepth 100000
namespace Go.Proofs.YthjhakdpikdoeaaGreatDoor
open Proofs.Tryz
open Go.RowKit
theorem inf31:Inf prog 31 16:=inf_of kr_
theorem row_ne {u:World} {B g k c X:Nat} {C vs:List Value} (hr:u.ownsRow B 31 16 (.slice (some ⟨g,0,none⟩) k c) k C) (hC:Cl u X 33 vs):X≠g:=by
 rintro rfl;rcases hr.2 with ⟨h,_⟩ | ⟨g',_,cur,h,_,hh,_⟩
 · cases h
 injection h with h;injection h with h;injection h with h;subst h;unfold Cl at hC;rw [hC] at hh;injection hh with hh;injection hh with _ hh;exact absurd hh dc_
theorem lks_gr {u u':World} {b:Option Addr} {n g:Nat} {is:List M.L4} (h:M.LksAt u b is) (hN:M.NS b n is) (hg:u.grownBy u' (some g)) (h0:∀ x,u.cell? ⟨g,0,none⟩≠some (.bool x)):M.LksAt u' b is:=lks_keep h hg.size fun g' off e hn hl=>hg.block g' hl fun e'=>by
 injection e' with e';subst e';rcases hN with ⟨g2,hN⟩ | hN
 · rw [e] at hN
   injection hN with hN;injection hN with e1 e2 _;subst e1 e2;rcases h with h | ⟨g3,off3,h1,_,h3⟩
   · exact hn h
   rw [e] at h1;injection h1 with h1;injection h1 with e3 e4 _;subst e3 e4;exact h0 _ (h3 0 (List.length_pos_iff.2 hn)).1
 exact hn hN
structure E7 (w:World) (x:M.W19) (b:Option Addr) (n:Nat) (v:Value) (k:Nat) (C:List Value) (u:World):Prop where
 cx:Cl u w.heap.size 33 (wc x b n)
 vx:Wv u x b n
 cr:Cl u (w.heap.size+1) 33 z19
 row:u.ownsRow w.heap.size 31 16 v k C
 bw:Below w.heap.size w u
structure F7 (w:World) (X:Nat) (y:M.W19) (b:Option Addr) (n:Nat) (u:World):Prop where
 c:Cl u X 33 (wc y b n)
 v:Wv u y b n
 x:w.heap.size+1<X
def Is7 (w:World) (x:M.W19) (t:TN) (e:Ending) (w':World):Prop:=(∃ y k C ao c v,TickR x t y k C/\e=.returned (.tuple #[.agg (wc y ao c).toArray,v])/\Wv w' y ao c/\w'.ownsRow w.heap.size 31 16 v k C)/\Below w.heap.size w w'
section
variable {w u u':World} {x y:M.W19} {b c:Option Addr} {n m X:Nat} {v v':Value} {k j:Nat} {C D:List Value}
theorem E7.below (h:E7 w x b n v k C u) (hb:Below u.heap.size u u'):E7 w x b n v k C u':=⟨h.cx.below hb h.cx.lt,h.vx.below hb,h.cr.below hb h.cr.lt,ownsRow_keep h.row fun g hg=>hb.block g (h.row.lt g hg).2,h.bw.trans (hb.mono h.bw.size)⟩
theorem F7.below (h:F7 w X y c m u) (hb:Below u.heap.size u u'):F7 w X y c m u':=⟨h.c.below hb h.c.lt,h.v.below hb,h.x⟩
theorem E7.gr {g cp:Nat} (h:E7 w x b n (.slice (some ⟨g,0,none⟩) k cp) k C u) (h0:∀ x,u.cell? ⟨g,0,none⟩≠some (.bool x)) (hr:u'.ownsRow w.heap.size 31 16 v' j D) (hg:u.grownBy u' (some g)):E7 w x b n v' j D u':=
 ⟨(hg.block _ h.cx.lt fun e=>row_ne h.row h.cx (Option.some.inj e)).trans h.cx,⟨h.vx.le,lks_gr h.vx.at' h.vx.ns hg h0,h.vx.ns⟩,(hg.block _ h.cr.lt fun e=>row_ne h.row h.cr (Option.some.inj e)).trans h.cr,hr,gr_bW (v:=.slice (some ⟨g,0,none⟩) k cp) h.bw hg h.bw.size (fun k e=>(h.row.lt k e).1)⟩
theorem F7.gr {g cp:Nat} (h:F7 w X y c m u) (hr:u.ownsRow w.heap.size 31 16 (.slice (some ⟨g,0,none⟩) k cp) k C) (h0:∀ x,u.cell? ⟨g,0,none⟩≠some (.bool x)) (hg:u.grownBy u' (some g)):F7 w X y c m u':=
 ⟨(hg.block _ h.c.lt fun e=>row_ne hr h.c (Option.some.inj e)).trans h.c,⟨h.v.le,lks_gr h.v.at' h.v.ns hg h0,h.v.ns⟩,h.x⟩
theorem E7.on {g cp:Nat} (h:E7 w x b n (.slice (some ⟨g,0,none⟩) k cp) k C u) (hF:F7 w X y c m u) (ho:OnB X u u'):E7 w x b n (.slice (some ⟨g,0,none⟩) k cp) k C u':=
 ⟨h.cx.on ho (by have:=hF.x;omega),h.vx.on hF.c (fun b e=>by cases e) ho,h.cr.on ho (by have:=hF.x;omega),ownsRow_keep h.row fun g' hg'=>ho.block g' fun e=>row_ne h.row hF.c (by injection hg' with hg';exact e.symm.trans hg'.symm),h.bw.trans (ho.below (by have:=hF.x;omega))⟩
theorem fin7 {g cp:Nat} {t:TN} (hT:TickR x t y k C) (h:E7 w x b n (.slice (some ⟨g,0,none⟩) k cp) k C u) (ho:OnB (w.heap.size+1) u u') (hC:Cl u' (w.heap.size+1) 33 (wc y c m)) (hv:Wv u y c m) (tm:Array Value) (h2:tm[2]?=some (.pointer (some ⟨w.heap.size+1,0,none⟩))) (h3:tm[3]?=some (.slice (some ⟨g,0,none⟩) k cp)):bodyPost prog f7 (Is7 w x t) .ret ⟨tm,[]⟩ u':=
 bodyPost_ret (v:=.tuple #[.agg (wc y c m).toArray,.slice (some ⟨g,0,none⟩) k cp]) (by
  have:=results_blk_tmp (P:=prog) (fn:=f7) (p:=2) (q:=3) (ty:=33) rfl tm u' (w.heap.size+1) (wc y c m) _ (by simp [h2]) hC.blk underlying33 rfl kr_;rw [this];simp [h3]) rfl ⟨⟨y,k,C,c,m,_,hT,rfl,hv.on h.cr (fun b e=>by cases e) ho,ownsRow_keep h.row fun g' hg'=>ho.block g' fun e=>row_ne h.row h.cr (by injection hg' with hg';exact e.symm.trans hg'.symm)⟩,h.bw.trans (ho.below om_)⟩
end
theorem c7v (x:M.W19) (b:Option Addr) (n:Nat) (w:World) (hx:Wv w x b n):
 Calls prog 7 #[.agg (wc x b n).toArray] w (Is7 w x (goT x.of.km x.of.ls)):=by
 have HX:=hdI hx;clear hx;show Calls prog 7 #[.agg #[.int .i64 x.no,.bool x.up,.bool x.has,.int .i64 x.of.kd,.int .i64 x.of.to,.int .i64 x.of.fr,.int .i64 x.of.ep,.int .i64 x.of.ed,.string x.of.km.nm,.string x.of.km.tl,.string x.of.km.ar,.slice b x.of.ls.length n,.int .i64 x.of.ct,.bool x.of.tn.over,.int .i64 x.of.tn.cd,.string x.of.tn.tx,.bool x.of.tn.has,.string x.of.tn.nm,.int .i64 x.of.tn.st]] w _;go_enter func7,ntmps7
 go_upto_region 2 with fail
 obtain ⟨y0,hy⟩:∃ y:World,y=((w.alloc (.cells (wc x b n).toArray 33)).alloc (.cells z19.toArray 33)).alloc (.cells #[] 31):=⟨_,rfl⟩;have hy':=hy;simp only [wc,z19,wk,mc,M.g16z,M.t6z,m3z,List.length_nil] at hy';rw [<- hy'];have b0:Below w.heap.size w y0:=by rw [hy];exact (by2 _ _ _).alloc so_ _
 have hz:((w.alloc (.cells (wc x b n).toArray 33)).alloc (.cells z19.toArray 33)).heap.size=w.heap.size+1+1:=sm_;have HE:Hid (E7 w x b n (.slice (some ⟨w.heap.size+1+1,0,none⟩) 0 0) 0 [] y0):=⟨by rw [hy];exact cl_old (cl_old (cl_new w _ 33) _) _,HX.out.below b0,by rw [hy];exact cl_old (cl_at sm_) _,by
  have:=row0 (base:=w.heap.size) ((w.alloc (.cells (wc x b n).toArray 33)).alloc (.cells z19.toArray 33)) 31 16 so_;rw [hz] at this;rw [hy];exact this,b0⟩
 have HN:Hid (Cl y0 (w.heap.size+1+1) 31 []):=by show Cl _ _ _ _;rw [hy];exact cl_at (xs:=[]) sm_
 clear hy hy' b0 HX hz;generalize Value.agg #[.int .i64 x.no,.bool x.up,.bool x.has,.int .i64 x.of.kd,.int .i64 x.of.to,.int .i64 x.of.fr,.int .i64 x.of.ep,.int .i64 x.of.ed,.string x.of.km.nm,.string x.of.km.tl,.string x.of.km.ar,.slice b x.of.ls.length n,.int .i64 x.of.ct,.bool x.of.tn.over,.int .i64 x.of.tn.cd,.string x.of.tn.tx,.bool x.of.tn.has,.string x.of.tn.nm,.int .i64 x.of.tn.st]=T1;have CX:=HE.out.cx;generalize hV:wc x b n=V at CX;have CX:=hdI CX;have VL:Hid (V.length=19):=by show _=_;rw [<- hV];rfl
 have HV:=hdI hV;clear hV
 go_wp2_with (refine wp_ldk rfl (.tmp 1) rfl (B:=w.heap.size) rfl (t:=33) (vs:=V) (by with_reducible exact CX.out) VL.out ?_)
 rw [<- HV.out];clear CX VL HV;refine (c11w x b n y0 HE.out.vx).mono ?_;rintro e y1 ⟨⟨r,rfl,hr⟩,hb⟩;have HE:=hdI (HE.out.below hb);have HN:=hdI (HN.out.below hb HN.out.lt);clear hb;cases r
 · have hno:¬M.WkOk x:=fun h=>by have:=hr.2 h;cases this
   have CR:=hdI HE.out.cr
   go_wp2_with (refine wp_stk rfl (.tmp 2) (.tmp 11) rfl (B:=w.heap.size+1) rfl (t:=33) (vs:=z19) (xs:=z19) rfl (by with_reducible exact CR.out) rfl rfl (wk_one (mc_one _ _ _)) rfl ?_;intro y2 C2 o2)
   exact fin7 (y:=M.w19z) (.inl ⟨hno,rfl,rfl,rfl⟩) HE.out o2 (c:=none) (m:=0) C2 ⟨(ms_zero (K:=1048576) y2).le,.inl rfl,.inr rfl⟩ _ rfl rfl
 have hok:=hr.1 rfl;clear hr;have CX:=HE.out.cx;generalize hV:wc x b n=V at CX;have CX:=hdI CX;have VL:Hid (V.length=19):=by show _=_;rw [<- hV];rfl
 have HV:=hdI hV;clear hV
 go_wp2_with (refine wp_ldk rfl (.tmp 1) rfl (B:=w.heap.size) rfl (t:=33) (vs:=V) (by with_reducible exact CX.out) VL.out ?_)
 rw [<- HV.out];clear CX VL HV;refine (c25w x b n y1 HE.out.vx).mono ?_;rintro e y2 ⟨⟨ao,co,rfl,hv⟩,hb⟩;have HE:=hdI (HE.out.below hb);have HN:=hdI (HN.out.below hb HN.out.lt);have HW:=hdI hv;clear hb hv;have hbA:Below y2.heap.size y2 (y2.alloc (.cells #[.int .i64 0,.bool false,.bool false,.int .i64 0,.int .i64 0,.int .i64 0,.int .i64 0,.int .i64 0,.string ⟨#[]⟩,.string ⟨#[]⟩,.string ⟨#[]⟩,.slice none 0 0,.int .i64 0,.bool false,.int .i64 0,.string ⟨#[]⟩,.bool false,.string ⟨#[]⟩,.int .i64 0] 33)):=bA;have CZ:Hid (Cl (y2.alloc (.cells #[.int .i64 0,.bool false,.bool false,.int .i64 0,.int .i64 0,.int .i64 0,.int .i64 0,.int .i64 0,.string ⟨#[]⟩,.string ⟨#[]⟩,.string ⟨#[]⟩,.slice none 0 0,.int .i64 0,.bool false,.int .i64 0,.string ⟨#[]⟩,.bool false,.string ⟨#[]⟩,.int .i64 0] 33)) y2.heap.size 33 z19):=cl_new y2 z19 33;generalize hV:wc x ao co=V;have VL:Hid (V.length=19):=by show _=_;rw [<- hV];rfl
 have V1:Hid (∀ v∈V,v.oneCell'=true):=by show ∀ v∈V,_;rw [<- hV];exact wc_one _ _ _
 have HV:=hdI hV;clear hV
 go_wp2_with (refine wp_stk rfl (.tmp 5) (.tmp 14) rfl (B:=y2.heap.size) rfl (t:=33) (vs:=V) (xs:=z19) rfl (by with_reducible exact CZ.out) VL.out rfl V1.out rfl ?_;intro y3 C3 o3;refine Hid.out ?_)
 unfold Hid;rw [<- HV.out] at C3;have hbN:Below y2.heap.size y2 y3:=hbA.trans (o3.below lr_);have HF:Hid (F7 w y2.heap.size x ao co y3):=⟨C3,HW.out.below hbN,HE.out.cr.lt⟩;have HE:=hdI (HE.out.below hbN);have HN:=hdI (HN.out.below hbN HN.out.lt);clear hbA CZ VL V1 HV C3 o3 hbN HW;generalize y2.heap.size=X at*;have a0:y3.cell? ⟨w.heap.size,0,none⟩=some (.int .i64 x.no):=HE.out.cx.cell 0;have a1:y3.cell? ⟨w.heap.size,1,none⟩=some (.bool x.up):=HE.out.cx.cell 1;have a2:y3.cell? ⟨w.heap.size,2,none⟩=some (.bool x.has):=HE.out.cx.cell 2;have mark:True:=trivial;cases hup:x.up
 all_goals rw [hup] at a1
 case' false=>
  have HR:Hid (TickR x (goT x.of.km x.of.ls) x 0 []):=.inr (.inl ⟨hok,hup,rfl,rfl,rfl⟩);clear HN;revert mark
 case' true=>
  have hb4:Below y3.heap.size y3 (y3.alloc (.cells #[.int .i64 3,.int .i64 0,.int .i64 x.no,.int .i64 0,.int .i64 0,.string ⟨#[]⟩,.string ⟨#[]⟩,.string ⟨#[]⟩,.slice none 0 0,.int .i64 0,.bool false,.int .i64 0,.string ⟨#[]⟩,.bool false,.string ⟨#[]⟩,.int .i64 0] 31)):=bA;have HE4:=hdI (HE.out.below hb4);have HF4:=hdI (HF.out.below hb4);have HN4:=hdI (HN.out.below hb4 HN.out.lt);have h04:∀ xb,(y3.alloc (.cells #[.int .i64 3,.int .i64 0,.int .i64 x.no,.int .i64 0,.int .i64 0,.string ⟨#[]⟩,.string ⟨#[]⟩,.string ⟨#[]⟩,.slice none 0 0,.int .i64 0,.bool false,.int .i64 0,.string ⟨#[]⟩,.bool false,.string ⟨#[]⟩,.int .i64 0] 31)).cell? ⟨w.heap.size+1+1,0,none⟩≠some (.bool xb):=fun xb e=>by rw [HN4.out.cell] at e;cases e
  have H04:=hdI h04;clear h04
  go_upto_region 8 with (at_builtin;refine wl_app rfl _ _ 37 rfl w.heap.size 31 16 underlying37 inf31 dc_ _ 0 [] rfl HE4.out.row _ 1 (mc { M.g16z with kd:=3,fr:=x.no } none 0) rfl (.inr ⟨⟨_,0,none⟩,1,rfl,rfl,cl_row (cl_new y3 (mc { M.g16z with kd:=3,fr:=x.no } none 0) 31)⟩) (mc_one _ _ _) om_ HE4.out.bw.size ?_;intro v1 y5 O1 g1 hn1)
  have HE5:Hid (E7 w x b n v1 1 (mc { M.g16z with kd:=3,fr:=x.no } none 0) y5):=HE4.out.gr H04.out O1 g1;have HF:=hdI (HF4.out.gr HE4.out.row H04.out g1);obtain ⟨a5,c5,e5⟩:=row_sl HE5.out.row;subst e5;obtain ⟨g5,e5⟩:=row_pos HE5.out.row dc_;subst e5;have HE:=hdI HE5.out;clear HE4 HF4 HN4 HN H04 O1 g1 hn1 hb4 HE5 a0 a1 a2;have a2:y5.cell? ⟨w.heap.size,2,none⟩=some (.bool x.has):=HE.out.cx.cell 2;cases hh:x.has
  all_goals rw [hh] at a2
  case' false=>
   have HR:Hid (TickR x (goT x.of.km x.of.ls) x 1 (mc { M.g16z with kd:=3,fr:=x.no } none 0)):=.inr (.inr (.inl ⟨hok,hup,hh,rfl,rfl,rfl⟩));revert mark
  case' true=>
   have hg5:=(HE.out.row.lt g5 rfl).2;have CX:=HE.out.cx;unfold wc wk at CX;generalize hV:mc x.of b n=V at CX;have CX:Hid (Cl y5 w.heap.size 33 ([.int .i64 x.no,.bool x.up,.bool x.has]++V)):=CX;have VL:Hid (V.length=16):=by show _=_;rw [<- hV];rfl
   have V1:Hid (∀ v∈V,v.oneCell'=true):=by show ∀ v∈V,_;rw [<- hV];exact mc_one _ _ _
   have HV:=hdI hV;have hbA:Below y5.heap.size y5 (y5.alloc (.cells #[.int .i64 0,.int .i64 0,.int .i64 0,.int .i64 0,.int .i64 0,.string ⟨#[]⟩,.string ⟨#[]⟩,.string ⟨#[]⟩,.slice none 0 0,.int .i64 0,.bool false,.int .i64 0,.string ⟨#[]⟩,.bool false,.string ⟨#[]⟩,.int .i64 0] 31)):=bA;have CZ:Hid (Cl (y5.alloc (.cells #[.int .i64 0,.int .i64 0,.int .i64 0,.int .i64 0,.int .i64 0,.string ⟨#[]⟩,.string ⟨#[]⟩,.string ⟨#[]⟩,.slice none 0 0,.int .i64 0,.bool false,.int .i64 0,.string ⟨#[]⟩,.bool false,.string ⟨#[]⟩,.int .i64 0] 31)) y5.heap.size 31 ([]++mc M.g16z none 0)):=cl_new y5 (mc M.g16z none 0) 31;clear hV
   go_wp2_with (first | refine wp_ldm rfl (.tmp 28) rfl (B:=w.heap.size) (j:=3) rfl (pre:=[.int .i64 x.no,.bool x.up,.bool x.has]) (t:=33) (vs:=V) (by with_reducible exact CX.out) VL.out rfl ?_ | (refine wp_stm rfl (.tmp 6) (.tmp 29) rfl (B:=y5.heap.size) (j:=0) rfl (t:=31) (pre:=[]) (vs:=V) (xs:=mc M.g16z none 0) rfl (by with_reducible exact CZ.out) VL.out rfl rfl V1.out rfl ?_;intro y6 C6 o6;refine Hid.out ?_))
   unfold Hid;have C6:Cl y6 y5.heap.size 31 V:=C6;rw [<- HV.out] at C6;have hbN:Below y5.heap.size y5 y6:=hbA.trans (o6.below lr_);have HE:=hdI (HE.out.below hbN);have HF:=hdI (HF.out.below hbN);have H6:=hdI C6;clear hbA CZ CX VL V1 HV C6 o6 hbN a2;generalize y5.heap.size=Y at*;rcases hT:goT x.of.km x.of.ls with ⟨to,tc,tt,th,tn,ts⟩;have HTT:=hdI hT;have HSS:Hid (∀ u (v:Value) (k:Nat) (C:List Value),E7 w x b n v k C u->Cl u Y 31 (mc x.of b n)->u.cell? ⟨w.heap.size,0,none⟩=some (.int .i64 x.no)/\u.cell? ⟨Y,3,none⟩=some (.int .i64 x.of.ep)/\u.cell? ⟨Y,4,none⟩=some (.int .i64 x.of.ed)/\u.cell? ⟨Y,5,none⟩=some (.string x.of.km.nm)/\u.cell? ⟨Y,6,none⟩=some (.string x.of.km.tl)/\u.cell? ⟨Y,7,none⟩=some (.string x.of.km.ar)/\u.cell? ⟨Y,8,none⟩=some (.slice b x.of.ls.length n)):=fun u v k C h1 h2=>⟨h1.cx.cell 0,h2.cell 3,h2.cell 4,h2.cell 5,h2.cell 6,h2.cell 7,h2.cell 8⟩;have hlI:(x.of.ls.length:Int)<=1048576:=by have:=HE.out.vx.le.2.1.1;omega
   go_upto_region 10 with fail
   have hbd:Below y6.heap.size y6 y6.drew:=(Below.refl _ _).drew;have HE:=hdI (HE.out.below hbd);have HF:=hdI (HF.out.below hbd);have H6:=hdI (H6.out.below hbd H6.out.lt);refine wp_region_held_drew (S:=fun u=>u.cell? ⟨w.heap.size,0,none⟩=some (.int .i64 x.no)/\u.cell? ⟨Y,3,none⟩=some (.int .i64 x.of.ep)/\u.cell? ⟨Y,4,none⟩=some (.int .i64 x.of.ed)/\u.cell? ⟨Y,5,none⟩=some (.string x.of.km.nm)/\u.cell? ⟨Y,6,none⟩=some (.string x.of.km.tl)/\u.cell? ⟨Y,7,none⟩=some (.string x.of.km.ar)/\u.cell? ⟨Y,8,none⟩=some (.slice b x.of.ls.length n)) kr_ (HSS.out _ _ _ _ HE.out H6.out) fun hH=>?_;clear hbd hT;generalize y6.drew=y7 at HE HF H6 hH ⊢;refine tq 0 hH ?_
   try simp only [qq]
   refine tq 1 hH ?_
   try simp only [qq]
   refine tq 2 hH ?_
   try simp only [qq]
   refine tq 3 hH ?_
   try simp only [qq]
   refine tq 4 hH ?_
   try simp only [qq]
   refine tq 5 hH ?_
   try simp only [qq]
   refine tq 6 hH ?_
   try simp only [qq]
   refine tq 7 hH ?_
   try simp only [qq]
   refine tq 8 hH ?_
   try simp only [qq]
   refine tq 9 hH ?_
   try simp only [qq]
   refine tq 10 hH ?_
   try simp only [qq]
   refine tq 11 hH ?_
   try simp only [qq]
   refine tq 12 hH ?_
   try simp only [qq]
   refine tq 13 hH ?_
   try simp only [qq]
   refine tq 14 hH ?_
   try simp only [qq]
   refine tq 15 hH ?_
   try simp only [qq]
   refine tq 16 hH ?_
   try simp only [qq]
   refine tq 17 hH ?_
   try simp only [qq]
   refine rq 18 fun K hK=>?_;clear hH;go_simp;refine (c26t x.of.km b n x.of.ls y7 HE.out.vx.le.1 HE.out.vx.le.2.1.1 HE.out.vx.le.2.1.2 HE.out.vx.at' HTT.out).mono ?_;rintro e y8 ⟨rfl,hb⟩;have HE:=hdI (HE.out.below hb);have HF:=hdI (HF.out.below hb);have H6:=hdI (H6.out.below hb H6.out.lt);clear hb;go_simp;refine hK.out _ _ (HSS.out _ _ _ _ HE.out H6.out) fun hH=>?_;clear hK K
   try simp only [qq]
   refine tq 19 hH ?_
   try simp only [qq]
   have hb9:Below y8.heap.size y8 (y8.alloc (.cells #[.int .i64 2,.int .i64 0,.int .i64 x.no,.int .i64 x.of.ep,.int .i64 x.of.ed,.string x.of.km.nm,.string ⟨#[]⟩,.string ⟨#[]⟩,.slice none 0 0,.int .i64 x.of.ls.length,.bool to,.int .i64 tc,.string tt,.bool th,.string tn,.int .i64 ts] 31)):=bA;have HEa:=hdI (HE.out.below hb9);have HFa:=hdI (HF.out.below hb9);have H6a:=hdI (H6.out.below hb9 H6.out.lt);have N9:Hid (Cl (y8.alloc (.cells #[.int .i64 2,.int .i64 0,.int .i64 x.no,.int .i64 x.of.ep,.int .i64 x.of.ed,.string x.of.km.nm,.string ⟨#[]⟩,.string ⟨#[]⟩,.slice none 0 0,.int .i64 x.of.ls.length,.bool to,.int .i64 tc,.string tt,.bool th,.string tn,.int .i64 ts] 31)) y8.heap.size 31 [.int .i64 2,.int .i64 0,.int .i64 x.no,.int .i64 x.of.ep,.int .i64 x.of.ed,.string x.of.km.nm,.string ⟨#[]⟩,.string ⟨#[]⟩,.slice none 0 0,.int .i64 x.of.ls.length,.bool to,.int .i64 tc,.string tt,.bool th,.string tn,.int .i64 ts]):=cl_new y8 _ 31;refine rq 20 fun K hK=>?_;clear hH;go_simp;refine hK.out _ _ (HSS.out _ _ _ _ HEa.out H6a.out) fun hH=>?_;clear hK K hb9
   try simp only [qq]
   have h0a:∀ xb,(y8.alloc (.cells #[.int .i64 2,.int .i64 0,.int .i64 x.no,.int .i64 x.of.ep,.int .i64 x.of.ed,.string x.of.km.nm,.string ⟨#[]⟩,.string ⟨#[]⟩,.slice none 0 0,.int .i64 x.of.ls.length,.bool to,.int .i64 tc,.string tt,.bool th,.string tn,.int .i64 ts] 31)).cell? ⟨g5,0,none⟩≠some (.bool xb):=fun xb e=>by rw [HEa.out.row.cellAt 0 dc_] at e;cases e
   have HY5:Y≠g5:=om_;have H0a:=hdI h0a;clear h0a;refine rq 21 fun K hK=>?_;clear hH;refine st_app rfl _ _ 37 rfl w.heap.size 31 16 underlying37 inf31 dc_ _ 1 (mc { M.g16z with kd:=3,fr:=x.no } none 0) rfl HEa.out.row _ 1 [.int .i64 2,.int .i64 0,.int .i64 x.no,.int .i64 x.of.ep,.int .i64 x.of.ed,.string x.of.km.nm,.string ⟨#[]⟩,.string ⟨#[]⟩,.slice none 0 0,.int .i64 x.of.ls.length,.bool to,.int .i64 tc,.string tt,.bool th,.string tn,.int .i64 ts] rfl (.inr ⟨⟨_,0,none⟩,1,rfl,rfl,cl_row N9.out⟩) (by simp [Value.oneCell']) om_ HEa.out.bw.size fun v2 y9 O2 gr2 hn2=>?_;have HEb:=hdI (HEa.out.gr H0a.out O2 gr2);have HFb:=hdI (HFa.out.gr HEa.out.row H0a.out gr2);have H6b:Hid (Cl y9 Y 31 (mc x.of b n)):=(gr2.block _ H6a.out.lt fun e=>HY5 (Option.some.inj e)).trans H6a.out;obtain ⟨a9,c9,e9⟩:=row_sl HEb.out.row;subst e9;obtain ⟨g9,e9⟩:=row_pos HEb.out.row dc_;subst e9;have HE:Hid (E7 w x b n (.slice (some ⟨g9,0,none⟩) 2 c9) 2 (mc { M.g16z with kd:=3,fr:=x.no } none 0++[.int .i64 2,.int .i64 0,.int .i64 x.no,.int .i64 x.of.ep,.int .i64 x.of.ed,.string x.of.km.nm,.string ⟨#[]⟩,.string ⟨#[]⟩,.slice none 0 0,.int .i64 x.of.ls.length,.bool to,.int .i64 tc,.string tt,.bool th,.string tn,.int .i64 ts]) y9):=HEb.out;have HF:=HFb;refine hK.out _ _ (HSS.out _ _ _ _ HE.out H6b.out) fun hH=>?_;clear hK K O2 gr2 hn2 HEa HFa H6a N9 H0a HEb HFb H6b H6 HY5
   try simp only [qq]
   refine tq 22 hH ?_
   try simp only [qq]
   refine wpAnyH_done kr_ ?_ _;clear hH HSS;have HR:Hid (TickR x (goT x.of.km x.of.ls) ⟨x.no,x.up,false,M.g16z⟩ 2 (mc { M.g16z with kd:=3,fr:=x.no } none 0++[.int .i64 2,.int .i64 0,.int .i64 x.no,.int .i64 x.of.ep,.int .i64 x.of.ed,.string x.of.km.nm,.string ⟨#[]⟩,.string ⟨#[]⟩,.slice none 0 0,.int .i64 x.of.ls.length,.bool to,.int .i64 tc,.string tt,.bool th,.string tn,.int .i64 ts])):=by
    show TickR _ _ _ _ _;rw [HTT.out];exact .inr (.inr (.inr ⟨hok,hup,hh,rfl,rfl,rfl⟩))
   have x2:y9.cell? ⟨X,2,none⟩=some (.bool x.has):=HF.out.c.cell 2;have g2:=HF.out.c.opn 2;have C2:Hid (Cl (y9.setCell ⟨X,2,none⟩ (.bool false)) X 33 ([.int .i64 x.no,.bool x.up,.bool false]++mc x.of ao co)):=HF.out.c.set 2 (.bool false);have HE2:=hdI (HE.out.on HF.out (on_set y9 X 2 (.bool false)));have hv2:=HF.out.v.on HF.out.c (fun b e=>by cases e) (on_set y9 X 2 (.bool false));have F2:Hid (F7 w X ⟨x.no,x.up,false,x.of⟩ ao co (y9.setCell ⟨X,2,none⟩ (.bool false))):=⟨C2.out,⟨hv2.le,hv2.at',hv2.ns⟩,HF.out.x⟩;clear hv2
   go_wp2_with (refine wp_stm rfl (.tmp 54) (.tmp 53) rfl (B:=X) (j:=3) rfl (t:=33) (pre:=[.int .i64 x.no,.bool x.up,.bool false]) (vs:=mc M.g16z none 0) (xs:=mc x.of ao co) rfl (by with_reducible exact C2.out) rfl rfl rfl (mc_one _ _ _) rfl ?_;intro yb Cb ob;refine Hid.out ?_)
   unfold Hid;have HE:=hdI (HE2.out.on F2.out ob);have HF:Hid (F7 w X ⟨x.no,x.up,false,M.g16z⟩ none 0 yb):=⟨Cb,⟨(ms_zero (K:=1048576) yb).le,.inl rfl,.inr rfl⟩,F2.out.x⟩;clear x2 g2 C2 HE2 F2 Cb ob;revert mark
 all_goals
  intro _;have CX:=HF.out.c;generalize hV:wc _ _ _=V at CX;have CX:=hdI CX;have CR:=hdI HE.out.cr;have VL:Hid (V.length=19):=by show _=_;rw [<- hV];rfl
  have V1:Hid (∀ v∈V,v.oneCell'=true):=by show ∀ v∈V,_;rw [<- hV];exact wc_one _ _ _
  have HV:=hdI hV;clear hV
  go_wp2_with (first | refine wp_ldk rfl (.tmp 5) rfl (B:=X) rfl (t:=33) (vs:=V) (by with_reducible exact CX.out) VL.out ?_ | (refine wp_stk rfl (.tmp 2) (.tmp 18) rfl (B:=w.heap.size+1) rfl (t:=33) (vs:=V) (xs:=z19) rfl (by with_reducible exact CR.out) VL.out rfl V1.out rfl ?_;intro u8 C8 o8) | (refine wp_stk rfl (.tmp 2) (.tmp 55) rfl (B:=w.heap.size+1) rfl (t:=33) (vs:=V) (xs:=z19) rfl (by with_reducible exact CR.out) VL.out rfl V1.out rfl ?_;intro u8 C8 o8))
  exact fin7 HR.out HE.out o8 (by rw [<- HV.out] at C8;exact C8) HF.out.v _ rfl rfl
end Go.Proofs.YthjhakdpikdoeaaGreatDoor
namespace Go.Proofs.YthjhakdpikdoeaaGreatDoor
open Proofs.Tryz
open Go.RowKit
theorem tk_le {x y:M.W19} {m:M.G16} (h:M.TkR x m y) (hx:x.of.le 1048576) (hm:m.le 1048576):y.of.le 1048576:=by
 rcases h with ⟨_,rfl⟩ | ⟨_,_,rfl⟩ | ⟨_,_,rfl⟩
 · exact (ms_zero (K:=1048576) default).le
 · exact hm
 exact hx
theorem c5w (x:M.W19) (m:M.G16) (b:Option Addr) (n:Nat) (b2:Option Addr) (n2:Nat) (w:World) (hx:Wv w x b n) (hm:MsI 1000000 w m b2 n2):
 Calls prog 5 #[.agg (wc x b n).toArray,.agg (mc m b2 n2).toArray] w fun e w'=>(∃ y ao c,M.TkR x m y/\e=.returned (.agg (wc y ao c).toArray)/\Wv w' y ao c)/\Below w.heap.size w w':=
 (M.c5 x m b n b2 n2 w hx.le (le_mono hm.le om_) hx.at' hm.at' hx.ns hm.ns).mono fun e w' ⟨⟨y,ao,c,h1,h2,h3⟩,hb⟩=>⟨⟨y,ao,c,h1,h2,tk_le h1 hx.le (le_mono hm.le om_),h3.at',h3.ns c⟩,hb⟩
theorem c8w (x:M.W19) (m:M.G16) (b:Option Addr) (n:Nat) (b2:Option Addr) (n2:Nat) (w:World) (hx:Wv w x b n) (hm:MsI 1000000 w m b2 n2) {z:M.W19} (hz:M.TkR x m z):
 Calls prog 8 #[.agg (wc x b n).toArray,.agg (mc m b2 n2).toArray] w fun e w'=>(∃ ao c,e=.returned (.agg (wc z ao c).toArray)/\Wv w' z ao c)/\Below w.heap.size w w':=
 (c8v x m b n b2 n2 w hx (le_mono hm.le om_) hm.at' hm.ns).mono fun e w' ⟨⟨y,ao,c,h1,h2,h3⟩,hb⟩=>by
  obtain rfl:=M.tkR_one hz h1;exact ⟨⟨ao,c,h2,h3⟩,hb⟩
theorem tick_le {x y:M.W19} {t:TN} {k:Nat} {C:List Value} (h:TickR x t y k C) (hx:x.of.le 1048576):y.of.le 1048576:=by
 rcases h with ⟨_,rfl,_⟩ | ⟨_,_,rfl,_⟩ | ⟨_,_,_,rfl,_⟩ | ⟨_,_,_,rfl,_⟩
 · exact (ms_zero (K:=1048576) default).le
 · exact hx
 · exact hx
 exact (ms_zero (K:=1048576) default).le
theorem c6w (x:M.W19) (b:Option Addr) (n:Nat) (w:World) (hx:Wv w x b n) (hsh:ShapesAt w) (hmx:MaxAt w):
 Calls prog 6 #[.agg (wc x b n).toArray] w fun e w'=>(∃ y k C ao c v,TickR x (goT x.of.km x.of.ls) y k C/\e=.returned (.tuple #[.agg (wc y ao c).toArray,v])/\Wv w' y ao c/\w'.ownsRow w.heap.size 31 16 v k C)/\Below w.heap.size w w':=
 (c6 x _ b n w hx.le hx.at' hx.ns hsh hmx rfl).mono fun e w' ⟨⟨y,k,C,ao,c,v,h1,h2,h3,h4⟩,hb⟩=>⟨⟨y,k,C,ao,c,v,h2,h1,⟨tick_le h2 hx.le,h3.at',h3.ns c⟩,h4⟩,hb⟩
theorem c7w (x:M.W19) (b:Option Addr) (n:Nat) (w:World) (hx:Wv w x b n) {y:M.W19} {k:Nat} {C:List Value} (hy:TickR x (goT x.of.km x.of.ls) y k C):
 Calls prog 7 #[.agg (wc x b n).toArray] w fun e w'=>(∃ ao c v,e=.returned (.tuple #[.agg (wc y ao c).toArray,v])/\Wv w' y ao c/\w'.ownsRow w.heap.size 31 16 v k C)/\Below w.heap.size w w':=
 (c7v x b n w hx).mono fun e w' ⟨⟨y',k',C',ao,c,v,h1,h2,h3,h4⟩,hb⟩=>by
  obtain ⟨rfl,rfl,rfl⟩:=tick_one hy h1;exact ⟨⟨ao,c,v,h2,h3,h4⟩,hb⟩
theorem c12w (x:M.W19) (b:Option Addr) (n:Nat) (w:World) (hx:Wv w x b n):
 Calls prog 12 #[.agg (wc x b n).toArray] w fun e w'=>M.IsB (M.WkOk x) e/\Below w.heap.size w w':=M.c12 x b n w hx.le hx.at'
theorem c9w (z:M.W19) (b:Option Addr) (n:Nat) (b':Option Addr) (n':Nat) (w:World) (h:Wv w z b n) (h':Wv w z b' n'):
 Calls prog 9 #[.agg (wc z b n).toArray,.agg (wc z b' n').toArray] w fun e w'=>e=.returned (.bool true)/\Below w.heap.size w w':=c9 z.no z.up z.has z.of b n b' n' w h.le.2.1.1 h.at' h'.at'
structure Q3 (w:World) (A3 A4:Nat) (x:M.W19) (b:Option Addr) (n:Nat) (m:M.G16) (c:Option Addr) (k:Nat) (u:World):Prop where
 c3:Cl u A3 33 (wc x b n)
 w3:Wv u x b n
 c4:Cl u A4 31 (mc m c k)
 w4:MsI 1000000 u m c k
 bw:Below w.heap.size w u
 sh:ShapesAt u
 mx:MaxAt u
structure Q5 (A:Nat) (z:M.W19) (b:Option Addr) (n:Nat) (u:World):Prop where
 c:Cl u A 33 (wc z b n)
 v:Wv u z b n
section
variable {w u u':World} {A3 A4 A:Nat} {x z:M.W19} {b:Option Addr} {n:Nat} {m:M.G16} {c:Option Addr} {k:Nat}
theorem Q3.below (h:Q3 w A3 A4 x b n m c k u) (hb:Below u.heap.size u u'):Q3 w A3 A4 x b n m c k u':=⟨h.c3.below hb h.c3.lt,h.w3.below hb,h.c4.below hb h.c4.lt,h.w4.below hb,h.bw.trans (hb.mono h.bw.size),shapes_below h.sh hb,max_below h.mx hb⟩
theorem Q5.below (h:Q5 A z b n u) (hb:Below u.heap.size u u'):Q5 A z b n u':=⟨h.c.below hb h.c.lt,h.v.below hb⟩
end
theorem row_below {w u u':World} {B:Nat} {e:TypeId} {size:Nat} {v:Value} {k:Nat} {C:List Value} (h:u.ownsRow B e size v k C) (hb:Below u.heap.size u u'):u'.ownsRow B e size v k C:=ownsRow_keep h fun g hg=>hb.block g (h.lt g hg).2
theorem tick_mcs {x:M.W19} {t:TN} {y:M.W19} {k:Nat} {C:List Value} (h:TickR x t y k C):∃ xs:List M.G16,xs.length=k/\C=mcs xs/\(∀ x∈xs,x.ls=[])/\k<=2:=by
 rcases h with ⟨_,_,rfl,rfl⟩ | ⟨_,_,_,rfl,rfl⟩ | ⟨_,_,_,_,rfl,rfl⟩ | ⟨_,_,_,_,rfl,rfl⟩
 · exact ⟨[],rfl,rfl,(fun x h=>nomatch h),dc_⟩
 · exact ⟨[],rfl,rfl,(fun x h=>nomatch h),dc_⟩
 · exact ⟨[{ M.g16z with kd:=3,fr:=x.no }],rfl,rfl,fun x h=>by rw [List.mem_singleton.1 h];rfl,dc_⟩
 refine ⟨[{ M.g16z with kd:=3,fr:=x.no },{ M.g16z with kd:=2,fr:=x.no,ep:=x.of.ep,ed:=x.of.ed,km:=⟨x.of.km.nm,⟨#[]⟩,⟨#[]⟩⟩,ct:=x.of.ls.length,tn:=⟨t.over,t.code,t.text,t.has,t.name,t.steps⟩ }],rfl,rfl,fun x h=>?_,dc_⟩;simp only [List.mem_cons,List.not_mem_nil,or_false] at h;rcases h with rfl | rfl <;> rfl
theorem take_ok {x z:M.W19} {m:M.G16} (h:M.TkR x m z) (hx:M.WkOk x):M.WkOk z:=by
 rcases h with ⟨h,_⟩ | ⟨_,h,rfl⟩ | ⟨_,_,rfl⟩
 · exact absurd hx h
 · exact ⟨hx.1,.inl ⟨rfl,h.1,h.2⟩⟩
 exact hx
theorem bad_zero:¬ M.WkOk M.w19z:=fun h=>by have:=h.1.1;exact absurd this dc_
theorem tick_ok {z y:M.W19} {t:TN} {k:Nat} {C:List Value} (h:TickR z t y k C) (hz:M.WkOk z):M.WkOk y/\y.has=false/\(k≠2->z.has=false):=by
 have hu:z.up=false->z.has=false:=fun e=>by
  rcases hz.2 with ⟨_,h2,_⟩ | ⟨h1,_⟩
  · rw [e] at h2;cases h2
  exact h1
 rcases h with ⟨h,_⟩ | ⟨_,h1,rfl,_⟩ | ⟨_,_,h1,rfl,_⟩ | ⟨_,_,_,rfl,rfl,_⟩
 · exact absurd hz h
 · exact ⟨hz,hu h1,fun _=>hu h1⟩
 · exact ⟨hz,h1,fun _=>h1⟩
 exact ⟨⟨hz.1,.inr ⟨rfl,rfl,rfl,rfl,rfl,rfl,rfl,rfl,rfl,rfl,rfl,rfl,rfl,rfl,rfl,rfl,rfl⟩⟩,rfl,fun h=>absurd rfl h⟩
theorem tick_bad {x z y:M.W19} {m:M.G16} {t:TN} {k:Nat} {C:List Value} (h:M.TkR x m z) (hx:¬ M.WkOk x) (hT:TickR z t y k C):k=0:=by
 rcases h with ⟨_,rfl⟩ | ⟨h,_⟩ | ⟨h,_⟩
 · rcases hT with ⟨_,_,h,_⟩ | ⟨h,_⟩ | ⟨h,_⟩ | ⟨h,_⟩
   · exact h
   all_goals exact absurd h bad_zero
 · exact absurd h hx
 exact absurd h hx
end Go.Proofs.YthjhakdpikdoeaaGreatDoor
namespace Go.Proofs.YthjhakdpikdoeaaGreatDoor
open Proofs.Tryz
open Go.RowKit
theorem wp_ldkW {ops:Array Oper} {rest:List Oper} {o:Oper} {a:Act} {u:World} {Q:Exit->Act->World->Prop} (hw:Region.wanted o (yielded ops a.tmps)=true) (x:Operand) (ho:o.op=.load 33 x) {B:Nat} (hx:a.eval x=.pointer (some ⟨B,0,none⟩)) {t:TypeId} {vs:List Value} (hB:Cl u B t vs) (hl:vs.length=19)
 (h:wpList prog ops Q rest (a.put o.dst (.agg vs.toArray)) u):wpList prog ops Q (o::rest) a u:=by
 refine wpList_step fun K hK=>?_;rw [if_pos hw];unfold Oper.wp;rw [ex_ldN 33 x ho hx (fun i v e=>by rw [Nat.zero_add];exact (hB.cell i).trans e) underlying33 rfl (by rw [hl];kernel_rfl)];exact hK _ _ h
theorem c3 (a:Option Addr) (L cap:Nat) (w:World) (hcap:L<=cap) (h:BytesAt w a L) (hsh:ShapesAt w) (hmx:MaxAt w):
 Calls prog 3 #[.slice a L cap] w fun e w'=>e=.returned (.bool true)/\Below w.heap.size w w':=by
 have HBY:=hdI h;have HSH:=hdI hsh;have HMX:=hdI hmx;clear h hsh hmx;by_cases hL:L<=1048576;rotate_left
 · have hL':(1048576:Int)<(L:Int):=om_
   go_enter func3,ntmps3;go_wp2;go_ret;exact ⟨rfl,Below.refl _ _⟩
 have hL':¬ (1048576:Int)<(L:Int):=om_;go_enter func3,ntmps3
 go_wp2_with fail
 refine (c4 a L cap w hL hcap HBY.out).mono ?_;rintro e w1 ⟨⟨no,up,has,x,b,n,m,c,k,rfl,hx,hm⟩,hb1⟩;have HX:=hdI hx;have HM:=hdI hm;have HB1:=hdI hb1;clear hx hm hb1 HBY;generalize hA:wk no up has (mc x b n)=VA;generalize hB:mc m c k=VB;have LA:Hid (VA.length=19):=by show _=_;rw [<- hA];rfl
 have LB:Hid (VB.length=16):=by show _=_;rw [<- hB];rfl
 have A1:Hid (∀ v∈VA,v.oneCell'=true):=by show ∀ v∈VA,_;rw [<- hA];exact wk_one (mc_one _ _ _)
 have B1:Hid (∀ v∈VB,v.oneCell'=true):=by show ∀ v∈VB,_;rw [<- hB];exact mc_one _ _ _
 have HA:=hdI hA;have HB:=hdI hB;clear hA hB;have hb2:Below w1.heap.size w1 ((w1.alloc (.cells #[.int .i64 0,.bool false,.bool false,.int .i64 0,.int .i64 0,.int .i64 0,.int .i64 0,.int .i64 0,.string ⟨#[]⟩,.string ⟨#[]⟩,.string ⟨#[]⟩,.slice none 0 0,.int .i64 0,.bool false,.int .i64 0,.string ⟨#[]⟩,.bool false,.string ⟨#[]⟩,.int .i64 0] 33)).alloc (.cells #[.int .i64 0,.int .i64 0,.int .i64 0,.int .i64 0,.int .i64 0,.string ⟨#[]⟩,.string ⟨#[]⟩,.string ⟨#[]⟩,.slice none 0 0,.int .i64 0,.bool false,.int .i64 0,.string ⟨#[]⟩,.bool false,.string ⟨#[]⟩,.int .i64 0] 31)):=by2 _ _ _;have CZ:Hid (Cl ((w1.alloc (.cells #[.int .i64 0,.bool false,.bool false,.int .i64 0,.int .i64 0,.int .i64 0,.int .i64 0,.int .i64 0,.string ⟨#[]⟩,.string ⟨#[]⟩,.string ⟨#[]⟩,.slice none 0 0,.int .i64 0,.bool false,.int .i64 0,.string ⟨#[]⟩,.bool false,.string ⟨#[]⟩,.int .i64 0] 33)).alloc (.cells #[.int .i64 0,.int .i64 0,.int .i64 0,.int .i64 0,.int .i64 0,.string ⟨#[]⟩,.string ⟨#[]⟩,.string ⟨#[]⟩,.slice none 0 0,.int .i64 0,.bool false,.int .i64 0,.string ⟨#[]⟩,.bool false,.string ⟨#[]⟩,.int .i64 0] 31)) w1.heap.size 33 z19):=cl_old (cl_new w1 z19 33) _;have CE:Cl ((w1.alloc (.cells #[.int .i64 0,.bool false,.bool false,.int .i64 0,.int .i64 0,.int .i64 0,.int .i64 0,.int .i64 0,.string ⟨#[]⟩,.string ⟨#[]⟩,.string ⟨#[]⟩,.slice none 0 0,.int .i64 0,.bool false,.int .i64 0,.string ⟨#[]⟩,.bool false,.string ⟨#[]⟩,.int .i64 0] 33)).alloc (.cells #[.int .i64 0,.int .i64 0,.int .i64 0,.int .i64 0,.int .i64 0,.string ⟨#[]⟩,.string ⟨#[]⟩,.string ⟨#[]⟩,.slice none 0 0,.int .i64 0,.bool false,.int .i64 0,.string ⟨#[]⟩,.bool false,.string ⟨#[]⟩,.int .i64 0] 31)) (w1.heap.size+1) 31 (mc M.g16z none 0):=cl_at (xs:=mc M.g16z none 0) sm_;have HCE:=hdI CE;clear CE
 go_wp2_with (first | (refine wp_stk rfl (.tmp 3) (.tmp 16) rfl (B:=w1.heap.size) rfl (t:=33) (vs:=VA) (xs:=z19) rfl (by with_reducible exact CZ.out) LA.out rfl A1.out rfl ?_;intro u1 D1 o1;have HD1:=hdI D1;have HE1:Hid (Cl u1 (w1.heap.size+1) 31 ([]++mc M.g16z none 0)):=HCE.out.on o1 om_;have hbu1:=hdI (hb2.trans (o1.below lr_));clear D1 o1) | (refine wp_stm rfl (.tmp 4) (.tmp 17) rfl (B:=w1.heap.size+1) (j:=0) rfl (t:=31) (pre:=[]) (vs:=VB) (xs:=mc M.g16z none 0) rfl (by with_reducible exact HE1.out) LB.out rfl rfl B1.out rfl ?_;intro u2 D2 o2;refine Hid.out ?_))
 unfold Hid;have hbu2:Below w1.heap.size w1 u2:=hbu1.out.trans (o2.below om_);have HQ:Hid (Q3 w w1.heap.size (w1.heap.size+1) ⟨no,up,has,x⟩ b n m c k u2):=⟨by have:=HD1.out.on o2 om_;rw [<- HA.out] at this;exact this,⟨le_mono HX.out.le om_,(HX.out.below hbu2).at',HX.out.ns⟩,by rw [<- HB.out] at D2;exact D2,HM.out.below hbu2,bT HB1.out hbu2,shapes_below HSH.out (bT HB1.out hbu2),max_below HMX.out (bT HB1.out hbu2)⟩;clear LA LB A1 B1 HA HB hb2 CZ HCE HD1 HE1 hbu1 hbu2 D2 o2 HX HM HB1 HSH HMX;generalize (⟨no,up,has,x⟩:M.W19)=x at HQ;generalize w1.heap.size=A3 at*;have CX1:=HQ.out.c3;generalize hVA:wc x b n=VA at CX1;have CX1:=hdI CX1;have LVA:Hid (VA.length=19):=by show _=_;rw [<- hVA];rfl
 have HVA:=hdI hVA;clear hVA;have CX2:=HQ.out.c4;generalize hVB:mc m c k=VB at CX2;have CX2:Hid (Cl u2 (A3+1) 31 ([]++VB)):=CX2;have LVB:Hid (VB.length=16):=by show _=_;rw [<- hVB];rfl
 have HVB:=hdI hVB;clear hVB
 go_wp2_with (first | refine wp_ldk rfl (.tmp 3) rfl (B:=A3) rfl (t:=33) (vs:=VA) (by with_reducible exact CX1.out) LVA.out ?_ | refine wp_ldm rfl (.tmp 4) rfl (B:=A3+1) (j:=0) rfl (pre:=[]) (t:=31) (vs:=VB) (by with_reducible exact CX2.out) LVB.out rfl ?_)
 rw [<- HVA.out,<- HVB.out];clear CX1 CX2 LVA LVB HVA HVB;refine (c5w x m b n c k u2 HQ.out.w3 HQ.out.w4).mono ?_;rintro e u3 ⟨⟨z,b1,n1,hTk,rfl,hz⟩,hb⟩;have HTK:=hdI hTk;have HQ3:=hdI (HQ.out.below hb);have HZ:=hdI hz;clear HQ hb hTk hz;have hbA:Below u3.heap.size u3 (u3.alloc (.cells #[.int .i64 0,.bool false,.bool false,.int .i64 0,.int .i64 0,.int .i64 0,.int .i64 0,.int .i64 0,.string ⟨#[]⟩,.string ⟨#[]⟩,.string ⟨#[]⟩,.slice none 0 0,.int .i64 0,.bool false,.int .i64 0,.string ⟨#[]⟩,.bool false,.string ⟨#[]⟩,.int .i64 0] 33)):=bA;have CZ:Hid (Cl (u3.alloc (.cells #[.int .i64 0,.bool false,.bool false,.int .i64 0,.int .i64 0,.int .i64 0,.int .i64 0,.int .i64 0,.string ⟨#[]⟩,.string ⟨#[]⟩,.string ⟨#[]⟩,.slice none 0 0,.int .i64 0,.bool false,.int .i64 0,.string ⟨#[]⟩,.bool false,.string ⟨#[]⟩,.int .i64 0] 33)) u3.heap.size 33 z19):=cl_new u3 z19 33;generalize hVN:wc z b1 n1=VN;have LVN:Hid (VN.length=19):=by show _=_;rw [<- hVN];rfl
 have OVN:Hid (∀ v∈VN,v.oneCell'=true):=by show ∀ v∈VN,_;rw [<- hVN];exact wc_one _ _ _
 have HVN:=hdI hVN;clear hVN
 go_wp2_with (refine wp_stk rfl (.tmp 5) (.tmp 20) rfl (B:=u3.heap.size) rfl (t:=33) (vs:=VN) (xs:=z19) rfl (by with_reducible exact CZ.out) LVN.out rfl OVN.out rfl ?_;intro u4 DN oN;refine Hid.out ?_)
 unfold Hid;rw [<- HVN.out] at DN;have hbN:Below u3.heap.size u3 u4:=hbA.trans (oN.below lr_);clear hbA CZ LVN OVN HVN oN;have HQ:=hdI (HQ3.out.below hbN);have H5:Hid (Q5 u3.heap.size z b1 n1 u4):=⟨DN,HZ.out.below hbN⟩;clear HQ3 HZ DN hbN;generalize u3.heap.size=A5 at*;have CX1:=H5.out.c;generalize hVA:wc z b1 n1=VA at CX1;have CX1:=hdI CX1;have LVA:Hid (VA.length=19):=by show _=_;rw [<- hVA];rfl
 have HVA:=hdI hVA;clear hVA
 go_wp2_with (refine wp_ldk rfl (.tmp 5) rfl (B:=A5) rfl (t:=33) (vs:=VA) (by with_reducible exact CX1.out) LVA.out ?_)
 rw [<- HVA.out];clear CX1 LVA HVA;refine (c6w z b1 n1 u4 H5.out.v HQ.out.sh HQ.out.mx).mono ?_;rintro e u5 ⟨⟨y,kk,C,b2,n2,v,hT,rfl,hy,hrow⟩,hb⟩;have HT:=hdI hT;have HQ5:=hdI (HQ.out.below hb);have H55:=hdI (H5.out.below hb);have HY:=hdI hy;have HR:=hdI hrow;obtain ⟨av,cv,rfl⟩:=row_sl hrow;clear HQ H5 hb hT hy hrow;have hbA:Below u5.heap.size u5 (u5.alloc (.cells #[.int .i64 0,.bool false,.bool false,.int .i64 0,.int .i64 0,.int .i64 0,.int .i64 0,.int .i64 0,.string ⟨#[]⟩,.string ⟨#[]⟩,.string ⟨#[]⟩,.slice none 0 0,.int .i64 0,.bool false,.int .i64 0,.string ⟨#[]⟩,.bool false,.string ⟨#[]⟩,.int .i64 0] 33)):=bA;have CZ:Hid (Cl (u5.alloc (.cells #[.int .i64 0,.bool false,.bool false,.int .i64 0,.int .i64 0,.int .i64 0,.int .i64 0,.int .i64 0,.string ⟨#[]⟩,.string ⟨#[]⟩,.string ⟨#[]⟩,.slice none 0 0,.int .i64 0,.bool false,.int .i64 0,.string ⟨#[]⟩,.bool false,.string ⟨#[]⟩,.int .i64 0] 33)) u5.heap.size 33 z19):=cl_new u5 z19 33;generalize hVN:wc y b2 n2=VN;have LVN:Hid (VN.length=19):=by show _=_;rw [<- hVN];rfl
 have OVN:Hid (∀ v∈VN,v.oneCell'=true):=by show ∀ v∈VN,_;rw [<- hVN];exact wc_one _ _ _
 have HVN:=hdI hVN;clear hVN;have hmark:True:=trivial
 go_wp2_with (refine wp_stk rfl (.tmp 6) (.tmp 24) rfl (B:=u5.heap.size) rfl (t:=33) (vs:=VN) (xs:=z19) rfl (by with_reducible exact CZ.out) LVN.out rfl OVN.out rfl ?_;intro u6 DN oN;revert hmark)
 intro _;rw [<- HVN.out] at DN;have hbN:Below u5.heap.size u5 u6:=hbA.trans (oN.below lr_);clear hbA CZ LVN OVN HVN oN;have HQ:=hdI (HQ5.out.below hbN);have H5:=hdI (H55.out.below hbN);have H6:Hid (Q5 u5.heap.size y b2 n2 u6):=⟨DN,HY.out.below hbN⟩;have HR:=hdI (row_below (w:=w) HR.out hbN);clear HQ5 H55 HY DN hbN;generalize u5.heap.size=A6 at*;have CX1:=HQ.out.c3;generalize hVA:wc x b n=VA at CX1;have CX1:=hdI CX1;have LVA:Hid (VA.length=19):=by show _=_;rw [<- hVA];rfl
 have HVA:=hdI hVA;clear hVA;have CX2:=HQ.out.c4;generalize hVB:mc m c k=VB at CX2;have CX2:Hid (Cl u6 (A3+1) 31 ([]++VB)):=CX2;have LVB:Hid (VB.length=16):=by show _=_;rw [<- hVB];rfl
 have HVB:=hdI hVB;clear hVB
 go_wp2_with (first | refine wp_ldk rfl (.tmp 3) rfl (B:=A3) rfl (t:=33) (vs:=VA) (by with_reducible exact CX1.out) LVA.out ?_ | refine wp_ldm rfl (.tmp 4) rfl (B:=A3+1) (j:=0) rfl (pre:=[]) (t:=31) (vs:=VB) (by with_reducible exact CX2.out) LVB.out rfl ?_)
 rw [<- HVA.out,<- HVB.out];clear CX1 CX2 LVA LVB HVA HVB;refine (c8w x m b n c k u6 HQ.out.w3 HQ.out.w4 HTK.out).mono ?_;rintro e u7 ⟨⟨b3,n3,rfl,hz⟩,hb⟩;have HQ7:=hdI (HQ.out.below hb);have H57:=hdI (H5.out.below hb);have H67:=hdI (H6.out.below hb);have HR7:=hdI (row_below (w:=w) HR.out hb);have HZ:=hdI hz;clear HQ H5 H6 HR hb hz
 go_wp2_with fail
 refine (c7w z b3 n3 u7 HZ.out HT.out).mono ?_;rintro e u8 ⟨⟨b4,n4,v',rfl,hy,hrow⟩,hb⟩;have HQ8:=hdI (HQ7.out.below hb);have H58:=hdI (H57.out.below hb);have H68:=hdI (H67.out.below hb);have HR8:=hdI (row_below (w:=w) HR7.out hb);have HY:=hdI hy;have HS:=hdI hrow;obtain ⟨aw,cw,rfl⟩:=row_sl hrow;clear HQ7 H57 H67 HR7 HZ hb hy hrow;have hbA:Below u8.heap.size u8 (u8.alloc (.cells #[.int .i64 0,.bool false,.bool false,.int .i64 0,.int .i64 0,.int .i64 0,.int .i64 0,.int .i64 0,.string ⟨#[]⟩,.string ⟨#[]⟩,.string ⟨#[]⟩,.slice none 0 0,.int .i64 0,.bool false,.int .i64 0,.string ⟨#[]⟩,.bool false,.string ⟨#[]⟩,.int .i64 0] 33)):=bA;have CZ:Hid (Cl (u8.alloc (.cells #[.int .i64 0,.bool false,.bool false,.int .i64 0,.int .i64 0,.int .i64 0,.int .i64 0,.int .i64 0,.string ⟨#[]⟩,.string ⟨#[]⟩,.string ⟨#[]⟩,.slice none 0 0,.int .i64 0,.bool false,.int .i64 0,.string ⟨#[]⟩,.bool false,.string ⟨#[]⟩,.int .i64 0] 33)) u8.heap.size 33 z19):=cl_new u8 z19 33;generalize hVN:wc y b4 n4=VN;have LVN:Hid (VN.length=19):=by show _=_;rw [<- hVN];rfl
 have OVN:Hid (∀ v∈VN,v.oneCell'=true):=by show ∀ v∈VN,_;rw [<- hVN];exact wc_one _ _ _
 have HVN:=hdI hVN;clear hVN;have hmark:True:=trivial
 go_wp2_with (refine wp_stk rfl (.tmp 8) (.tmp 31) rfl (B:=u8.heap.size) rfl (t:=33) (vs:=VN) (xs:=z19) rfl (by with_reducible exact CZ.out) LVN.out rfl OVN.out rfl ?_;intro u9 DN oN;revert hmark)
 intro _;rw [<- HVN.out] at DN;have hbN:Below u8.heap.size u8 u9:=hbA.trans (oN.below lr_);clear hbA CZ LVN OVN HVN oN;have HQ:=hdI (HQ8.out.below hbN);have H5:=hdI (H58.out.below hbN);have H6:=hdI (H68.out.below hbN);have H8:Hid (Q5 u8.heap.size y b4 n4 u9):=⟨DN,HY.out.below hbN⟩;have HR:=hdI (row_below (w:=w) HR8.out hbN);have HS:=hdI (row_below (w:=w) HS.out hbN);clear HQ8 H58 H68 HR8 HY DN hbN;generalize u8.heap.size=A8 at*
 go_upto_region 7 with fail
 have HSS:Hid (∀ u,Q3 w A3 (A3+1) x b n m c k u->Q5 A5 z b1 n1 u->Q5 A6 y b2 n2 u->Q5 A8 y b4 n4 u->Cl u A5 33 (wc z b1 n1)/\Cl u A3 33 (wc x b n)/\Cl u (A3+1) 31 (mc m c k)/\Cl u A6 33 (wc y b2 n2)/\Cl u A8 33 (wc y b4 n4)):=fun u h1 h2 h3 h4=>⟨h2.c,h1.c3,h1.c4,h3.c,h4.c⟩;have hb:Below u9.heap.size u9 u9.drew:=(Below.refl _ _).drew;have HQ:=hdI (HQ.out.below hb);have H5:=hdI (H5.out.below hb);have H6:=hdI (H6.out.below hb);have H8:=hdI (H8.out.below hb);have HR:=hdI (row_below (w:=w) HR.out hb);have HS:=hdI (row_below (w:=w) HS.out hb);refine wp_region_held_drew (S:=fun u=>Cl u A5 33 (wc z b1 n1)/\Cl u A3 33 (wc x b n)/\Cl u (A3+1) 31 (mc m c k)/\Cl u A6 33 (wc y b2 n2)/\Cl u A8 33 (wc y b4 n4)) kr_ (HSS.out _ HQ.out H5.out H6.out H8.out) fun hH=>?_;clear hb;generalize u9.drew=ua at HQ H5 H6 H8 HR HS hH ⊢;refine tq 0 hH ?_ (v:=.agg (wc z b1 n1).toArray) (hv:=fun u hu=>ex_ldN 33 (.tmp 5) rfl rfl (fun i v e=>by rw [Nat.zero_add];exact (hu.1.cell i).trans e) underlying33 rfl kr_)
 try simp only [qq]
 refine tq 1 hH ?_ (v:=.agg (wc x b n).toArray) (hv:=fun u hu=>ex_ldN 33 (.tmp 3) rfl rfl (fun i v e=>by rw [Nat.zero_add];exact (hu.2.1.cell i).trans e) underlying33 rfl kr_)
 try simp only [qq]
 refine tq 2 hH ?_ (v:=.agg (mc m c k).toArray) (hv:=fun u hu=>ex_ldN 31 (.tmp 4) rfl rfl (fun i v e=>by rw [Nat.zero_add];exact (hu.2.2.1.cell i).trans e) underlying31 rfl kr_)
 try simp only [qq]
 refine rq 3 fun K hK=>?_;go_simp;refine (c8w x m b n c k ua HQ.out.w3 HQ.out.w4 HTK.out).mono ?_;rintro e ub ⟨⟨b5,n5,rfl,hz⟩,hb⟩;have HZ:=hdI hz;clear hz;have HQ:=hdI (HQ.out.below hb);have H5:=hdI (H5.out.below hb);have H6:=hdI (H6.out.below hb);have H8:=hdI (H8.out.below hb);have HR:=hdI (row_below (w:=w) HR.out hb);have HS:=hdI (row_below (w:=w) HS.out hb);clear hb hH;go_simp;refine hK.out _ _ (HSS.out _ HQ.out H5.out H6.out H8.out) fun hH=>?_;clear hK K
 try simp only [qq]
 refine rq 4 fun K hK=>?_;go_simp;refine (c9w z b1 n1 b5 n5 ub H5.out.v HZ.out).mono ?_;rintro e uc ⟨rfl,hb⟩;have HQ:=hdI (HQ.out.below hb);have H5:=hdI (H5.out.below hb);have H6:=hdI (H6.out.below hb);have H8:=hdI (H8.out.below hb);have HR:=hdI (row_below (w:=w) HR.out hb);have HS:=hdI (row_below (w:=w) HS.out hb);clear hb hH;go_simp;refine hK.out _ _ (HSS.out _ HQ.out H5.out H6.out H8.out) fun hH=>?_;clear hK K
 try simp only [qq]
 refine tq 5 hH ?_ (v:=.bool false) (hv:=by intro wq _;go_simp)
 try simp only [qq]
 refine tq 6 hH ?_ (v:=.bool false) (hv:=by intro wq _;go_simp)
 try simp only [qq]
 refine tq 7 hH ?_ (v:=.agg (wc y b2 n2).toArray) (hv:=fun u hu=>ex_ldN 33 (.tmp 6) rfl rfl (fun i v e=>by rw [Nat.zero_add];exact (hu.2.2.2.1.cell i).trans e) underlying33 rfl kr_)
 try simp only [qq]
 refine tq 8 hH ?_ (v:=.agg (wc y b4 n4).toArray) (hv:=fun u hu=>ex_ldN 33 (.tmp 8) rfl rfl (fun i v e=>by rw [Nat.zero_add];exact (hu.2.2.2.2.cell i).trans e) underlying33 rfl kr_)
 try simp only [qq]
 refine rq 9 fun K hK=>?_;go_simp;refine (c9w y b2 n2 b4 n4 uc H6.out.v H8.out.v).mono ?_;rintro e ue ⟨rfl,hb⟩;have HQ:=hdI (HQ.out.below hb);have H5:=hdI (H5.out.below hb);have H6:=hdI (H6.out.below hb);have H8:=hdI (H8.out.below hb);have HR:=hdI (row_below (w:=w) HR.out hb);have HS:=hdI (row_below (w:=w) HS.out hb);clear hb hH;go_simp;refine hK.out _ _ (HSS.out _ HQ.out H5.out H6.out H8.out) fun hH=>?_;clear hK K
 try simp only [qq]
 refine tq 10 hH ?_ (v:=.bool false) (hv:=by intro wq _;go_simp)
 try simp only [qq]
 refine tq 11 hH ?_ (v:=.bool false) (hv:=by intro wq _;go_simp)
 try simp only [qq]
 refine tq 12 hH ?_ (v:=.bool false) (hv:=by intro wq _;go_simp)
 try simp only [qq]
 refine tq 13 hH ?_ (hv:=by intro wq _;go_simp;with_reducible rfl)
 try simp only [qq]
 refine tq 14 hH ?_ (hv:=by intro wq _;go_simp;with_reducible rfl)
 try simp only [qq]
 obtain ⟨xs,hxl,rfl,hxs,hk2⟩:=tick_mcs HT.out;subst hxl;refine rq 15 fun K hK=>?_;go_simp;refine (c10 xs hxs hk2 _ _ _ _ ue HR.out HS.out).mono ?_;rintro e uf ⟨rfl,hb⟩;have HQ:=hdI (HQ.out.below hb);have H5:=hdI (H5.out.below hb);have H6:=hdI (H6.out.below hb);have H8:=hdI (H8.out.below hb);have HR:=hdI (row_below (w:=w) HR.out hb);have HS:=hdI (row_below (w:=w) HS.out hb);clear hb hH;go_simp;refine hK.out _ _ (HSS.out _ HQ.out H5.out H6.out H8.out) fun hH=>?_;clear hK K
 try simp only [qq]
 refine tq 16 hH ?_ (v:=.bool false) (hv:=by intro wq _;go_simp)
 try simp only [qq]
 refine tq 17 hH ?_ (v:=.bool false) (hv:=by intro wq _;go_simp)
 try simp only [qq]
 refine wpAnyH_done kr_ ?_ _;clear hH HSS HS H8 HZ
 go_upto_region 9 with fail
 have CX1:=HQ.out.c3;generalize hVA:wc x b n=VA at CX1;have CX1:=hdI CX1;have LVA:Hid (VA.length=19):=by show _=_;rw [<- hVA];rfl
 have HVA:=hdI hVA;clear hVA
 go_wp2_with (refine wp_ldk rfl (.tmp 3) rfl (B:=A3) rfl (t:=33) (vs:=VA) (by with_reducible exact CX1.out) LVA.out ?_)
 rw [<- HVA.out];clear CX1 LVA HVA;refine (c11w x b n uf HQ.out.w3).mono ?_;rintro e ug ⟨⟨rr,rfl,hrr⟩,hb⟩;have HQ:=hdI (HQ.out.below hb);have H5:=hdI (H5.out.below hb);have H6:=hdI (H6.out.below hb);have HR:=hdI (row_below (w:=w) HR.out hb);clear hb;cases rr
 · have hno:¬M.WkOk x:=fun h=>by have:=hrr.2 h;cases this
   obtain rfl:=List.length_eq_zero_iff.1 (tick_bad HTK.out hno HT.out);go_wp2;go_ret;exact ⟨rfl,HQ.out.bw⟩
 have hz:=take_ok HTK.out (hrr.1 rfl);obtain ⟨hyo,hyh,hzh⟩:=tick_ok HT.out hz;clear hrr;have CX1:=H5.out.c;generalize hVA:wc z b1 n1=VA at CX1;have CX1:=hdI CX1;have LVA:Hid (VA.length=19):=by show _=_;rw [<- hVA];rfl
 have HVA:=hdI hVA;clear hVA
 go_wp2_with (refine wp_ldk rfl (.tmp 5) rfl (B:=A5) rfl (t:=33) (vs:=VA) (by with_reducible exact CX1.out) LVA.out ?_)
 rw [<- HVA.out];clear CX1 LVA HVA;refine (c12w z b1 n1 ug H5.out.v).mono ?_;rintro e uh ⟨⟨rr,rfl,hrr⟩,hb⟩;obtain rfl:=hrr.2 hz;have HQ:=hdI (HQ.out.below hb);have H5:=hdI (H5.out.below hb);have H6:=hdI (H6.out.below hb);have HR:=hdI (row_below (w:=w) HR.out hb);clear hb;clear hrr;have CX1:=H6.out.c;generalize hVA:wc y b2 n2=VA at CX1;have CX1:=hdI CX1;have LVA:Hid (VA.length=19):=by show _=_;rw [<- hVA];rfl
 have HVA:=hdI hVA;clear hVA
 go_wp2_with (refine wp_ldkW rfl (.tmp 6) rfl (B:=A6) rfl (t:=33) (vs:=VA) (by with_reducible exact CX1.out) LVA.out ?_)
 rw [<- HVA.out];clear CX1 LVA HVA;refine (c12w y b2 n2 uh H6.out.v).mono ?_;rintro e ui ⟨⟨rr,rfl,hrr⟩,hb⟩;obtain rfl:=hrr.2 hyo;have HQ:=hdI (HQ.out.below hb);have H5:=hdI (H5.out.below hb);have H6:=hdI (H6.out.below hb);have HR:=hdI (row_below (w:=w) HR.out hb);clear hb;clear hrr;have q2:ui.cell? ⟨A6,2,none⟩=some (.bool false):=by rw [<- hyh];exact H6.out.c.cell 2
 have hkI:¬(2:Int)<(xs.length:Int):=om_;by_cases hx2:xs.length=2;rotate_left
 · have q5:ui.cell? ⟨A5,2,none⟩=some (.bool false):=by rw [<- hzh hx2];exact H5.out.c.cell 2
   have hxb:((xs.length:Int)==2)=false:=by simp only [beq_eq_false_iff_ne];omega
   go_wp2;go_ret;exact ⟨rfl,HQ.out.bw⟩
 rcases hT:goT z.of.km z.of.ls with ⟨to,tc,tt,th,tn,ts⟩;have HC:∃ l:List Value,mcs xs=l/\l.length=32/\(l[25]?=some (.int .i64 z.of.ls.length)/\l[26]?=some (.bool to)/\l[27]?=some (.int .i64 tc)/\l[28]?=some (.string tt)/\l[29]?=some (.bool th)/\l[30]?=some (.string tn)/\l[31]?=some (.int .i64 ts)):=by
  have HT2:=HT.out;rw [hT] at HT2;rcases HT2 with ⟨_,_,h,_⟩ | ⟨_,_,_,h,_⟩ | ⟨_,_,_,_,h,_⟩ | ⟨_,_,_,_,_,hC⟩
  · omega
  · omega
  · omega
  exact ⟨_,hC,rfl,rfl,rfl,rfl,rfl,rfl,rfl,rfl⟩
 obtain ⟨l,hC,_,l25,l26,l27,l28,l29,l30,l31⟩:=HC;have HR2:=HR.out;rw [hx2,hC] at HR2;rw [hx2];rw [hx2] at hkI;obtain ⟨g,rfl⟩:=row_pos HR2 dc_;have HSS:Hid (∀ u,Below ui.heap.size ui u->u.cell? ⟨g,25,none⟩=some (.int .i64 z.of.ls.length)/\u.cell? ⟨g,26,none⟩=some (.bool to)/\u.cell? ⟨g,27,none⟩=some (.int .i64 tc)/\u.cell? ⟨g,28,none⟩=some (.string tt)/\u.cell? ⟨g,29,none⟩=some (.bool th)/\u.cell? ⟨g,30,none⟩=some (.string tn)/\u.cell? ⟨g,31,none⟩=some (.int .i64 ts)/\u.cell? ⟨A5,8,none⟩=some (.string z.of.km.nm)/\u.cell? ⟨A5,9,none⟩=some (.string z.of.km.tl)/\u.cell? ⟨A5,10,none⟩=some (.string z.of.km.ar)/\u.cell? ⟨A5,11,none⟩=some (.slice b1 z.of.ls.length n1)):=fun u hb=>by
  have h:=H5.out.below hb;have HR3:=row_below (w:=w) HR2 hb;exact ⟨(HR3.cellAt 25 dc_).trans l25,(HR3.cellAt 26 dc_).trans l26,(HR3.cellAt 27 dc_).trans l27,(HR3.cellAt 28 dc_).trans l28,(HR3.cellAt 29 dc_).trans l29,(HR3.cellAt 30 dc_).trans l30,(HR3.cellAt 31 dc_).trans l31,h.c.cell 8,h.c.cell 9,h.c.cell 10,h.c.cell 11⟩
 have H5L:=H5.out.v;have HL5:=hdI (M.lks_below H5L.at' (Below.refl _ _));have HTT:=hdI hT;have hlI:(z.of.ls.length:Int)<=1048576:=by have:=H5L.le.2.1.1;omega
 clear HR HR2 l25 l26 l27 l28 l29 l30 l31 hC HT hx2 hT HL5 H5L
 go_upto_region 14 with fail
 refine wp_region_held_drew (S:=fun u=>u.cell? ⟨g,25,none⟩=some (.int .i64 z.of.ls.length)/\u.cell? ⟨g,26,none⟩=some (.bool to)/\u.cell? ⟨g,27,none⟩=some (.int .i64 tc)/\u.cell? ⟨g,28,none⟩=some (.string tt)/\u.cell? ⟨g,29,none⟩=some (.bool th)/\u.cell? ⟨g,30,none⟩=some (.string tn)/\u.cell? ⟨g,31,none⟩=some (.int .i64 ts)/\u.cell? ⟨A5,8,none⟩=some (.string z.of.km.nm)/\u.cell? ⟨A5,9,none⟩=some (.string z.of.km.tl)/\u.cell? ⟨A5,10,none⟩=some (.string z.of.km.ar)/\u.cell? ⟨A5,11,none⟩=some (.slice b1 z.of.ls.length n1)) kr_ (HSS.out _ (Below.refl _ _).drew) fun hH=>?_;refine tq 0 hH ?_
 try simp only [qq]
 refine tq 1 hH ?_
 try simp only [qq]
 refine tq 2 hH ?_
 try simp only [qq]
 refine tq 3 hH ?_
 try simp only [qq]
 refine tq 4 hH ?_
 try simp only [qq]
 refine tq 5 hH ?_
 try simp only [qq]
 refine tq 6 hH ?_
 try simp only [qq]
 refine tq 7 hH ?_
 try simp only [qq]
 refine tq 8 hH ?_
 try simp only [qq]
 refine tq 9 hH ?_
 try simp only [qq]
 have hbd:Below ui.heap.size ui ui.drew:=(Below.refl _ _).drew;refine rq 10 fun K hK=>?_;clear hH;go_simp;refine (c13t z.of.km b1 n1 z.of.ls ui.drew H5.out.v.le.1 H5.out.v.le.2.1.1 H5.out.v.le.2.1.2 (M.lks_below H5.out.v.at' hbd) (shapes_below HQ.out.sh hbd) (max_below HQ.out.mx hbd) HTT.out).mono ?_;rintro e uj ⟨rfl,hb⟩;have hbj:Below ui.heap.size ui uj:=bT hbd hb;have BW:=hdI (HQ.out.bw.trans (hbj.mono HQ.out.bw.size));go_simp;refine hK.out _ _ (HSS.out _ hbj) fun hH=>?_;clear hK K hb
 try simp only [qq]
 refine tq (v:=.bool true) 11 hH ?_ (hv:=by intro u hu;simp [go_sem])
 try simp only [qq]
 refine tq 12 hH ?_
 try simp only [qq]
 refine tq 13 hH ?_
 try simp only [qq]
 refine tq 14 hH ?_
 try simp only [qq]
 refine tq 15 hH ?_
 try simp only [qq]
 refine tq 16 hH ?_
 try simp only [qq]
 refine tq 17 hH ?_
 try simp only [qq]
 refine tq 18 hH ?_
 try simp only [qq]
 refine tq 19 hH ?_
 try simp only [qq]
 refine tq 20 hH ?_
 try simp only [qq]
 refine tq (v:=.bool true) 21 hH ?_ (hv:=by intro u hu;simp [go_sem])
 try simp only [qq]
 refine tq 22 hH ?_
 try simp only [qq]
 refine tq 23 hH ?_
 try simp only [qq]
 refine wpAnyH_done kr_ ?_ _;clear hH;go_wp2;go_ret;exact ⟨rfl,BW.out⟩
end Go.Proofs.YthjhakdpikdoeaaGreatDoor
