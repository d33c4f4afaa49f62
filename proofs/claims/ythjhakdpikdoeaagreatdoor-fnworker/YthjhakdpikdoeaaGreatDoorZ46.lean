import Derived.Test.YthjhakdpikdoeaaGreatDoorKZC
import Derived.Deep.LoopGhost
import Derived.Deep.Cut
set_option linter.unusedVariables false
set_option maxHeartbeats 8000000
set_option maxRecDepth 100000
namespace Go.Proofs.YthjhakdpikdoeaaGreatDoor
open Proofs.Tryz
open Go.RowKit
def WS (m:M3) (w:World):World:=(WG m w).alloc (.cells #[.bool false,.int .i64 0,.string ⟨#[]⟩,.bool false,.string ⟨#[]⟩,.int .i64 0] 29)
theorem WS_size (m:M3) (w:World):(WS m w).heap.size=w.heap.size+3:=by simp [WS,WG_size]
theorem WS_below (m:M3) (w:World):Below w.heap.size w (WS m w):=(WG_below m w).alloc (by rw [WG_size];omega) _
theorem WS_g {m:M3} {w u:World} (h:Below (w.heap.size+3) (WS m w) u):Below (w.heap.size+2) (WG m w) u:=((Below.refl _ _).alloc (by rw [WG_size];omega) _).trans (h.mono om_)
theorem WS_z {m:M3} {w u:World} (h:Below (w.heap.size+3) (WS m w) u):T6At u (w.heap.size+1) zeroT:=WG_z (WS_g h)
theorem WS_n {m:M3} {w u:World} (h:Below (w.heap.size+3) (WS m w) u):T6At u (w.heap.size+1+1) zeroT:=by
 have e:(w.heap.size+1+1)=(WG m w).heap.size:=by rw [WG_size]
 unfold T6At;rw [h.block _ om_,e];exact alloc_new rfl _
theorem wp_loadT {ops:Array Oper} {rest:List Oper} {o:Oper} {a:Act} {u:World} {Q:Exit->Act->World->Prop} (hgd:o.guard=none) (x:Operand) (ho:o.op=.load 29 x) (B:Nat) (hx:a.eval x=.pointer (some ⟨B,0,none⟩)) (t:TN) (hT:T6At u B t)
 (h:wpList prog ops Q rest (a.put o.dst t.v) u):wpList prog ops Q (o::rest) a u:=
 M.wpList_load_blk (P:=prog) hgd 29 x ho B hx _ _ hT.blk underlying29 rfl kr_ h
theorem c57s {o:Bool} {c:Int} {t:ByteArray} {h:Bool} {nm:ByteArray} {k:Int} (a:Option Addr) (cap n:Nat) (T:List I3) (arg:ByteArray) (a2:Option Addr) (cap2 n2:Nat) (reps:List R2) (w:World) (hn:n=T.length) (hn2:n2=reps.length) (h3:Three T arg reps) (hat:InsAt w a T) (hat2:ResAt w a2 reps) (e:nextT T arg reps=⟨o,c,t,h,nm,k⟩):
 Calls prog 57 #[.agg #[.slice a n cap],.string arg,.slice a2 n2 cap2] w fun e w'=>e=.returned (.agg #[.bool o,.int .i64 c,.string t,.bool h,.string nm,.int .i64 k])/\Below w.heap.size w w':=by
 subst hn hn2;exact c57t a cap T arg a2 cap2 reps w h3 hat hat2 e
theorem c26y (m:M3) (a:Option Addr) (cap:Nat) (ls:List M.L4) (w:World) (hm:m.le 1048576) (hk:okM m=true) (hlk:M.LksOk ls) (hs:∀ i,(ls.getD i M.l4z).le 1048576) (hat:M.LksAt w a ls):
 Calls prog 26 #[.agg #[.string m.nm,.string m.tl,.string m.ar],.slice a ls.length cap] w fun e w'=>e=.returned (goL m.tl m.ar (turn0 m.tl) rs0 ls).v/\Below w.heap.size w w':=by
 have hml:m.le 1048700:=⟨by have:=hm.1;omega,by have:=hm.2.1;omega,by have:=hm.2.2;omega⟩;have h15:ls.length<=15:=hlk.1;have HAT:Hid (M.LksAt w a ls):=hat;have HLK:Hid (M.LksOk ls):=hlk;clear hat hlk;go_enter func26,ntmps26;have HW:Hid (WS m w=(((w.alloc (.cells #[.string m.nm,.string m.tl,.string m.ar] 24)).alloc (.cells #[.bool false,.int .i64 0,.string ⟨#[]⟩,.bool false,.string ⟨#[]⟩,.int .i64 0] 29)).alloc (.cells #[.bool false,.int .i64 0,.string ⟨#[]⟩,.bool false,.string ⟨#[]⟩,.int .i64 0] 29))):=rfl
 go_wp2_with fail
 rw [<- HW.out];refine (c55v hk _ hml).mono ?_;rintro e w1 ⟨rfl,hb1⟩;have HB1:Hid (Below (w.heap.size+3) (WS m w) w1):=hb1.mono (by rw [WS_size];omega);have hz1:w.heap.size+3<=w1.heap.size:=by have:=hb1.size;rw [WS_size] at this;exact this
 have hBw1:Below w.heap.size w w1:=(WS_below m w).trans (HB1.out.mono om_);clear hb1
 go_wp2_with fail
 refine (M.c56 a cap ls w1 om_ hs (M.lks_below HAT.out hBw1)).mono ?_;rintro e w2 ⟨⟨r,rfl,hr⟩,hb2⟩;have hrt:r=true:=hr.2 HLK.out;subst hrt;have HB2:Hid (Below (w.heap.size+3) (WS m w) w2):=HB1.out.trans (hb2.mono om_);have hz2:w.heap.size+3<=w2.heap.size:=Nat.le_trans hz1 hb2.size;obtain ⟨y0,y1,y2⟩:=WG_m (WS_g HB2.out);clear hb2 hBw1 HB1 hr
 go_wp2_with fail
 obtain ⟨w3,hw3⟩:∃ w3,w3=((w2.alloc (.cells #[.bool false,.int .i64 0,.string ⟨#[]⟩,.bool false,.string m.tl,.int .i64 0] 29)).alloc (.cells #[] 27)).alloc (.cells #[.slice none 0 0] 87):=⟨_,rfl⟩;rw [<- hw3];have hz3:w3.heap.size=w2.heap.size+3:=by rw [hw3];simp
 have HT3:Hid (T6At w3 w2.heap.size (turn0 m.tl)):=by
  show w3.heap[_]?=_;rw [hw3,Lib.alloc_old _ _ _ so_,Lib.alloc_old _ _ _ sm_];exact alloc_new rfl _
 have HL3:Hid (w3.heap[w2.heap.size+1+1]?=some (.cells #[.slice none 0 0] 87 (0,0))):=by
  show w3.heap[_]?=_;rw [hw3];exact alloc_new sm_ _
 have HO3:Hid (w3.ownsRow (w2.heap.size+1) 27 2 (.slice (some ⟨w2.heap.size+1,0,none⟩) 0 0) 0 []):=by
  show w3.ownsRow _ _ _ _ _ _;rw [hw3];refine World.ownsRow.alloc ?_ _;refine ⟨rfl,.inr ⟨w2.heap.size+1,0,#[],rfl,Nat.le_refl _,alloc_new sm_ _,Nat.le_refl _,Nat.zero_le _,rfl,rfl⟩⟩
 have HB3:Hid (Below (w.heap.size+3) (WS m w) w3):=HB2.out.trans (by rw [hw3];exact (((Below.refl _ _).alloc hz2 _).alloc so_ _).alloc so_ _);clear hw3 y0 y1 y2;go_loopw [7,9] (fun v7 v9 wr=>∃ (k:Nat) (t:TN) (s:RS) (v2:Value),v9=.int .i64 k/\k<=ls.length/\Hid (goL m.tl m.ar (turn0 m.tl) rs0 ls=goL m.tl m.ar t s (ls.drop k))/\Hid (T6At wr w2.heap.size t)/\Hid (wr.heap[w2.heap.size+1+1]?=some (.cells #[v2] 87 (0,0)))/\Hid (wr.ownsRow (w2.heap.size+1) 27 2 v7 s.reps.length (resCells s.reps))/\Hid (s.has=true->wr.ownsRow (w2.heap.size+1) 92 3 v2 s.T.length (insCells s.T))/\Hid (RSOk s)/\s.reps.length<=k/\Hid ((k=0/\s=rs0)\/(0<k/\(t.over=false->s.has=true)))/\Hid (Below (w.heap.size+3) (WS m w) wr)/\w3.heap.size<=wr.heap.size) (fun _ r _=>ls.length - (intOf r).toNat)
 case atStart=>exact ⟨0,turn0 m.tl,rs0,_,rfl,Nat.zero_le _,rfl,HT3.out,HL3.out,HO3.out,(fun h=>by cases h),rs0_ok,Nat.zero_le _,.inl ⟨rfl,rfl⟩,HB3.out,om_⟩
 obtain ⟨k,t,s,v2,rfl,hkl,HG,HT,HL,HO,HI,HS,hsl,HC,HBr,hzr⟩:=hrel;have hBw:Below w.heap.size w wr:=(WS_below m w).trans (HBr.out.mono om_);obtain ⟨o,c,tx,hh,n,st⟩:=t;obtain ⟨t0,t1,t2,t3,t4,t5,tf⟩:=T6At.cells HT.out;by_cases hlt:k<ls.length;rotate_left
 · have hke:k=ls.length:=om_
   have HZ:Hid (goL m.tl m.ar (turn0 m.tl) rs0 ls=⟨o,c,tx,hh,n,st⟩):=by
    rw [HG.out,hke,List.drop_eq_nil_of_le lr_];rfl
   subst hke
   go_wp2_with (refine wp_turn rfl _ _ rfl (w.heap.size+1) rfl ⟨o,c,tx,hh,n,st⟩ zeroT rfl (WS_z HBr.out) rfl ?_;intro u' hT' hB' _)
   refine bodyPost_ret (v:=TN.v ⟨o,c,tx,hh,n,st⟩) (M.results_blk (P:=prog) (ty:=29) rfl _ _ (w.heap.size+1) _ _ rfl hT'.blk underlying29 rfl kr_) rfl ⟨by rw [HZ.out],?_⟩;exact ((WS_below m w).trans (HBr.out.mono om_)).trans (hB' _ om_)
 obtain ⟨lb,off,ha,hlb,x0,x1,x2,x3⟩:=lks_cells HAT.out hBw hlt;subst ha;have hxs:=hs k;have HLO:Hid (M.LkOk (ls.getD k M.l4z)):=HLK.out.2 k hlt;have HD:Hid (ls.drop k=ls.getD k M.l4z::ls.drop (k+1)):=drop_get hlt;generalize ls.getD k M.l4z=x at*;obtain ⟨xh,xn,xc,xt⟩:=x;have hl1:w2.heap.size<wr.heap.size:=om_;have p0:=past (p:=⟨w2.heap.size,0,none⟩) hl1 t0 (.cells #[.bool xh,.string xn,.int .i64 xc,.string xt] 74);have p3:=past (p:=⟨w2.heap.size,3,none⟩) hl1 t3 (.cells #[.bool xh,.string xn,.int .i64 xc,.string xt] 74);have p4:=past (p:=⟨w2.heap.size,4,none⟩) hl1 t4 (.cells #[.bool xh,.string xn,.int .i64 xc,.string xt] 74);have HBa:Hid (Below (w.heap.size+3) (WS m w) (wr.alloc (.cells #[.bool xh,.string xn,.int .i64 xc,.string xt] 74))):=HBr.out.alloc om_ _;clear t0 t1 t2 t3 t4 t5 tf hBw;cases o;rotate_left
 · have HZ:Hid (goL m.tl m.ar (turn0 m.tl) rs0 ls=zeroT):=by rw [HG.out,HD.out];exact goL_halt (.inl rfl)
   go_wp2_with (first | (refine wp_loadT rfl (.tmp 5) rfl (w.heap.size+1+1) rfl zeroT (WS_n HBa.out) ?_) | (refine wp_turn rfl (.tmp 4) _ rfl (w.heap.size+1) rfl zeroT zeroT rfl (WS_z HBa.out) rfl ?_;intro u' hT' hB' _))
   refine bodyPost_ret (v:=zeroT.v) (M.results_blk (P:=prog) (ty:=29) rfl _ _ (w.heap.size+1) _ _ rfl hT'.blk underlying29 rfl kr_) rfl ⟨by rw [HZ.out],?_⟩;exact ((WS_below m w).trans (HBa.out.mono om_)).trans (hB' _ om_)
 by_cases hhe:xh=hh;rotate_left
 · have hhe':¬ hh=xh:=fun h=>hhe h.symm
   have HZ:Hid (goL m.tl m.ar (turn0 m.tl) rs0 ls=zeroT):=by rw [HG.out,HD.out];exact goL_halt (.inr (.inl hhe))
   go_wp2_with (first | (refine wp_loadT rfl (.tmp 5) rfl (w.heap.size+1+1) rfl zeroT (WS_n HBa.out) ?_) | (refine wp_turn rfl (.tmp 4) _ rfl (w.heap.size+1) rfl zeroT zeroT rfl (WS_z HBa.out) rfl ?_;intro u' hT' hB' _))
   refine bodyPost_ret (v:=zeroT.v) (M.results_blk (P:=prog) (ty:=29) rfl _ _ (w.heap.size+1) _ _ rfl hT'.blk underlying29 rfl kr_) rfl ⟨by rw [HZ.out],?_⟩;exact ((WS_below m w).trans (HBa.out.mono om_)).trans (hB' _ om_)
 subst hhe;by_cases hne:xn=n;rotate_left
 · have hne':¬ n.toList=xn.toList:=fun h=>hne ((M.ba_iff _ _).1 h).symm
   have hne2:(n.toList==xn.toList)=false:=by simpa using hne'
   have HZ:Hid (goL m.tl m.ar (turn0 m.tl) rs0 ls=zeroT):=by rw [HG.out,HD.out];exact goL_halt (.inr (.inr (.inl hne)))
   go_wp2_with (first | (refine wp_loadT rfl (.tmp 5) rfl (w.heap.size+1+1) rfl zeroT (WS_n HBa.out) ?_) | (refine wp_turn rfl (.tmp 4) _ rfl (w.heap.size+1) rfl zeroT zeroT rfl (WS_z HBa.out) rfl ?_;intro u' hT' hB' _))
   refine bodyPost_ret (v:=zeroT.v) (M.results_blk (P:=prog) (ty:=29) rfl _ _ (w.heap.size+1) _ _ rfl hT'.blk underlying29 rfl kr_) rfl ⟨by rw [HZ.out],?_⟩;exact ((WS_below m w).trans (HBa.out.mono om_)).trans (hB' _ om_)
 subst hne;have hne':(xn.toList==xn.toList)=true:=sm_;have hhalt:¬ Halt ⟨false,c,tx,xh,xn,st⟩ ⟨xh,xn,xc,xt⟩:=by
  rintro (h | h | h | h)
  · cases h
  · exact h rfl
  · exact h rfl
  exact h HLO.out
 have HG':Hid (goL m.tl m.ar (turn0 m.tl) rs0 ls=goL m.tl m.ar (nextR m.tl m.ar s ⟨xc,xt⟩).1 (nextR m.tl m.ar s ⟨xc,xt⟩).2 (ls.drop (k+1))):=by
  rw [HG.out,HD.out];exact goL_go hhalt
 rcases HC.out with ⟨rfl,rfl⟩ | ⟨hk0,hhas⟩;rotate_left
 · have hs1:s.has=true:=hhas rfl
   obtain ⟨sh,T,reps⟩:=s;have hs2:sh=true:=hs1;subst hs2;have e1:nextR m.tl m.ar ⟨true,T,reps⟩ ⟨xc,xt⟩=(nextT T m.ar (reps++[⟨xc,xt⟩]),⟨true,T,reps++[⟨xc,xt⟩]⟩):=by simp [nextR]
   rw [e1] at HG';have HS6:Hid (RSOk ⟨true,T,reps++[⟨xc,xt⟩]⟩):=⟨HS.out.tl,HS.out.ts,snoc_small HS.out.rs (by have:=hxs.2;exact this)⟩;rcases hN:nextT T m.ar (reps++[⟨xc,xt⟩]) with ⟨o',c',tx',hh',n',st'⟩;rw [hN] at HG';have HN:Hid (nextT T m.ar (reps++[⟨xc,xt⟩])=⟨o',c',tx',hh',n',st'⟩):=hN;have hsl':reps.length<=k:=hsl;have H3:Hid (Three T m.ar (reps++[⟨xc,xt⟩])):=⟨by have:=HS.out.tl;exact Nat.le_trans this om_,fun i=>Nat.le_trans (HS.out.ts i) om_,by have:=hm.2.2;exact this,so_,snoc_small HS.out.rs (by have:=hxs.2;exact this)⟩;clear hN e1 hs1;have hO:wr.ownsRow (w2.heap.size+1) 27 2 u7 reps.length (resCells reps):=HO.out;have hI:wr.ownsRow (w2.heap.size+1) 92 3 v2 T.length (insCells T):=HI.out rfl;obtain ⟨i0,hi,hz0,hz1',hz2'⟩:=info_parts info27;obtain ⟨wx,hwx⟩:∃ wx,wx=(wr.alloc (.cells #[.bool xh,.string xn,.int .i64 xc,.string xt] 74)).alloc (.cells #[.int .i64 xc,.string xt] 27):=⟨_,rfl⟩;have HWX:Hid (wx=(wr.alloc (.cells #[.bool xh,.string xn,.int .i64 xc,.string xt] 74)).alloc (.cells #[.int .i64 xc,.string xt] 27)):=hwx;have hbx:Below wr.heap.size wr wx:=by rw [hwx];exact bA.alloc sm_ _
   have hzx:wx.heap.size=wr.heap.size+2:=by rw [hwx];simp
   have HBx:Hid (Below wr.heap.size wr wx):=hbx;have HIx:Hid (wx.ownsRow (w2.heap.size+1) 92 3 v2 T.length (insCells T)):=ownsRow_below hI hbx;have HOx:Hid (wx.ownsRow (w2.heap.size+1) 27 2 u7 reps.length (resCells reps)):=ownsRow_below hO hbx;clear hwx hbx hI
   go_wp2_with (at_builtin;refine wpList_append_own _ rfl _ _ 104 rfl (w2.heap.size+1) 27 i0 (.agg #[.int .i64 0,.string ⟨#[]⟩]) 2 24 underlying104 hi hz0 hz1' hz2' rfl dc_ _ _ _ rfl ((hO.alloc _).alloc _) ⟨wr.heap.size+1,0,none⟩ 1 1 [_,_] rfl rfl (row2n sm_ _ _ _) (by intro u hu;simp at hu;rcases hu with rfl | rfl <;> rfl) (by unfold maxLen;omega) om_ so_ ?_;rw [<- HWX.out];intro v' w4 hown4 (hgrow:wx.grownBy w4 u7.ownBlock) _;have hrow:∀ k,u7.ownBlock=some k->w2.heap.size+1<=k/\∃ cur,wx.heap[k]?=some (.cells cur 27 (0,0)):=(fun k hk=>own_block HOx.out hk);have g3:∀ (k:Nat) (x:Array Value) (t:TypeId),wx.heap[k]?=some (.cells x t (0,0))->t≠27->w4.heap[k]?=some (.cells x t (0,0)):=(fun k x t hk ht=>(hgrow.block k (blk_lt hk) (fun e=>by obtain ⟨_,cur,hc⟩:=hrow _ e.symm;exact blk_ne hk hc ht rfl)).trans hk);have HB4:Hid (Below (w.heap.size+3) (WS m w) w4):=((HBr.out.trans (HBx.out.mono om_)).grown hgrow om_ (fun k hk=>by have:=(hrow k hk).1;omega));have HT4:Hid (T6At w4 w2.heap.size ⟨false,c,tx,xh,xn,st⟩):=g3 _ _ _ (HT.out.below HBx.out hl1) dc_;have HL4:Hid (w4.heap[w2.heap.size+1+1]?=some (.cells #[v2] 87 (0,0))):=g3 _ _ _ ((HBx.out.block _ om_).trans HL.out) dc_;have HI4:Hid (w4.ownsRow (w2.heap.size+1) 92 3 v2 T.length (insCells T)):=(ownsRow_keep HIx.out fun k hk=>by obtain ⟨_,cur,hc⟩:=own_block HIx.out hk;rw [g3 _ _ _ hc dc_,hc]);have hz4:wx.heap.size<=w4.heap.size:=hgrow.size;obtain ⟨y0,y1,y2⟩:=WG_m (WS_g HB4.out);obtain ⟨a2,cp2,hv2,HIN⟩:=own3_form HI4.out;have gt:w4.cell? ⟨w2.heap.size+1+1,0,none⟩=some (.slice a2 T.length cp2):=(by rw [Lib.cell_of_heap HL4.out,<- hv2];rfl);have HIN':Hid (InsAt w4 a2 T):=HIN;have HO4:Hid (w4.ownsRow (w2.heap.size+1) 27 2 v' (reps.length+1) (resCells reps++[.int .i64 xc,.string xt])):=hown4;obtain ⟨ao,cp,rfl⟩:=row_form2 hown4;clear hgrow hown4 hrow g3 HIN hv2)
   have HO4':Hid (w4.ownsRow (w2.heap.size+1) 27 2 (.slice ao (reps.length+1) cp) (reps++[(⟨xc,xt⟩:R2)]).length (resCells (reps++[⟨xc,xt⟩]))):=by
    show w4.ownsRow _ _ _ _ _ _;rw [resCells_snoc,List.length_append];exact HO4.out
   obtain ⟨a3,cp3,hv3,HRS⟩:=own2_form HO4'.out;have ha3:ao=a3:=by injection hv3
   subst ha3;refine (c57s a2 cp2 _ T m.ar ao cp _ (reps++[⟨xc,xt⟩]) w4 rfl sm_ H3.out HIN'.out HRS HN.out).mono ?_;rintro e w5 ⟨rfl,hb5⟩;have HT5:Hid (T6At w5 w2.heap.size ⟨false,c,tx,xh,xn,st⟩):=HT4.out.below hb5 om_;have HL5:Hid (w5.heap[w2.heap.size+1+1]?=some (.cells #[v2] 87 (0,0))):=(hb5.block _ om_).trans HL4.out;have HO5:Hid (w5.ownsRow (w2.heap.size+1) 27 2 (.slice ao (reps.length+1) cp) (reps++[(⟨xc,xt⟩:R2)]).length (resCells (reps++[⟨xc,xt⟩]))):=ownsRow_below HO4'.out hb5;have HI5:Hid (w5.ownsRow (w2.heap.size+1) 92 3 v2 T.length (insCells T)):=ownsRow_below HI4.out hb5;have HB5:Hid (Below (w.heap.size+3) (WS m w) w5):=HB4.out.trans (hb5.mono om_);have hz5:w4.heap.size<=w5.heap.size:=hb5.size;clear hb5 hv3 HRS y0 y1 y2 gt
   go_wp2_with (refine wp_turn rfl _ _ rfl w2.heap.size rfl ⟨o',c',tx',hh',n',st'⟩ _ rfl HT5.out rfl ?_;intro u' hT' hB' hK')
   have HT6:Hid (T6At u' w2.heap.size ⟨o',c',tx',hh',n',st'⟩):=hT';have hbl:∀ (k:Nat) (x:Array Value) (t:TypeId),w5.heap[k]?=some (.cells x t (0,0))->t≠29->u'.heap[k]?=some (.cells x t (0,0)):=fun k x t h1 ht=>(hK' k (blk_ne h1 HT5.out ht)).trans h1;have HL6:Hid (u'.heap[w2.heap.size+1+1]?=some (.cells #[v2] 87 (0,0))):=hbl _ _ _ HL5.out dc_;have HO6:Hid (u'.ownsRow (w2.heap.size+1) 27 2 (.slice ao (reps.length+1) cp) (reps++[(⟨xc,xt⟩:R2)]).length (resCells (reps++[⟨xc,xt⟩]))):=ownsRow_keep HO5.out fun k hk=>by
    obtain ⟨_,cur,hc⟩:=own_block HO5.out hk;rw [hbl _ _ _ hc dc_,hc]
   have HI6:Hid (u'.ownsRow (w2.heap.size+1) 92 3 v2 T.length (insCells T)):=ownsRow_keep HI5.out fun k hk=>by
    obtain ⟨_,cur,hc⟩:=own_block HI5.out hk;rw [hbl _ _ _ hc dc_,hc]
   have HB6:Hid (Below (w.heap.size+3) (WS m w) u'):=HB5.out.trans (hB' _ om_);have hz6:w5.heap.size<=u'.heap.size:=(hB' 0 om_).size;clear hT' hB' hK' hbl;go_roundw
   case rel=>exact ⟨k+1,⟨o',c',tx',hh',n',st'⟩,⟨true,T,reps++[⟨xc,xt⟩]⟩,v2,by go_num,om_,HG',HT6,HL6,HO6,fun _=>HI6.out,HS6,by show (reps++[_]).length<=k+1;simp;omega,.inr ⟨om_,fun _=>rfl⟩,HB6,om_⟩
   case measure=>simp [intOf];omega
 simp only [Nat.zero_mul,Nat.add_zero] at x0 x1 x2 x3
 go_wp2_with fail
 refine (c58o xt _ (by have:=hxs.2;exact this)).mono ?_;rintro e w4 ⟨⟨is,ok,ai,ci,rfl,hown,hread⟩,hb4⟩;have hz4:wr.heap.size+1<=w4.heap.size:=by have:=hb4.size;simpa using this
 have hbr:Below wr.heap.size wr w4:=bA.trans (hb4.mono sm_);have HB4:Hid (Below (w.heap.size+3) (WS m w) w4):=HBa.out.trans (hb4.mono so_);have HT4:Hid (T6At w4 w2.heap.size ⟨false,c,tx,xh,xn,st⟩):=HT.out.below hbr hl1;have hL4:w4.heap[w2.heap.size+1+1]?=some (.cells #[v2] 87 (0,0)):=(hbr.block _ om_).trans HL.out;have HO4:Hid (w4.ownsRow (w2.heap.size+1) 27 2 u7 0 []):=ownsRow_below HO.out hbr;have HI4:Hid (w4.ownsRow (w2.heap.size+1) 92 3 (.slice ai is.length ci) is.length (insCells is)):=owns_mono hown so_;have z2:w4.cell? ⟨wr.heap.size,2,none⟩=some (.int .i64 xc):=(hb4.cell (p:=⟨wr.heap.size,2,none⟩) sm_).trans (by simp [go_sem]);have HRD:Hid (readT xt.data.toList=(is,ok)):=readT_of hread;obtain ⟨hil,hiz⟩:=read_small hread;have g2:w4.cell? ⟨w2.heap.size+1+1,0,none⟩=some v2:=by rw [Lib.cell_of_heap hL4];rfl
 have gf:w4.frozen? ⟨w2.heap.size+1+1,0,none⟩=false:=Lib.frozen_of_heap hL4 0;have hTl:w2.heap.size+1+1<w4.heap.size:=om_;have g3:=past (p:=⟨w2.heap.size+1+1,0,none⟩) hTl g2 (.cells #[.slice ai is.length ci] 87);have gg:=pastf (p:=⟨w2.heap.size+1+1,0,none⟩) hTl gf (.cells #[.slice ai is.length ci] 87);have hneT:wr.heap.size≠w2.heap.size+1+1:=om_;have z2v:(w4.setCell ⟨w2.heap.size+1+1,0,none⟩ (.slice ai is.length ci)).cell? ⟨wr.heap.size,2,none⟩=some (.int .i64 xc):=by rw [World.cell?_setCell_other _ _ _ _ (fun e=>hneT (by injection e with e _;exact e.symm))];exact z2
 have z2p:=past (p:=⟨wr.heap.size,2,none⟩) so_ z2v (.cells #[.slice ai is.length ci] 87);obtain ⟨y0,y1,y2⟩:=WG_m (WS_g HB4.out);have hneM:w.heap.size≠w2.heap.size+1+1:=om_;have y1v:(w4.setCell ⟨w2.heap.size+1+1,0,none⟩ (.slice ai is.length ci)).cell? ⟨w.heap.size,1,none⟩=some (.string m.tl):=by rw [World.cell?_setCell_other _ _ _ _ (fun e=>hneM (by injection e with e _;exact e.symm))];exact y1
 have y1p:=past (p:=⟨w.heap.size,1,none⟩) so_ y1v (.cells #[.slice ai is.length ci] 87);have y2v:(w4.setCell ⟨w2.heap.size+1+1,0,none⟩ (.slice ai is.length ci)).cell? ⟨w.heap.size,2,none⟩=some (.string m.ar):=by rw [World.cell?_setCell_other _ _ _ _ (fun e=>hneM (by injection e with e _;exact e.symm))];exact y2
 have y2p:=past (p:=⟨w.heap.size,2,none⟩) so_ y2v (.cells #[.slice ai is.length ci] 87);have gv:(w4.setCell ⟨w2.heap.size+1+1,0,none⟩ (.slice ai is.length ci)).cell? ⟨w2.heap.size+1+1,0,none⟩=some (.slice ai is.length ci):=World.cell?_setCell_same _ _ _ g2;have gvp:=past (p:=⟨w2.heap.size+1+1,0,none⟩) so_ gv (.cells #[.slice ai is.length ci] 87);obtain ⟨U,hU⟩:∃ U,U=(w4.setCell ⟨w2.heap.size+1+1,0,none⟩ (.slice ai is.length ci)).alloc (.cells #[.slice ai is.length ci] 87):=⟨_,rfl⟩;have HU:Hid (U=(w4.setCell ⟨w2.heap.size+1+1,0,none⟩ (.slice ai is.length ci)).alloc (.cells #[.slice ai is.length ci] 87)):=hU;have hzU:w4.heap.size+1=U.heap.size:=by rw [hU];simp
 have kU:∀ (k:Nat) (x:Array Value) (t:TypeId),w4.heap[k]?=some (.cells x t (0,0))->t≠87->U.heap[k]?=some (.cells x t (0,0)):=fun k x t h1 ht=>by
  rw [hU,Lib.alloc_old _ _ _ (by simp;exact blk_lt h1),heap_setCell_other _ _ _ _ (blk_ne h1 hL4 ht)];exact h1
 have HTU:Hid (T6At U w2.heap.size ⟨false,c,tx,xh,xn,st⟩):=kU _ _ _ HT4.out dc_;have HLU:Hid (U.heap[w2.heap.size+1+1]?=some (.cells #[.slice ai is.length ci] 87 (0,0))):=by
  show U.heap[_]?=_;rw [hU,Lib.alloc_old _ _ _ so_];exact heap_setCell_same _ _ 0 _ _ _ hL4
 have HOU:Hid (U.ownsRow (w2.heap.size+1) 27 2 u7 0 []):=ownsRow_keep HO4.out fun k hk=>by
  obtain ⟨_,cur,hc⟩:=own_block HO4.out hk;rw [kU _ _ _ hc dc_,hc]
 have HIU:Hid (U.ownsRow (w2.heap.size+1) 92 3 (.slice ai is.length ci) is.length (insCells is)):=ownsRow_keep HI4.out fun k hk=>by
  obtain ⟨_,cur,hc⟩:=own_block HI4.out hk;rw [kU _ _ _ hc dc_,hc]
 have HBU:Hid (Below (w.heap.size+3) (WS m w) U):=HB4.out.trans (by rw [hU];exact ((Below.refl _ _).setCell (by show w.heap.size+3<=w2.heap.size+1+1;omega) _).alloc so_ _);clear hU kU hb4 hbr hown hread p0 p3 p4 x0 x1 x2 x3 y0 y1 y2 z2 g2 gf y1v y2v z2v gv;by_cases hx4:xc=4
 · subst hx4
   have e4:nextR m.tl m.ar rs0 ⟨4,xt⟩=(overT 4 m.tl 0,rs0):=by simp [nextR,rs0]
   rw [e4] at HG';have HS6:Hid (RSOk rs0):=rs0_ok
   go_wp2_with fail
   rw [<- HU.out];refine (c40x 4 m.tl 0 U).mono ?_;rintro e w5 ⟨rfl,hb5⟩;have HT5:Hid (T6At w5 w2.heap.size ⟨false,c,tx,xh,xn,st⟩):=HTU.out.below hb5 om_;have HL5:w5.heap[w2.heap.size+1+1]?=some (.cells #[.slice ai is.length ci] 87 (0,0)):=(hb5.block _ om_).trans HLU.out;have HL5':Hid (w5.heap[w2.heap.size+1+1]?=some (.cells #[.slice ai is.length ci] 87 (0,0))):=HL5;have HO5:Hid (w5.ownsRow (w2.heap.size+1) 27 2 u7 0 []):=ownsRow_below HOU.out hb5;have HI5:Hid (w5.ownsRow (w2.heap.size+1) 92 3 (.slice ai is.length ci) is.length (insCells is)):=ownsRow_below HIU.out hb5;have HB5:Hid (Below (w.heap.size+3) (WS m w) w5):=HBU.out.trans (hb5.mono om_);have hz5:U.heap.size<=w5.heap.size:=hb5.size;clear hb5 HL5
   go_wp2_with (refine wp_turn rfl _ _ rfl w2.heap.size rfl ⟨true,4,m.tl,false,⟨#[]⟩,0⟩ _ rfl HT5.out rfl ?_;intro u' hT' hB' hK')
   have HT6:Hid (T6At u' w2.heap.size ⟨true,4,m.tl,false,⟨#[]⟩,0⟩):=hT';have hbl:∀ (k:Nat) (x:Array Value) (t:TypeId),w5.heap[k]?=some (.cells x t (0,0))->t≠29->u'.heap[k]?=some (.cells x t (0,0)):=fun k x t h1 ht=>(hK' k (blk_ne h1 HT5.out ht)).trans h1;have HL6:Hid (u'.heap[w2.heap.size+1+1]?=some (.cells #[.slice ai is.length ci] 87 (0,0))):=hbl _ _ _ HL5'.out dc_;have HO6:Hid (u'.ownsRow (w2.heap.size+1) 27 2 u7 0 []):=ownsRow_keep HO5.out fun k hk=>by
    obtain ⟨_,cur,hc⟩:=own_block HO5.out hk;rw [hbl _ _ _ hc dc_,hc]
   have HI6:Hid (u'.ownsRow (w2.heap.size+1) 92 3 (.slice ai is.length ci) is.length (insCells is)):=ownsRow_keep HI5.out fun k hk=>by
    obtain ⟨_,cur,hc⟩:=own_block HI5.out hk;rw [hbl _ _ _ hc dc_,hc]
   have HB6:Hid (Below (w.heap.size+3) (WS m w) u'):=HB5.out.trans (hB' _ om_);have hz6:w5.heap.size<=u'.heap.size:=(hB' 0 om_).size;clear hT' hB' hK' hbl;go_roundw
   case rel=>exact ⟨1,⟨true,4,m.tl,false,⟨#[]⟩,0⟩,rs0,.slice ai is.length ci,rfl,om_,HG',HT6,HL6,HO6,(fun h=>by cases h),HS6,by show 0<=1;omega,.inr ⟨om_,fun h=>by cases h⟩,HB6,om_⟩
   case measure=>simp [intOf];omega
 by_cases hx0:xc=0;rotate_left
 · have e5:nextR m.tl m.ar rs0 ⟨xc,xt⟩=(overT 5 m.tl 0,rs0):=by simp [nextR,rs0,hx0,hx4]
   rw [e5] at HG';have HS6:Hid (RSOk rs0):=rs0_ok
   go_wp2_with fail
   rw [<- HU.out];refine (c40x 5 m.tl 0 U).mono ?_;rintro e w5 ⟨rfl,hb5⟩;have HT5:Hid (T6At w5 w2.heap.size ⟨false,c,tx,xh,xn,st⟩):=HTU.out.below hb5 om_;have HL5:w5.heap[w2.heap.size+1+1]?=some (.cells #[.slice ai is.length ci] 87 (0,0)):=(hb5.block _ om_).trans HLU.out;have HL5':Hid (w5.heap[w2.heap.size+1+1]?=some (.cells #[.slice ai is.length ci] 87 (0,0))):=HL5;have HO5:Hid (w5.ownsRow (w2.heap.size+1) 27 2 u7 0 []):=ownsRow_below HOU.out hb5;have HI5:Hid (w5.ownsRow (w2.heap.size+1) 92 3 (.slice ai is.length ci) is.length (insCells is)):=ownsRow_below HIU.out hb5;have HB5:Hid (Below (w.heap.size+3) (WS m w) w5):=HBU.out.trans (hb5.mono om_);have hz5:U.heap.size<=w5.heap.size:=hb5.size;clear hb5 HL5
   go_wp2_with (refine wp_turn rfl _ _ rfl w2.heap.size rfl ⟨true,5,m.tl,false,⟨#[]⟩,0⟩ _ rfl HT5.out rfl ?_;intro u' hT' hB' hK')
   have HT6:Hid (T6At u' w2.heap.size ⟨true,5,m.tl,false,⟨#[]⟩,0⟩):=hT';have hbl:∀ (k:Nat) (x:Array Value) (t:TypeId),w5.heap[k]?=some (.cells x t (0,0))->t≠29->u'.heap[k]?=some (.cells x t (0,0)):=fun k x t h1 ht=>(hK' k (blk_ne h1 HT5.out ht)).trans h1;have HL6:Hid (u'.heap[w2.heap.size+1+1]?=some (.cells #[.slice ai is.length ci] 87 (0,0))):=hbl _ _ _ HL5'.out dc_;have HO6:Hid (u'.ownsRow (w2.heap.size+1) 27 2 u7 0 []):=ownsRow_keep HO5.out fun k hk=>by
    obtain ⟨_,cur,hc⟩:=own_block HO5.out hk;rw [hbl _ _ _ hc dc_,hc]
   have HI6:Hid (u'.ownsRow (w2.heap.size+1) 92 3 (.slice ai is.length ci) is.length (insCells is)):=ownsRow_keep HI5.out fun k hk=>by
    obtain ⟨_,cur,hc⟩:=own_block HI5.out hk;rw [hbl _ _ _ hc dc_,hc]
   have HB6:Hid (Below (w.heap.size+3) (WS m w) u'):=HB5.out.trans (hB' _ om_);have hz6:w5.heap.size<=u'.heap.size:=(hB' 0 om_).size;clear hT' hB' hK' hbl;go_roundw
   case rel=>exact ⟨1,⟨true,5,m.tl,false,⟨#[]⟩,0⟩,rs0,.slice ai is.length ci,rfl,om_,HG',HT6,HL6,HO6,(fun h=>by cases h),HS6,by show 0<=1;omega,.inr ⟨om_,fun h=>by cases h⟩,HB6,om_⟩
   case measure=>simp [intOf];omega
 subst hx0;have e0:nextR m.tl m.ar rs0 ⟨0,xt⟩=(firstR m.tl m.ar xt.data.toList,⟨ok,is,[]⟩):=by simp [nextR,rs0,HRD.out]
 rw [e0] at HG';have HS6:Hid (RSOk ⟨ok,is,[]⟩):=⟨hil,hiz,fun i=>by simp [r2z,ByteArray.size]⟩;cases ok
 · have e7:firstR m.tl m.ar xt.data.toList=overT 7 m.tl 0:=by unfold firstR;rw [HRD.out];rfl
   rw [e7] at HG'
   go_wp2_with fail
   rw [<- HU.out];refine (c40x 7 m.tl 0 U).mono ?_;rintro e w5 ⟨rfl,hb5⟩;have HT5:Hid (T6At w5 w2.heap.size ⟨false,c,tx,xh,xn,st⟩):=HTU.out.below hb5 om_;have HL5:w5.heap[w2.heap.size+1+1]?=some (.cells #[.slice ai is.length ci] 87 (0,0)):=(hb5.block _ om_).trans HLU.out;have HL5':Hid (w5.heap[w2.heap.size+1+1]?=some (.cells #[.slice ai is.length ci] 87 (0,0))):=HL5;have HO5:Hid (w5.ownsRow (w2.heap.size+1) 27 2 u7 0 []):=ownsRow_below HOU.out hb5;have HI5:Hid (w5.ownsRow (w2.heap.size+1) 92 3 (.slice ai is.length ci) is.length (insCells is)):=ownsRow_below HIU.out hb5;have HB5:Hid (Below (w.heap.size+3) (WS m w) w5):=HBU.out.trans (hb5.mono om_);have hz5:U.heap.size<=w5.heap.size:=hb5.size;clear hb5 HL5
   go_wp2_with (refine wp_turn rfl _ _ rfl w2.heap.size rfl ⟨true,7,m.tl,false,⟨#[]⟩,0⟩ _ rfl HT5.out rfl ?_;intro u' hT' hB' hK')
   have HT6:Hid (T6At u' w2.heap.size ⟨true,7,m.tl,false,⟨#[]⟩,0⟩):=hT';have hbl:∀ (k:Nat) (x:Array Value) (t:TypeId),w5.heap[k]?=some (.cells x t (0,0))->t≠29->u'.heap[k]?=some (.cells x t (0,0)):=fun k x t h1 ht=>(hK' k (blk_ne h1 HT5.out ht)).trans h1;have HL6:Hid (u'.heap[w2.heap.size+1+1]?=some (.cells #[.slice ai is.length ci] 87 (0,0))):=hbl _ _ _ HL5'.out dc_;have HO6:Hid (u'.ownsRow (w2.heap.size+1) 27 2 u7 0 []):=ownsRow_keep HO5.out fun k hk=>by
    obtain ⟨_,cur,hc⟩:=own_block HO5.out hk;rw [hbl _ _ _ hc dc_,hc]
   have HI6:Hid (u'.ownsRow (w2.heap.size+1) 92 3 (.slice ai is.length ci) is.length (insCells is)):=ownsRow_keep HI5.out fun k hk=>by
    obtain ⟨_,cur,hc⟩:=own_block HI5.out hk;rw [hbl _ _ _ hc dc_,hc]
   have HB6:Hid (Below (w.heap.size+3) (WS m w) u'):=HB5.out.trans (hB' _ om_);have hz6:w5.heap.size<=u'.heap.size:=(hB' 0 om_).size;clear hT' hB' hK' hbl;go_roundw
   case rel=>exact ⟨1,⟨true,7,m.tl,false,⟨#[]⟩,0⟩,⟨false,is,[]⟩,.slice ai is.length ci,rfl,om_,HG',HT6,HL6,HO6,(fun h=>by cases h),HS6,by show 0<=1;omega,.inr ⟨om_,fun h=>by cases h⟩,HB6,om_⟩
   case measure=>simp [intOf];omega
 rcases hN:nextT is m.ar [] with ⟨o',c',tx',hh',n',st'⟩;have e7:firstR m.tl m.ar xt.data.toList=⟨o',c',tx',hh',n',st'⟩:=by unfold firstR;rw [HRD.out];exact hN
 rw [e7] at HG';have HN:Hid (nextT is m.ar []=⟨o',c',tx',hh',n',st'⟩):=hN;clear hN e7;obtain ⟨a7,cx7,hv7,HR7⟩:=own2_form (rs:=[]) HOU.out;have hu7:u7=.slice a7 0 cx7:=hv7;have HR7':Hid (ResAt U a7 []):=HR7;clear hv7 HR7;subst hu7;obtain ⟨a8,c26,hv8,HI8⟩:=own3_form HIU.out;have ha8:ai=a8:=by injection hv8
 subst ha8;have HI8':Hid (InsAt U ai is):=HI8;clear hv8 HI8
 go_wp2_with fail
 rw [<- HU.out];refine (c57s ai ci _ is m.ar a7 cx7 0 [] U rfl rfl ⟨om_,fun i=>Nat.le_trans (hiz i) om_,by have:=hm.2.2;exact this,Nat.zero_le _,fun i=>by simp [r2z,ByteArray.size]⟩ HI8'.out HR7'.out HN.out).mono ?_;rintro e w5 ⟨rfl,hb5⟩;have HT5:Hid (T6At w5 w2.heap.size ⟨false,c,tx,xh,xn,st⟩):=HTU.out.below hb5 om_;have HL5:w5.heap[w2.heap.size+1+1]?=some (.cells #[.slice ai is.length ci] 87 (0,0)):=(hb5.block _ om_).trans HLU.out;have HL5':Hid (w5.heap[w2.heap.size+1+1]?=some (.cells #[.slice ai is.length ci] 87 (0,0))):=HL5;have HO5:Hid (w5.ownsRow (w2.heap.size+1) 27 2 (.slice a7 0 cx7) 0 []):=ownsRow_below HOU.out hb5;have HI5:Hid (w5.ownsRow (w2.heap.size+1) 92 3 (.slice ai is.length ci) is.length (insCells is)):=ownsRow_below HIU.out hb5;have HB5:Hid (Below (w.heap.size+3) (WS m w) w5):=HBU.out.trans (hb5.mono om_);have hz5:U.heap.size<=w5.heap.size:=hb5.size;clear hb5 HL5
 go_wp2_with (refine wp_turn rfl _ _ rfl w2.heap.size rfl ⟨o',c',tx',hh',n',st'⟩ _ rfl HT5.out rfl ?_;intro u' hT' hB' hK')
 have HT6:Hid (T6At u' w2.heap.size ⟨o',c',tx',hh',n',st'⟩):=hT';have hbl:∀ (k:Nat) (x:Array Value) (t:TypeId),w5.heap[k]?=some (.cells x t (0,0))->t≠29->u'.heap[k]?=some (.cells x t (0,0)):=fun k x t h1 ht=>(hK' k (blk_ne h1 HT5.out ht)).trans h1;have HL6:Hid (u'.heap[w2.heap.size+1+1]?=some (.cells #[.slice ai is.length ci] 87 (0,0))):=hbl _ _ _ HL5'.out dc_;have HO6:Hid (u'.ownsRow (w2.heap.size+1) 27 2 (.slice a7 0 cx7) 0 []):=ownsRow_keep HO5.out fun k hk=>by
  obtain ⟨_,cur,hc⟩:=own_block HO5.out hk;rw [hbl _ _ _ hc dc_,hc]
 have HI6:Hid (u'.ownsRow (w2.heap.size+1) 92 3 (.slice ai is.length ci) is.length (insCells is)):=ownsRow_keep HI5.out fun k hk=>by
  obtain ⟨_,cur,hc⟩:=own_block HI5.out hk;rw [hbl _ _ _ hc dc_,hc]
 have HB6:Hid (Below (w.heap.size+3) (WS m w) u'):=HB5.out.trans (hB' _ om_);have hz6:w5.heap.size<=u'.heap.size:=(hB' 0 om_).size;clear hT' hB' hK' hbl;go_roundw
 case rel=>exact ⟨1,⟨o',c',tx',hh',n',st'⟩,⟨true,is,[]⟩,.slice ai is.length ci,rfl,om_,HG',HT6,HL6,HO6,(fun _=>HI6.out),HS6,by show 0<=1;omega,.inr ⟨om_,fun _=>rfl⟩,HB6,om_⟩
 case measure=>simp [intOf];omega
theorem goL_bad {tl ar:ByteArray} (ls:List M.L4):∀ (t:TN) (s:RS),(∃ i,i<ls.length/\¬ M.LkOk (ls.getD i M.l4z))->goL tl ar t s ls=zeroT:=by
 induction ls with
 | nil=>rintro t s ⟨i,h,_⟩;exact absurd h (Nat.not_lt_zero _)
 | cons x xs ih=>
  rintro t s ⟨i,hi,hb⟩;by_cases hh:Halt t x
  · exact goL_halt hh
  rw [goL_go hh]
  cases i with
  | zero=>exact absurd (.inr (.inr (.inr hb))) hh
  | succ i=>exact ih _ _ ⟨i,by simpa using hi,hb⟩
theorem c26n (m:M3) (a:Option Addr) (cap:Nat) (ls:List M.L4) (w:World) (hm:m.le 1048576) (hno:okM m=false\/¬ M.LksOk ls) (hl:ls.length<=1048576) (hs:∀ i,(ls.getD i M.l4z).le 1048576) (hat:M.LksAt w a ls):
 Calls prog 26 #[.agg #[.string m.nm,.string m.tl,.string m.ar],.slice a ls.length cap] w fun e w'=>e=.returned zeroT.v/\Below w.heap.size w w':=by
 have hml:m.le 1048700:=⟨by have:=hm.1;omega,by have:=hm.2.1;omega,by have:=hm.2.2;omega⟩;have HAT:Hid (M.LksAt w a ls):=hat;have HNO:Hid (okM m=false\/¬ M.LksOk ls):=hno;clear hat hno;have HW:Hid (WS m w=(((w.alloc (.cells #[.string m.nm,.string m.tl,.string m.ar] 24)).alloc (.cells #[.bool false,.int .i64 0,.string ⟨#[]⟩,.bool false,.string ⟨#[]⟩,.int .i64 0] 29)).alloc (.cells #[.bool false,.int .i64 0,.string ⟨#[]⟩,.bool false,.string ⟨#[]⟩,.int .i64 0] 29))):=rfl;rcases hk:okM m with _ | _
 · go_enter func26,ntmps26
   go_wp2_with fail
   rw [<- HW.out];refine (c55v hk _ hml).mono ?_;rintro e w1 ⟨rfl,hb1⟩;have HBa:Hid (Below (w.heap.size+3) (WS m w) w1):=hb1.mono (by rw [WS_size];omega);clear hb1
   go_wp2_with (first | (refine wp_loadT rfl (.tmp 5) rfl (w.heap.size+1+1) rfl zeroT (WS_n HBa.out) ?_) | (refine wp_turn rfl (.tmp 4) _ rfl (w.heap.size+1) rfl zeroT zeroT rfl (WS_z HBa.out) rfl ?_;intro u' hT' hB' _))
   refine bodyPost_ret (v:=zeroT.v) (M.results_blk (P:=prog) (ty:=29) rfl _ _ (w.heap.size+1) _ _ rfl hT'.blk underlying29 rfl kr_) rfl ⟨rfl,?_⟩;exact ((WS_below m w).trans (HBa.out.mono om_)).trans (hB' _ om_)
 go_enter func26,ntmps26
 go_wp2_with fail
 rw [<- HW.out];refine (c55v hk _ hml).mono ?_;rintro e w1 ⟨rfl,hb1⟩;have HB1:Hid (Below (w.heap.size+3) (WS m w) w1):=hb1.mono (by rw [WS_size];omega);have hz1:w.heap.size+3<=w1.heap.size:=by have:=hb1.size;rw [WS_size] at this;exact this
 have hBw1:Below w.heap.size w w1:=(WS_below m w).trans (HB1.out.mono om_);clear hb1
 go_wp2_with fail
 refine (M.c56 a cap ls w1 hl hs (M.lks_below HAT.out hBw1)).mono ?_;rintro e w2 ⟨⟨r,rfl,hr⟩,hb2⟩;have hrt:r=false:=by
  rcases HNO.out with h | h
  · rw [hk] at h;cases h
  cases r
  · rfl
  exact absurd (hr.1 rfl) h
 subst hrt;have HBa:Hid (Below (w.heap.size+3) (WS m w) w2):=HB1.out.trans (hb2.mono om_);clear hb2 hBw1 HB1 hr
 go_wp2_with (first | (refine wp_loadT rfl (.tmp 5) rfl (w.heap.size+1+1) rfl zeroT (WS_n HBa.out) ?_) | (refine wp_turn rfl (.tmp 4) _ rfl (w.heap.size+1) rfl zeroT zeroT rfl (WS_z HBa.out) rfl ?_;intro u' hT' hB' _))
 refine bodyPost_ret (v:=zeroT.v) (M.results_blk (P:=prog) (ty:=29) rfl _ _ (w.heap.size+1) _ _ rfl hT'.blk underlying29 rfl kr_) rfl ⟨rfl,?_⟩;exact ((WS_below m w).trans (HBa.out.mono om_)).trans (hB' _ om_)
theorem c26 (m:M3) (a:Option Addr) (cap:Nat) (ls:List M.L4) (w:World) (hm:m.le 1048576) (hl:ls.length<=1048576) (hs:∀ i,(ls.getD i M.l4z).le 1048576) (hat:M.LksAt w a ls):
 Calls prog 26 #[.agg #[.string m.nm,.string m.tl,.string m.ar],.slice a ls.length cap] w fun e w'=>e=.returned (goT m ls).v/\Below w.heap.size w w':=by
 by_cases hk:okM m=true;rotate_left
 · have hk':okM m=false:=by simpa using hk
   rw [goT_no (.inl hk')];exact c26n m a cap ls w hm (.inl hk') hl hs hat
 by_cases h15:ls.length<=15;rotate_left
 · rw [goT_no (.inr om_)]
   exact c26n m a cap ls w hm (.inr fun h=>h15 h.1) hl hs hat
 rw [goT_yes hk h15];by_cases hok:M.LksOk ls
 · exact c26y m a cap ls w hm hk hok hs hat
 have hb:∃ i,i<ls.length/\¬ M.LkOk (ls.getD i M.l4z):=by
  apply Classical.byContradiction;intro h;exact hok ⟨h15,fun i hi=>Classical.byContradiction fun h'=>h ⟨i,hi,h'⟩⟩
 rw [goL_bad ls _ _ hb];exact c26n m a cap ls w hm (.inr hok) hl hs hat
open G (plF IsPT)
open G.T (F2 f2z treeOk FilesAt)
def LvAt (w:World) (x:W8):Prop:=∃ a c,x.lv=.slice a x.ls.length c/\M.LksAt w a x.ls/\(∀ k,x.lv.ownBlock=some k->k<w.heap.size)/\x.ls.length<=c
theorem row_cap {w:World} {base:Nat} {e:TypeId} {size n m c:Nat} {a:Option Addr} {xs:List Value} (h:w.ownsRow base e size (.slice a m c) n xs):n<=c:=by
 rcases h.2 with ⟨hv,h0⟩ | ⟨g,cap,cur,hv,_,_,hnc,_⟩
 · omega
 injection hv with _ _ hv;omega
theorem LvAt.below {w w':World} {x:W8} (h:LvAt w x) (hb:Below w.heap.size w w'):LvAt w' x:=by
 obtain ⟨a,c,h1,h2,h3⟩:=h;exact ⟨a,c,h1,M.lks_below h2 hb,fun k e=>Nat.lt_of_lt_of_le (h3.1 k e) hb.size,h3.2⟩
structure WOk (E:Env) (y:W8):Prop where
 mem:y.m∈E.ms
 his:Hist E y.m y.ls
 ov:y.ov=true->(tn y.m y.ls).over=true/\(⟨y.cd,y.tx⟩:R2)=resOf (tn y.m y.ls)
 wt:y.ov=true->y.wt=⟨#[]⟩
structure StepTo (E:Env) (kn:ByteArray->R2×Bool) (x y:W8):Prop where
 m:y.m=x.m
 ok:WOk E y
 pre:x.ls <+:y.ls
 ovd:x.ov=true->y=x
 blk:y.ov=false->(tn y.m y.ls).over=false/\(tn y.m y.ls).has=false/\(kn (tn y.m y.ls).name).2=false/\y.wt=(tn y.m y.ls).name
theorem w8_one (x:W8) (h:x.lv.oneCell'=true):∀ v∈x.vs,v.oneCell'=true:=by
 intro v hv;simp only [W8.vs,List.mem_cons,List.not_mem_nil,or_false] at hv;rcases hv with rfl | rfl | rfl | rfl | rfl | rfl | rfl | rfl
 all_goals first | rfl | exact h
theorem putL_all {xs vs:List Value} (h:vs.length=xs.length):putL xs 0 vs=vs:=by
 unfold putL;rw [List.take_zero,Nat.zero_add,h,List.drop_length];simp
theorem wp_ld8 {ops:Array Oper} {rest:List Oper} {o:Oper} {a:Act} {u:World} {Q:Exit->Act->World->Prop} (hgd:o.guard=none) (x:Operand) (ho:o.op=.load 119 x) (B:Nat) (hx:a.eval x=.pointer (some ⟨B,0,none⟩)) (vs:List Value) (hB:Cl u B 119 vs) (hl:vs.length=8)
 (h:wpList prog ops Q rest (a.put o.dst (.agg vs.toArray)) u):wpList prog ops Q (o::rest) a u:=
 wl_val hgd (ex_ldN 119 x ho hx (fun i v e=>by rw [Nat.zero_add];exact (hB.cell i).trans e) underlying119 rfl (by rw [hl];kernel_rfl)) h
theorem wp_st8 {ops:Array Oper} {rest:List Oper} {o:Oper} {a:Act} {u:World} {Q:Exit->Act->World->Prop} (hgd:o.guard=none) (x y:Operand) (ho:o.op=.store 119 x y) (B:Nat) (hx:a.eval x=.pointer (some ⟨B,0,none⟩)) (vs xs:List Value) (hy:a.eval y=.agg vs.toArray) (hB:Cl u B 119 xs) (hl:vs.length=8) (hxl:xs.length=8) (h1:∀ v∈vs,v.oneCell'=true) (hd:o.dst=none)
 (h:∀ u',Cl u' B 119 vs->OnB B u u'->wpList prog ops Q rest a u'):wpList prog ops Q (o::rest) a u:=
 wl_stN hgd 119 x y ho hx hy hB om_ h1 (by rw [hl];kernel_rfl) (fun w' k1 k2=>by rw [putL_all om_] at k1;rw [hd];exact h w' k1 k2)
theorem results_blk_tmp {P:Program} {fn:Func} {p q:Tmp} {ty:TypeId} (h:fn.results=#[.cell p ty,.tmp q]) (tmps:Array Value) (w:World) (B:Nat) (cs:List Value) (d:TypeDesc) (hp:tmps.getD p undef=.pointer (some ⟨B,0,none⟩)) (hc:M.BlkAt w B cs) (hu:P.underlying ty=some d) (hd:(match d with | .struct _ | .array _ _=>true | _=>false)=true) (hi:(P.info? ty).map (·.size)=some cs.length):
 (results fn tmps).run P w=.ok (.tuple #[.agg cs.toArray,tmps.getD q undef]) w:=by
 have hp':tmps[p]?.getD undef=.pointer (some ⟨B,0,none⟩):=by simpa using hp
 simp [results,h,hp',asAddr,M.run_loadVar_blk w B ty cs d hc hu hd hi]
def z8:List Value:=[.string ⟨#[]⟩,.string ⟨#[]⟩,.string ⟨#[]⟩,.slice none 0 0,.bool false,.int .i64 0,.string ⟨#[]⟩,.string ⟨#[]⟩]
theorem LvAt.src {w u:World} {y:W8} (h:LvAt w y) (hb:Below w.heap.size w u):Src u y.lv 4 y.ls.length (lkCells y.ls):=by
 obtain ⟨a,c,h1,h2,_⟩:=h;have h3:=M.lks_below h2 hb
 cases a with
 | none=>
  have:y.ls=[]:=by
   rcases h3 with h3 | ⟨b,off,h,_⟩
   · exact h3
   cases h
  rw [h1,this];exact .inl ⟨⟨c,rfl⟩,rfl,rfl⟩
 | some ad=>exact .inr ⟨ad,c,h1,lkCells_len _,lks_cellsAt h3⟩
theorem row_ge {w:World} {base:Nat} {e:TypeId} {size n m:Nat} {xs:List Value} {g c:Nat} (h:w.ownsRow base e size (.slice (some ⟨g,0,none⟩) n c) m xs):base<=g:=(h.lt g rfl).1
theorem r15 (B5 B8:Nat) (y:W8) (kh:Bool) (kn:ByteArray) (kc:Int) (kt:ByteArray) (w:World) (u0 u1 u2 u3 u4 u6 u7 u9 u10 u11 u12 u13 u14 u15 u16 u17 u18 u19 u20 u21 u22 u23 u24 u25 u26 u27 u28 u29 u30 u31 u32 u33 u34 u35 u36 u37 u38 u39 u40 u41 u42 u43 u44 u45 u46 u47 u48 u49 u50 u51 u52 u53 u54 u55 u56 u57 u58 u59 u60:Value) {Q:Exit->Act->World->Prop} (hQ:∀ c (a:Act) (d:Option Tmp) (v:Value) w,Q (.panic c) (a.put d v) w->Q (.panic c) a w) (C5:Hid (Cl w B5 119 y.vs)) (C8:Hid (Cl w B8 74 [.bool kh,.string kn,.int .i64 kc,.string kt])) (LV:Hid (LvAt w y)) (hl:y.ls.length<=15)
 (hKK:∀ (t52 t53 t54 t55 t56 t57 t58 t59 lv':Value) (w':World),Cl w' B5 119 (y.vs.set 3 lv')->LvAt w' { y with lv:=lv',ls:=y.ls++[⟨kh,kn,kc,kt⟩] }->(∀ k,lv'.ownBlock=some k->w.heap.size<=k)->Ex (fun k=>k=B5) w w'->Q .normal { tmps:=#[u0,u1,u2,u3,u4,.pointer (some ⟨B5,0,none⟩),u6,u7,.pointer (some ⟨B8,0,none⟩),u9,u10,u11,u12,u13,u14,u15,u16,u17,u18,u19,u20,u21,u22,u23,u24,u25,u26,u27,u28,u29,u30,u31,u32,u33,u34,u35,u36,u37,u38,u39,u40,u41,u42,u43,u44,u45,u46,u47,u48,u49,u50,u51,t52,t53,t54,t55,t56,t57,t58,t59,u60],defers:=[] } w'):
 (Code.region 15 #[⟨some 52,.buildSlice 25 0 #[],25, "l4_want.go:87",#[],none⟩,⟨some 53,.fieldAddr 119 (.tmp 5) 1,0, "l4_want.go:87",#[],none⟩,⟨some 54,.load 25 (.tmp 53),25, "l4_want.go:87",#[⟨1,.data⟩],none⟩,⟨some 55,.call ⟨.builtin .append,#[.tmp 52,.tmp 54],#[25,25]⟩,25, "l4_want.go:87",#[⟨0,.data⟩,⟨2,.data⟩],none⟩,⟨some 56,.load 74 (.tmp 8),74, "l4_want.go:87",#[],none⟩,⟨some 57,.buildSlice 25 1 #[(0,.tmp 56)],25, "l4_want.go:87",#[⟨4,.data⟩],none⟩,⟨some 58,.call ⟨.builtin .append,#[.tmp 55,.tmp 57],#[25,25]⟩,25, "l4_want.go:87",#[⟨3,.data⟩,⟨5,.data⟩,⟨3,.chain⟩],none⟩,⟨some 59,.fieldAddr 119 (.tmp 5) 1,0, "l4_want.go:87",#[⟨0,.phase⟩,⟨1,.phase⟩,⟨2,.phase⟩,⟨3,.phase⟩,⟨4,.phase⟩,⟨5,.phase⟩,⟨6,.phase⟩],none⟩,⟨none,.store 25 (.tmp 59) (.tmp 58),0, "l4_want.go:87",#[⟨7,.data⟩,⟨6,.data⟩,⟨6,.chain⟩,⟨0,.phase⟩,⟨1,.phase⟩,⟨2,.phase⟩,⟨3,.phase⟩,⟨4,.phase⟩,⟨5,.phase⟩,⟨6,.phase⟩],none⟩] true).wp prog Q { tmps:=#[u0,u1,u2,u3,u4,.pointer (some ⟨B5,0,none⟩),u6,u7,.pointer (some ⟨B8,0,none⟩),u9,u10,u11,u12,u13,u14,u15,u16,u17,u18,u19,u20,u21,u22,u23,u24,u25,u26,u27,u28,u29,u30,u31,u32,u33,u34,u35,u36,u37,u38,u39,u40,u41,u42,u43,u44,u45,u46,u47,u48,u49,u50,u51,u52,u53,u54,u55,u56,u57,u58,u59,u60],defers:=[] } w:=by
 refine wp_region_L (S:=fun u=>Cl u B5 119 y.vs/\Cl u B8 74 [.bool kh,.string kn,.int .i64 kc,.string kt]) 8 kr_ ?_ fun hH=>?_
 · exact ⟨C5.out,C8.out⟩
 have DX:True:=trivial;obtain ⟨x0,hx0⟩:∃ x:World,x=w.drew:=⟨_,rfl⟩;rw [<- hx0] at hH ⊢;have Lx0:Below w.heap.size w x0:=by rw [hx0];exact (Below.refl _ w).drew
 have Dx0:Hid (Cl x0 B5 119 y.vs):=hI_ hH.1;have Fx0:Hid (Cl x0 B8 74 [.bool kh,.string kn,.int .i64 kc,.string kt]):=hI_ hH.2;have hB5:Hid (B5<w.heap.size):=hI_ C5.out.lt;have hB8:Hid (B8<w.heap.size):=hI_ C8.out.lt;clear hx0;refine lq 1 hH ?_
 try simp only [qq]
 refine lq 2 hH ?_ (v:=?_) (hv:=?e)
 case e=>intro wq hSw;(try dsimp only at hSw);have s3:wq.cell? ⟨B5,3,none⟩=some y.lv:=hSw.1.cell 3;have s0:wq.cell? ⟨B8,0,none⟩=some (.bool kh):=hSw.2.cell 0;have s1:wq.cell? ⟨B8,1,none⟩=some (.string kn):=hSw.2.cell 1;have s2:wq.cell? ⟨B8,2,none⟩=some (.int .i64 kc):=hSw.2.cell 2;have s4:wq.cell? ⟨B8,3,none⟩=some (.string kt):=hSw.2.cell 3;go_simp;try with_reducible rfl
 try simp only [qq]
 refine lq 4 hH ?_ (v:=?_) (hv:=?e)
 case e=>intro wq hSw;(try dsimp only at hSw);have s3:wq.cell? ⟨B5,3,none⟩=some y.lv:=hSw.1.cell 3;have s0:wq.cell? ⟨B8,0,none⟩=some (.bool kh):=hSw.2.cell 0;have s1:wq.cell? ⟨B8,1,none⟩=some (.string kn):=hSw.2.cell 1;have s2:wq.cell? ⟨B8,2,none⟩=some (.int .i64 kc):=hSw.2.cell 2;have s4:wq.cell? ⟨B8,3,none⟩=some (.string kt):=hSw.2.cell 3;go_simp;try with_reducible rfl
 try simp only [qq]
 refine wpL_ready (rs:=[0,5]) kr_ sm_ (AllReadyL.cons dc_ (o:=⟨some 52,.buildSlice 25 0 #[],25,_,_,none⟩) rfl (fun K hK=>?_) (AllReadyL.cons dc_ (o:=⟨some 57,.buildSlice 25 1 #[(0,.tmp 56)],25,_,_,none⟩) rfl (fun K hK=>?_) AllReadyL.nil))
 · go_simp
   obtain ⟨x1,hx1⟩:∃ x:World,x=x0.alloc (.cells #[] 74):=⟨_,rfl⟩;rw [<- hx1];have Bx0x1:Below x0.heap.size x0 x1:=by rw [hx1];exact bA
   have R1x1:Hid (x1.ownsRow w.heap.size 74 4 (.slice (some ⟨x0.heap.size,0,none⟩) 0 0) 0 []):=by show World.ownsRow _ _ _ _ _ _ _;rw [hx1];exact World.ownsRow_made x0 #[] 0 Lx0.size (Nat.zero_le _) rfl
   have Dx1:Hid (Cl x1 B5 119 y.vs):=hI_ ((Bx0x1.block B5 Dx0.out.lt).trans Dx0.out);have Fx1:Hid (Cl x1 B8 74 [.bool kh,.string kn,.int .i64 kc,.string kt]):=hI_ ((Bx0x1.block B8 Fx0.out.lt).trans Fx0.out);have Lx1:Below w.heap.size w x1:=bT Lx0 Bx0x1;have znx1:Hid (x0.heap.size<x1.heap.size):=by show _<_;rw [hx1];simp
   clear hx1;clear hH;refine hK.out _ _ ?_ fun hH=>?_
   · exact ⟨Dx1.out,Fx1.out⟩
   clear hK K
   try simp only [qq]
   refine wpL_ready (rs:=[3,5]) kr_ sm_ (AllReadyL.cons dc_ (o:=⟨some 55,.call ⟨.builtin .append,#[.tmp 52,.tmp 54],#[25,25]⟩,25,_,_,none⟩) rfl (fun K hK=>?_) (AllReadyL.cons dc_ (o:=⟨some 57,.buildSlice 25 1 #[(0,.tmp 56)],25,_,_,none⟩) rfl (fun K hK=>?_) AllReadyL.nil))
   · refine st_app rfl _ _ 25 rfl w.heap.size 74 4 underlying25 inf74 dc_ (.slice (some ⟨x0.heap.size,0,none⟩) 0 0) 0 [] rfl R1x1.out y.lv y.ls.length (lkCells y.ls) rfl (LV.out.src Lx1) (lkCells_one _) om_ Lx1.size ?_
     intro v3 x2 O3 (g3:x1.grownBy x2 (some x0.heap.size)) at3;have R3x2:Hid (x2.ownsRow w.heap.size 74 4 v3 y.ls.length (lkCells y.ls)):=by have:=O3;rw [Nat.zero_add,List.nil_append] at this;exact this
     have Lx2:Below w.heap.size w x2:=⟨g3.os.trans Lx1.os,g3.tape.trans Lx1.tape,g3.output.trans Lx1.output,Nat.le_trans Lx1.size g3.size,fun k hk=>(g3.block k (by have:=Lx1.size;omega) (fun e=>by have e:=Option.some.inj e;have:=row_ge R1x1.out;omega)).trans (Lx1.block k hk)⟩;have Dx2:Hid (Cl x2 B5 119 y.vs):=hI_ ((g3.block B5 Dx1.out.lt (fun e=>by have e:=Option.some.inj e;have:=row_ge R1x1.out;have:=hB5.out;omega)).trans Dx1.out);have Fx2:Hid (Cl x2 B8 74 [.bool kh,.string kn,.int .i64 kc,.string kt]):=hI_ ((g3.block B8 Fx1.out.lt (fun e=>by have e:=Option.some.inj e;have:=row_ge R1x1.out;have:=hB8.out;omega)).trans Fx1.out);clear O3;clear hH;refine hK.out _ _ ?_ fun hH=>?_
     · exact ⟨Dx2.out,Fx2.out⟩
     clear hK K
     try simp only [qq]
     refine lr (i:=5) (o:=⟨some 57,.buildSlice 25 1 #[(0,.tmp 56)],25,_,_,none⟩) rfl dc_ kr_ fun K hK=>?_;go_simp;obtain ⟨x3,hx3⟩:∃ x:World,x=x2.alloc (.cells #[.bool kh,.string kn,.int .i64 kc,.string kt] 74):=⟨_,rfl⟩;rw [<- hx3];have Bx2x3:Below x2.heap.size x2 x3:=by rw [hx3];exact bA
     have Gx3':Hid (Cl x3 x2.heap.size 74 [.bool kh,.string kn,.int .i64 kc,.string kt]):=by show Cl _ _ _ _;rw [hx3];exact cl_new x2 _ 74
     have Dx3:Hid (Cl x3 B5 119 y.vs):=hI_ ((Bx2x3.block B5 Dx2.out.lt).trans Dx2.out);have Fx3:Hid (Cl x3 B8 74 [.bool kh,.string kn,.int .i64 kc,.string kt]):=hI_ ((Bx2x3.block B8 Fx2.out.lt).trans Fx2.out);have Lx3:Below w.heap.size w x3:=bT Lx2 Bx2x3;have R3x3:=hI_ (ownsRow_below R3x2.out Bx2x3);have hlx3:w.heap.size<=x2.heap.size:=Lx2.size;have hnex3:Hid (∀ k,k<x2.heap.size->k≠x2.heap.size):=fun k h=>om_;have Gx3:=Gx3';clear hx3;clear hH;refine hK.out _ _ ?_ fun hH=>?_
     · exact ⟨Dx3.out,Fx3.out⟩
     clear hK K
     try simp only [qq]
     refine lr (i:=6) (o:=⟨some 58,.call ⟨.builtin .append,#[.tmp 55,.tmp 57],#[25,25]⟩,25,_,_,none⟩) rfl dc_ kr_ fun K hK=>?_;refine st_app rfl _ _ 25 rfl w.heap.size 74 4 underlying25 inf74 dc_ v3 y.ls.length (lkCells y.ls) rfl R3x3.out (.slice (some ⟨x2.heap.size,0,none⟩) 1 1) 1 [.bool kh,.string kn,.int .i64 kc,.string kt] rfl (.inr ⟨⟨x2.heap.size,0,none⟩,1,rfl,rfl,cl_row Gx3.out⟩) (by intro u hu;simp at hu;rcases hu with rfl | rfl | rfl | rfl <;> rfl) om_ Lx3.size ?_;intro v6 x4 O6 g6 at6;have hge:∀ k,v3.ownBlock=some k->w.heap.size<=k:=fun k e=>(R3x3.out.lt k e).1;have Lx4:Below w.heap.size w x4:=⟨g6.os.trans Lx3.os,g6.tape.trans Lx3.tape,g6.output.trans Lx3.output,Nat.le_trans Lx3.size g6.size,fun k hk=>(g6.block k (by have:=Lx3.size;omega) (fun e=>by have:=hge k e.symm;omega)).trans (Lx3.block k hk)⟩;have Dx4:Hid (Cl x4 B5 119 y.vs):=hI_ ((g6.block B5 Dx3.out.lt (fun e=>by have:=hge _ e.symm;have:=hB5.out;omega)).trans Dx3.out);have Fx4:Hid (Cl x4 B8 74 [.bool kh,.string kn,.int .i64 kc,.string kt]):=hI_ ((g6.block B8 Fx3.out.lt (fun e=>by have:=hge _ e.symm;have:=hB8.out;omega)).trans Fx3.out);have R6:Hid (x4.ownsRow w.heap.size 74 4 v6 (y.ls++[(⟨kh,kn,kc,kt⟩:M.L4)]).length (lkCells (y.ls++[⟨kh,kn,kc,kt⟩]))):=by show World.ownsRow _ _ _ _ _ _ _;rw [lkCells_snoc,List.length_append];exact O6
     clear O6 hge;clear hH;refine hK.out _ _ ?_ fun hH=>?_
     · exact ⟨Dx4.out,Fx4.out⟩
     clear hK K
     try simp only [qq]
     refine lq 7 hH ?_
     try simp only [qq]
     refine lz (o:=⟨none,.store 25 (.tmp 59) (.tmp 58),0,_,_,none⟩) rfl kr_ fun K hK=>?_;have z3:x4.cell? ⟨B5,3,none⟩=some y.lv:=Dx4.out.cell 3;have zf:x4.frozen? ⟨B5,3,none⟩=false:=Dx4.out.opn 3;obtain ⟨a6,c1806,e6,k6⟩:=row_lks R6.out;subst e6;go_simp;clear hH;refine hK.out _ _ ?_;clear hK K
     try simp only [qq]
     refine wpL_done kr_ ?_ _;refine hKK _ _ _ _ _ _ _ _ (.slice a6 (y.ls.length+1) c1806) _ (Dx4.out.set 3 _) ⟨a6,c1806,sm_,M.lks_set k6 (fun b off e hne=>?_),fun k e=>?_,row_cap R6.out⟩ (fun k e=>?_) ?_
     · subst e
       have hge:=(R6.out.lt b rfl).1;have:=hB5.out;show B5≠b;omega
     · cases a6 with
       | none=>cases e
       | some ad=>have:=(R6.out.lt k e).2;simpa using this
     · cases a6 with
       | none=>cases e
       | some ad=>exact (R6.out.lt k e).1
     exact ⟨Lx4.os,Lx4.tape,Lx4.output,by simpa using Lx4.size,fun k hk hn=>(heap_setCell_other _ _ _ _ hn).trans (Lx4.block k hk)⟩
   go_simp;obtain ⟨x2,hx2⟩:∃ x:World,x=x1.alloc (.cells #[.bool kh,.string kn,.int .i64 kc,.string kt] 74):=⟨_,rfl⟩;rw [<- hx2];have Bx1x2:Below x1.heap.size x1 x2:=by rw [hx2];exact bA
   have Gx2':Hid (Cl x2 x1.heap.size 74 [.bool kh,.string kn,.int .i64 kc,.string kt]):=by show Cl _ _ _ _;rw [hx2];exact cl_new x1 _ 74
   have Dx2:Hid (Cl x2 B5 119 y.vs):=hI_ ((Bx1x2.block B5 Dx1.out.lt).trans Dx1.out);have Fx2:Hid (Cl x2 B8 74 [.bool kh,.string kn,.int .i64 kc,.string kt]):=hI_ ((Bx1x2.block B8 Fx1.out.lt).trans Fx1.out);have Lx2:Below w.heap.size w x2:=bT Lx1 Bx1x2;have R1x2:=hI_ (ownsRow_below R1x1.out Bx1x2);have hlx2:w.heap.size<=x1.heap.size:=Lx1.size;have hnex2:Hid (∀ k,k<x1.heap.size->k≠x1.heap.size):=fun k h=>om_;have Gx2:=Gx2';clear hx2;clear hH;refine hK.out _ _ ?_ fun hH=>?_
   · exact ⟨Dx2.out,Fx2.out⟩
   clear hK K
   try simp only [qq]
   refine lr (i:=3) (o:=⟨some 55,.call ⟨.builtin .append,#[.tmp 52,.tmp 54],#[25,25]⟩,25,_,_,none⟩) rfl dc_ kr_ fun K hK=>?_;refine st_app rfl _ _ 25 rfl w.heap.size 74 4 underlying25 inf74 dc_ (.slice (some ⟨x0.heap.size,0,none⟩) 0 0) 0 [] rfl R1x2.out y.lv y.ls.length (lkCells y.ls) rfl (LV.out.src Lx2) (lkCells_one _) om_ Lx2.size ?_;intro v3 x3 O3 (g3:x2.grownBy x3 (some x0.heap.size)) at3;have R3x3:Hid (x3.ownsRow w.heap.size 74 4 v3 y.ls.length (lkCells y.ls)):=by have:=O3;rw [Nat.zero_add,List.nil_append] at this;exact this
   have Lx3:Below w.heap.size w x3:=⟨g3.os.trans Lx2.os,g3.tape.trans Lx2.tape,g3.output.trans Lx2.output,Nat.le_trans Lx2.size g3.size,fun k hk=>(g3.block k (by have:=Lx2.size;omega) (fun e=>by have e:=Option.some.inj e;have:=row_ge R1x2.out;omega)).trans (Lx2.block k hk)⟩;have Dx3:Hid (Cl x3 B5 119 y.vs):=hI_ ((g3.block B5 Dx2.out.lt (fun e=>by have e:=Option.some.inj e;have:=row_ge R1x2.out;have:=hB5.out;omega)).trans Dx2.out);have Fx3:Hid (Cl x3 B8 74 [.bool kh,.string kn,.int .i64 kc,.string kt]):=hI_ ((g3.block B8 Fx2.out.lt (fun e=>by have e:=Option.some.inj e;have:=row_ge R1x2.out;have:=hB8.out;omega)).trans Fx2.out);have Gx3:Hid (Cl x3 x1.heap.size 74 [.bool kh,.string kn,.int .i64 kc,.string kt]):=hI_ ((g3.block x1.heap.size Gx2.out.lt (fun e=>by have e:=Option.some.inj e;have:=znx1.out;omega)).trans Gx2.out);clear O3;clear hH;refine hK.out _ _ ?_ fun hH=>?_
   · exact ⟨Dx3.out,Fx3.out⟩
   clear hK K
   try simp only [qq]
   refine lr (i:=6) (o:=⟨some 58,.call ⟨.builtin .append,#[.tmp 55,.tmp 57],#[25,25]⟩,25,_,_,none⟩) rfl dc_ kr_ fun K hK=>?_;refine st_app rfl _ _ 25 rfl w.heap.size 74 4 underlying25 inf74 dc_ v3 y.ls.length (lkCells y.ls) rfl R3x3.out (.slice (some ⟨x1.heap.size,0,none⟩) 1 1) 1 [.bool kh,.string kn,.int .i64 kc,.string kt] rfl (.inr ⟨⟨x1.heap.size,0,none⟩,1,rfl,rfl,cl_row Gx3.out⟩) (by intro u hu;simp at hu;rcases hu with rfl | rfl | rfl | rfl <;> rfl) om_ Lx3.size ?_;intro v6 x4 O6 g6 at6;have hge:∀ k,v3.ownBlock=some k->w.heap.size<=k:=fun k e=>(R3x3.out.lt k e).1;have Lx4:Below w.heap.size w x4:=⟨g6.os.trans Lx3.os,g6.tape.trans Lx3.tape,g6.output.trans Lx3.output,Nat.le_trans Lx3.size g6.size,fun k hk=>(g6.block k (by have:=Lx3.size;omega) (fun e=>by have:=hge k e.symm;omega)).trans (Lx3.block k hk)⟩;have Dx4:Hid (Cl x4 B5 119 y.vs):=hI_ ((g6.block B5 Dx3.out.lt (fun e=>by have:=hge _ e.symm;have:=hB5.out;omega)).trans Dx3.out);have Fx4:Hid (Cl x4 B8 74 [.bool kh,.string kn,.int .i64 kc,.string kt]):=hI_ ((g6.block B8 Fx3.out.lt (fun e=>by have:=hge _ e.symm;have:=hB8.out;omega)).trans Fx3.out);have R6:Hid (x4.ownsRow w.heap.size 74 4 v6 (y.ls++[(⟨kh,kn,kc,kt⟩:M.L4)]).length (lkCells (y.ls++[⟨kh,kn,kc,kt⟩]))):=by show World.ownsRow _ _ _ _ _ _ _;rw [lkCells_snoc,List.length_append];exact O6
   clear O6 hge;clear hH;refine hK.out _ _ ?_ fun hH=>?_
   · exact ⟨Dx4.out,Fx4.out⟩
   clear hK K
   try simp only [qq]
   refine lq 7 hH ?_
   try simp only [qq]
   refine lz (o:=⟨none,.store 25 (.tmp 59) (.tmp 58),0,_,_,none⟩) rfl kr_ fun K hK=>?_;have z3:x4.cell? ⟨B5,3,none⟩=some y.lv:=Dx4.out.cell 3;have zf:x4.frozen? ⟨B5,3,none⟩=false:=Dx4.out.opn 3;obtain ⟨a6,c1806,e6,k6⟩:=row_lks R6.out;subst e6;go_simp;clear hH;refine hK.out _ _ ?_;clear hK K
   try simp only [qq]
   refine wpL_done kr_ ?_ _;refine hKK _ _ _ _ _ _ _ _ (.slice a6 (y.ls.length+1) c1806) _ (Dx4.out.set 3 _) ⟨a6,c1806,sm_,M.lks_set k6 (fun b off e hne=>?_),fun k e=>?_,row_cap R6.out⟩ (fun k e=>?_) ?_
   · subst e
     have hge:=(R6.out.lt b rfl).1;have:=hB5.out;show B5≠b;omega
   · cases a6 with
     | none=>cases e
     | some ad=>have:=(R6.out.lt k e).2;simpa using this
   · cases a6 with
     | none=>cases e
     | some ad=>exact (R6.out.lt k e).1
   exact ⟨Lx4.os,Lx4.tape,Lx4.output,by simpa using Lx4.size,fun k hk hn=>(heap_setCell_other _ _ _ _ hn).trans (Lx4.block k hk)⟩
 go_simp;obtain ⟨x1,hx1⟩:∃ x:World,x=x0.alloc (.cells #[.bool kh,.string kn,.int .i64 kc,.string kt] 74):=⟨_,rfl⟩;rw [<- hx1];have Bx0x1:Below x0.heap.size x0 x1:=by rw [hx1];exact bA
 have Gx1':Hid (Cl x1 x0.heap.size 74 [.bool kh,.string kn,.int .i64 kc,.string kt]):=by show Cl _ _ _ _;rw [hx1];exact cl_new x0 _ 74
 have Dx1:Hid (Cl x1 B5 119 y.vs):=hI_ ((Bx0x1.block B5 Dx0.out.lt).trans Dx0.out);have Fx1:Hid (Cl x1 B8 74 [.bool kh,.string kn,.int .i64 kc,.string kt]):=hI_ ((Bx0x1.block B8 Fx0.out.lt).trans Fx0.out);have Lx1:Below w.heap.size w x1:=bT Lx0 Bx0x1;have hlx1:w.heap.size<=x0.heap.size:=Lx0.size;have hnex1:Hid (∀ k,k<x0.heap.size->k≠x0.heap.size):=fun k h=>om_;have Gx1:=Gx1';clear hx1;clear hH;refine hK.out _ _ ?_ fun hH=>?_
 · exact ⟨Dx1.out,Fx1.out⟩
 clear hK K
 try simp only [qq]
 refine lr (i:=0) (o:=⟨some 52,.buildSlice 25 0 #[],25,_,_,none⟩) rfl dc_ kr_ fun K hK=>?_;go_simp;obtain ⟨x2,hx2⟩:∃ x:World,x=x1.alloc (.cells #[] 74):=⟨_,rfl⟩;rw [<- hx2];have Bx1x2:Below x1.heap.size x1 x2:=by rw [hx2];exact bA
 have R1x2:Hid (x2.ownsRow w.heap.size 74 4 (.slice (some ⟨x1.heap.size,0,none⟩) 0 0) 0 []):=by show World.ownsRow _ _ _ _ _ _ _;rw [hx2];exact World.ownsRow_made x1 #[] 0 Lx1.size (Nat.zero_le _) rfl
 have Dx2:Hid (Cl x2 B5 119 y.vs):=hI_ ((Bx1x2.block B5 Dx1.out.lt).trans Dx1.out);have Fx2:Hid (Cl x2 B8 74 [.bool kh,.string kn,.int .i64 kc,.string kt]):=hI_ ((Bx1x2.block B8 Fx1.out.lt).trans Fx1.out);have Lx2:Below w.heap.size w x2:=bT Lx1 Bx1x2;have znx2:Hid (x1.heap.size<x2.heap.size):=by show _<_;rw [hx2];simp
 have Gx2:Hid (Cl x2 x0.heap.size 74 [.bool kh,.string kn,.int .i64 kc,.string kt]):=hI_ ((Bx1x2.block _ Gx1.out.lt).trans Gx1.out);clear hx2;clear hH;refine hK.out _ _ ?_ fun hH=>?_
 · exact ⟨Dx2.out,Fx2.out⟩
 clear hK K
 try simp only [qq]
 refine lr (i:=3) (o:=⟨some 55,.call ⟨.builtin .append,#[.tmp 52,.tmp 54],#[25,25]⟩,25,_,_,none⟩) rfl dc_ kr_ fun K hK=>?_;refine st_app rfl _ _ 25 rfl w.heap.size 74 4 underlying25 inf74 dc_ (.slice (some ⟨x1.heap.size,0,none⟩) 0 0) 0 [] rfl R1x2.out y.lv y.ls.length (lkCells y.ls) rfl (LV.out.src Lx2) (lkCells_one _) om_ Lx2.size ?_;intro v3 x3 O3 (g3:x2.grownBy x3 (some x1.heap.size)) at3;have R3x3:Hid (x3.ownsRow w.heap.size 74 4 v3 y.ls.length (lkCells y.ls)):=by have:=O3;rw [Nat.zero_add,List.nil_append] at this;exact this
 have Lx3:Below w.heap.size w x3:=⟨g3.os.trans Lx2.os,g3.tape.trans Lx2.tape,g3.output.trans Lx2.output,Nat.le_trans Lx2.size g3.size,fun k hk=>(g3.block k (by have:=Lx2.size;omega) (fun e=>by have e:=Option.some.inj e;have:=row_ge R1x2.out;omega)).trans (Lx2.block k hk)⟩;have Dx3:Hid (Cl x3 B5 119 y.vs):=hI_ ((g3.block B5 Dx2.out.lt (fun e=>by have e:=Option.some.inj e;have:=row_ge R1x2.out;have:=hB5.out;omega)).trans Dx2.out);have Fx3:Hid (Cl x3 B8 74 [.bool kh,.string kn,.int .i64 kc,.string kt]):=hI_ ((g3.block B8 Fx2.out.lt (fun e=>by have e:=Option.some.inj e;have:=row_ge R1x2.out;have:=hB8.out;omega)).trans Fx2.out);have Gx3:Hid (Cl x3 x0.heap.size 74 [.bool kh,.string kn,.int .i64 kc,.string kt]):=hI_ ((g3.block x0.heap.size Gx2.out.lt (fun e=>by have e:=Option.some.inj e;have:=Gx1.out.lt;omega)).trans Gx2.out);clear O3;clear hH;refine hK.out _ _ ?_ fun hH=>?_
 · exact ⟨Dx3.out,Fx3.out⟩
 clear hK K
 try simp only [qq]
 refine lr (i:=6) (o:=⟨some 58,.call ⟨.builtin .append,#[.tmp 55,.tmp 57],#[25,25]⟩,25,_,_,none⟩) rfl dc_ kr_ fun K hK=>?_;refine st_app rfl _ _ 25 rfl w.heap.size 74 4 underlying25 inf74 dc_ v3 y.ls.length (lkCells y.ls) rfl R3x3.out (.slice (some ⟨x0.heap.size,0,none⟩) 1 1) 1 [.bool kh,.string kn,.int .i64 kc,.string kt] rfl (.inr ⟨⟨x0.heap.size,0,none⟩,1,rfl,rfl,cl_row Gx3.out⟩) (by intro u hu;simp at hu;rcases hu with rfl | rfl | rfl | rfl <;> rfl) om_ Lx3.size ?_;intro v6 x4 O6 g6 at6;have hge:∀ k,v3.ownBlock=some k->w.heap.size<=k:=fun k e=>(R3x3.out.lt k e).1;have Lx4:Below w.heap.size w x4:=⟨g6.os.trans Lx3.os,g6.tape.trans Lx3.tape,g6.output.trans Lx3.output,Nat.le_trans Lx3.size g6.size,fun k hk=>(g6.block k (by have:=Lx3.size;omega) (fun e=>by have:=hge k e.symm;omega)).trans (Lx3.block k hk)⟩;have Dx4:Hid (Cl x4 B5 119 y.vs):=hI_ ((g6.block B5 Dx3.out.lt (fun e=>by have:=hge _ e.symm;have:=hB5.out;omega)).trans Dx3.out);have Fx4:Hid (Cl x4 B8 74 [.bool kh,.string kn,.int .i64 kc,.string kt]):=hI_ ((g6.block B8 Fx3.out.lt (fun e=>by have:=hge _ e.symm;have:=hB8.out;omega)).trans Fx3.out);have R6:Hid (x4.ownsRow w.heap.size 74 4 v6 (y.ls++[(⟨kh,kn,kc,kt⟩:M.L4)]).length (lkCells (y.ls++[⟨kh,kn,kc,kt⟩]))):=by show World.ownsRow _ _ _ _ _ _ _;rw [lkCells_snoc,List.length_append];exact O6
 clear O6 hge;clear hH;refine hK.out _ _ ?_ fun hH=>?_
 · exact ⟨Dx4.out,Fx4.out⟩
 clear hK K
 try simp only [qq]
 refine lq 7 hH ?_
 try simp only [qq]
 refine lz (o:=⟨none,.store 25 (.tmp 59) (.tmp 58),0,_,_,none⟩) rfl kr_ fun K hK=>?_;have z3:x4.cell? ⟨B5,3,none⟩=some y.lv:=Dx4.out.cell 3;have zf:x4.frozen? ⟨B5,3,none⟩=false:=Dx4.out.opn 3;obtain ⟨a6,c1806,e6,k6⟩:=row_lks R6.out;subst e6;go_simp;clear hH;refine hK.out _ _ ?_;clear hK K
 try simp only [qq]
 refine wpL_done kr_ ?_ _;refine hKK _ _ _ _ _ _ _ _ (.slice a6 (y.ls.length+1) c1806) _ (Dx4.out.set 3 _) ⟨a6,c1806,sm_,M.lks_set k6 (fun b off e hne=>?_),fun k e=>?_,row_cap R6.out⟩ (fun k e=>?_) ?_
 · subst e
   have hge:=(R6.out.lt b rfl).1;have:=hB5.out;show B5≠b;omega
 · cases a6 with
   | none=>cases e
   | some ad=>have:=(R6.out.lt k e).2;simpa using this
 · cases a6 with
   | none=>cases e
   | some ad=>exact (R6.out.lt k e).1
 exact ⟨Lx4.os,Lx4.tape,Lx4.output,by simpa using Lx4.size,fun k hk hn=>(heap_setCell_other _ _ _ _ hn).trans (Lx4.block k hk)⟩
theorem ba_len (b:ByteArray):b.data.toList.length=b.size:=rfl
theorem name_le {b:ByteArray} (h:nameOk b.data.toList=true):b.size<=20:=by
 unfold nameOk at h;simp only [Bool.and_eq_true,decide_eq_true_eq] at h;have:=h.1.2
 rwa [ba_len] at this
theorem lkOk_le {x:M.L4} (h:M.LkOk x):x.le 1048576:=by
 refine ⟨by have:=name_le h.1;omega,?_⟩;rcases h.2 with ⟨_,⟨_,h'⟩ | ⟨_,h'⟩⟩ | ⟨_,h'⟩
 · rw [h'];exact Nat.zero_le _
 · rw [h'];have:=name_le h.1;omega
 have:=vr_small h';rw [ba_len] at this;omega
theorem okM_small {m:M3} (h:okM m=true):m.le 1048576:=by
 obtain ⟨h1,h2,h3⟩:=okM_parts h;exact ⟨by have:=name_le h1;omega,by have:=name_le h2;omega,om_⟩
theorem hist_le {E:Env} (hE:EnvOk E) {m:M3} {L:List M.L4} (hm:okM m=true) (h:Hist E m L):∀ i,(L.getD i M.l4z).le 1048576:=fun i=>by
 rcases Nat.lt_or_ge i L.length with hi | hi
 · have e:L.getD i M.l4z=L[i]:=by simp [List.getD,List.getElem?_eq_getElem hi]
   rw [e];exact lkOk_le ((hist_ok hE hm h).2 _ (List.getElem_mem hi))
 have e:L.getD i M.l4z=M.l4z:=by simp [List.getD,List.getElem?_eq_none hi]
 rw [e];exact ⟨Nat.zero_le _,Nat.zero_le _⟩
theorem tree_le {fs:List F2} (ht:treeOk fs):∀ i,(fs.getD i f2z).le 1048576:=fun i=>by
 rcases Nat.lt_or_ge i fs.length with hi | hi
 · have:=ht.2 i hi
   unfold G.T.stepOk G.T.fileOk at this;simp only [Bool.and_eq_true,decide_eq_true_eq] at this;have h1:(fs.getD i f2z).nm.size<=20:=name_le this.1.1;exact ⟨om_,by have:=this.1.2;omega⟩
 have e:fs.getD i f2z=f2z:=by simp [List.getD,List.getElem?_eq_none hi]
 rw [e];exact ⟨Nat.zero_le _,Nat.zero_le _⟩
structure B26 (w:World) (tv:Value) (y:W8) (u:World):Prop where
 c3:Cl u w.heap.size 51 [tv]
 c909:Cl u (w.heap.size+1) 119 y.vs
 c1806:Cl u (w.heap.size+2) 119 z8
 lv:LvAt u y
 nb:y.ls≠[]->∀ k,y.lv.ownBlock=some k->k≠w.heap.size+1/\k≠w.heap.size+2
 bl:Below w.heap.size w u
theorem B26.below {w:World} {tv:Value} {y:W8} {u u':World} (h:B26 w tv y u) (hb:Below u.heap.size u u'):B26 w tv y u':=
 ⟨h.c3.below hb h.c3.lt,h.c909.below hb h.c909.lt,h.c1806.below hb h.c1806.lt,h.lv.below hb,h.nb,h.bl.trans (hb.mono h.bl.size)⟩
theorem OnB.trans {B:Nat} {a b c:World} (h:OnB B a b) (k:OnB B b c):OnB B a c:=⟨k.os.trans h.os,k.tape.trans h.tape,k.output.trans h.output,k.size.trans h.size,fun i hi=>(k.block i hi).trans (h.block i hi)⟩
theorem LvAt.onB {u u':World} {y y':W8} {B:Nat} (h:LvAt u y) (ho:OnB B u u') (hn:y.ls≠[]->∀ k,y.lv.ownBlock=some k->k≠B) (e1:y'.lv=y.lv) (e2:y'.ls=y.ls):LvAt u' y':=by
 obtain ⟨a,c,h1,h2,h3⟩:=h;refine ⟨a,c,by rw [e1,e2];exact h1,?_,fun k e=>by rw [e1] at e;rw [ho.size];exact h3.1 k e,by rw [e2];exact h3.2⟩;rw [e2];rcases h2 with h2 | ⟨b,off,ha,hb,hc⟩
 · exact .inl h2
 by_cases hne:y.ls=[]
 · exact .inl hne
 have hB:=hn hne b (by rw [h1,ha];rfl);have e:∀ j,u'.cell? ⟨b,j,none⟩=u.cell? ⟨b,j,none⟩:=fun j=>World.cell?_of_block (ho.block b hB);refine .inr ⟨b,off,ha,by rw [ho.size];exact hb,fun i hi=>?_⟩;rw [e,e,e,e];exact hc i hi
theorem fnd_mem {ws:List W8} {nm:ByteArray} {z:W8} (h:fndW ws nm=some z):z.m.nm=nm/\∃ i,i<ws.length/\ws.getD i w8z=z:=by
 unfold fndW at h;have h1:=List.find?_some h;have h2:=List.mem_of_find?_eq_some h;obtain ⟨i,hi,rfl⟩:=List.getElem_of_mem h2;exact ⟨by simpa using h1,i,hi,by simp [List.getD,List.getElem?_eq_getElem hi]⟩
theorem kn_ans {E:Env} {fs:List F2} {ms:List M3} (hE:E=envOf fs ms) (hEE:EnvOk E) (hp:IsPT fs ms) {ws:List W8} (hW:∀ i,i<ws.length->WOk E (ws.getD i w8z)) {c s:Int} {t n:ByteArray} {r:R2} (h:knW fs ms ws n=(r,true)):Ans E ⟨false,c,t,false,n,s⟩ r:=by
 refine .inr ⟨rfl,?_⟩;unfold knW at h
 cases hpl:plF fs ms n with
 | some p=>
  rw [hpl] at h;have e:=congrArg Prod.fst h;refine .inl ?_;rw [hE];show (plF fs ms n).map ofP=some r;have e':ofP p=r:=e;rw [hpl,<- e'];rfl
 | none=>
  rw [hpl] at h
  cases hf:fndW ws n with
  | none=>rw [hf] at h;cases congrArg Prod.snd h
  | some z=>
   rw [hf] at h;have e1:(⟨z.cd,z.tx⟩:R2)=r:=congrArg Prod.fst h;have e2:z.ov=true:=congrArg Prod.snd h;obtain ⟨hn,i,hi,hz⟩:=fnd_mem hf;have hw:=hW i hi;rw [hz] at hw;obtain ⟨h1,h2⟩:=hw.ov e2;refine .inr ⟨by rw [hE];exact pl_none.2 hpl,z.m,z.ls,hw.mem,hn,hw.his,h1,?_⟩;rw [<- e1,h2]
theorem c98 (E:Env) (a:Option Addr) (cap:Nat) (fs:List F2) (ms:List M3) (hE:E=envOf fs ms) (wa:Option Addr) (wc:Nat) (ws:List W8) (x:W8) (w:World) (hat:FilesAt w a fs) (ht:treeOk fs) (hp:IsPT fs ms) (hlw:ws.length<=300) (hws:WysAt w wa ws) (hwo:∀ i,i<ws.length->WOk E (ws.getD i w8z)) (hx:WOk E x) (hlv:LvAt w x):
 Calls prog 98 #[.agg #[.slice a fs.length cap],.slice wa ws.length wc,.agg x.vs.toArray] w fun e w'=>∃ y:W8,e=.returned (.agg y.vs.toArray)/\StepTo E (knW fs ms ws) x y/\LvAt w' y/\Nw w x.lv y.lv/\Below w.heap.size w w':=by
 have HX:=hI_ hx;have HW:=hI_ hwo;have HAT:=hI_ hat;have HWS:=hI_ hws;have HEE:Hid (EnvOk E):=by unfold Hid;rw [hE];exact envOk ht hp
 have HT:=hI_ ht;have HP:=hI_ hp;have hfl:fs.length<=1048576:=by have:=ht.1;omega
 have HF:=hI_ (tree_le ht);have HE:=hI_ hE;have HU:Hid (B26 w (.slice a fs.length cap) x (((w.alloc (.cells #[.slice a fs.length cap] 51)).alloc (.cells #[.string x.m.nm,.string x.m.tl,.string x.m.ar,x.lv,.bool x.ov,.int .i64 x.cd,.string x.tx,.string x.wt] 119)).alloc (.cells #[.string ⟨#[]⟩,.string ⟨#[]⟩,.string ⟨#[]⟩,.slice none 0 0,.bool false,.int .i64 0,.string ⟨#[]⟩,.string ⟨#[]⟩] 119))):=by
  have hb:=(((Below.refl w.heap.size w).alloc lr_ (.cells #[.slice a fs.length cap] 51)).alloc sm_ (.cells #[.string x.m.nm,.string x.m.tl,.string x.m.ar,x.lv,.bool x.ov,.int .i64 x.cd,.string x.tx,.string x.wt] 119)).alloc so_ (.cells #[.string ⟨#[]⟩,.string ⟨#[]⟩,.string ⟨#[]⟩,.slice none 0 0,.bool false,.int .i64 0,.string ⟨#[]⟩,.string ⟨#[]⟩] 119);have h5:=cl_new (w.alloc (.cells #[.slice a fs.length cap] 51)) x.vs 119;have h6:=cl_new ((w.alloc (.cells #[.slice a fs.length cap] 51)).alloc (.cells #[.string x.m.nm,.string x.m.tl,.string x.m.ar,x.lv,.bool x.ov,.int .i64 x.cd,.string x.tx,.string x.wt] 119)) z8 119;simp only [World.size_alloc] at h5 h6;exact ⟨cl_old (cl_old (cl_new w [.slice a fs.length cap] 51) _) _,cl_old h5 _,h6,hlv.below hb,fun hne k e=>(by
   obtain ⟨a',c',h1,h2,_⟩:=hlv;rcases h2 with h2 | ⟨b,off,h3,h4,_⟩
   · exact absurd h2 hne
   rw [h1,h3] at e;have e':b=k:=Option.some.inj e;omega),hb⟩
 clear hx hlv hwo hat hws ht hp hE;go_enter func98,ntmps98;rw [show (Value.agg x.vs.toArray)=.agg #[.string x.m.nm,.string x.m.tl,.string x.m.ar,x.lv,.bool x.ov,.int .i64 x.cd,.string x.tx,.string x.wt] from rfl]
 go_wp2_with fail
 go_loopg [] (16 - x.ls.length) (fun k wr=>∃ y:W8,Hid (y.m=x.m/\WOk E y/\x.ls <+:y.ls/\(y.ov=true->y=x)/\(x.ov=true->y=x)/\Nw w x.lv y.lv)/\Hid (B26 w (.slice a fs.length cap) y wr)/\k=16 - y.ls.length)
 case atStart=>exact ⟨x,⟨rfl,HX.out,List.prefix_refl _,fun _=>rfl,fun _=>rfl,nw_refl _ _⟩,HU.out,rfl⟩
 obtain ⟨y,HY,HB,rfl⟩:=hrel;have hmk:=HEE.out.ms _ HY.out.2.1.mem;have hyl:y.ls.length<=15:=(hist_ok HEE.out hmk HY.out.2.1.his).1;have HLE:=hI_ (hist_le HEE.out hmk HY.out.2.1.his);have HMS:=hI_ (okM_small hmk);have HGT:=hI_ (goT_hist HEE.out hmk HY.out.2.1.his);obtain ⟨la,lc,hla,hlk,_⟩:=HB.out.lv;have HLK:=hI_ hlk;have hz:w.heap.size+2<wr.heap.size:=HB.out.c1806.lt;have k0:wr.cell? ⟨w.heap.size+1,0,none⟩=some (.string y.m.nm):=HB.out.c909.cell 0;have k1:wr.cell? ⟨w.heap.size+1,1,none⟩=some (.string y.m.tl):=HB.out.c909.cell 1;have k2:wr.cell? ⟨w.heap.size+1,2,none⟩=some (.string y.m.ar):=HB.out.c909.cell 2;have k3:wr.cell? ⟨w.heap.size+1,3,none⟩=some (.slice la y.ls.length lc):=hla▸HB.out.c909.cell 3;have k4:wr.cell? ⟨w.heap.size+1,4,none⟩=some (.bool y.ov):=HB.out.c909.cell 4;have HNL:Hid (y.ls≠[]->∀ k,y.lv.ownBlock=some k->k<wr.heap.size):=fun hne k e=>by
  rcases hlk with h | ⟨b,off,h3,h4,_⟩
  · exact absurd h hne
  rw [hla,h3] at e;have e':b=k:=Option.some.inj e;omega
 clear hla hlk hmk;cases hyo:y.ov
 · rw [hyo] at k4
   go_wp2_with fail
   refine (c26 y.m la lc y.ls wr HMS.out om_ HLE.out HLK.out).mono ?_;rintro e w1 ⟨rfl,hb1⟩;obtain ⟨t,HTN⟩:∃ t,Hid (tn y.m y.ls=t):=⟨_,rfl⟩;rw [HGT.out,HTN.out];have HB1:=hI_ (HB.out.below hb1);have hz1:w.heap.size+2<w1.heap.size:=Nat.lt_of_lt_of_le hz hb1.size;have hwr1:wr.heap.size<=w1.heap.size:=hb1.size;obtain ⟨o,tc,tt,th,tnm,ts⟩:=t;rw [show (TN.v ⟨o,tc,tt,th,tnm,ts⟩)=.agg #[.bool o,.int .i64 tc,.string tt,.bool th,.string tnm,.int .i64 ts] from rfl];clear k0 k1 k2 k3 k4 hb1 HLK HGT
   go_upto_region 3 with fail
   obtain ⟨w2,hw2⟩:∃ u:World,u=w1.alloc (.cells #[.bool o,.int .i64 tc,.string tt,.bool th,.string tnm,.int .i64 ts] 29):=⟨_,rfl⟩;rw [<- hw2];have hb2:Below w1.heap.size w1 w2:=by rw [hw2];exact bA
   have HB2:=hI_ (HB1.out.below hb2);have H7:Hid (Cl w2 w1.heap.size 29 [.bool o,.int .i64 tc,.string tt,.bool th,.string tnm,.int .i64 ts]):=by show Cl _ _ _ _;rw [hw2];exact cl_new w1 _ 29
   have hz2:=H7.out.lt;have j0:w2.cell? ⟨w1.heap.size,0,none⟩=some (.bool o):=H7.out.cell 0;have j1:w2.cell? ⟨w1.heap.size,1,none⟩=some (.int .i64 tc):=H7.out.cell 1;have j2:w2.cell? ⟨w1.heap.size,2,none⟩=some (.string tt):=H7.out.cell 2;have j3:w2.cell? ⟨w1.heap.size,3,none⟩=some (.bool th):=H7.out.cell 3;have j4:w2.cell? ⟨w1.heap.size,4,none⟩=some (.string tnm):=H7.out.cell 4;clear hw2 hb2 HB1;cases o;rotate_left
   · have HR:Hid (StepTo E (knW fs ms ws) x ⟨y.m,y.lv,y.ls,true,tc,tt,⟨#[]⟩⟩):=
      ⟨HY.out.1,⟨HY.out.2.1.mem,HY.out.2.1.his,(fun _=>by show (tn y.m y.ls).over=true/\(⟨tc,tt⟩:R2)=resOf (tn y.m y.ls);rw [HTN.out];exact ⟨rfl,rfl⟩),fun _=>rfl⟩,HY.out.2.2.1,(fun h=>by have:=HY.out.2.2.2.2.1 h;rw [<- this,hyo] at h;cases h),(fun h=>by cases h)⟩
     have q4:w2.cell? ⟨w.heap.size+1,4,none⟩=some (.bool y.ov):=HB2.out.c909.cell 4;have q5:w2.cell? ⟨w.heap.size+1,5,none⟩=some (.int .i64 y.cd):=HB2.out.c909.cell 5;have q6:w2.cell? ⟨w.heap.size+1,6,none⟩=some (.string y.tx):=HB2.out.c909.cell 6;have q7:w2.cell? ⟨w.heap.size+1,7,none⟩=some (.string y.wt):=HB2.out.c909.cell 7;have f4:=HB2.out.c909.opn 4;have f5:=HB2.out.c909.opn 5;have f6:=HB2.out.c909.opn 6;have f7:=HB2.out.c909.opn 7;clear hyo
     go_upto_region 7 with fail
     have hon:=((((on_set w2 (w.heap.size+1) 4 (.bool true)).trans (on_set _ _ 5 (.int .i64 tc))).trans (on_set _ _ 6 (.string tt))).trans (on_set _ _ 7 (.string ⟨#[]⟩)));have HC5:=hI_ ((((HB2.out.c909.set 4 (.bool true)).set 5 (.int .i64 tc)).set 6 (.string tt)).set 7 (.string ⟨#[]⟩));generalize ((((w2.setCell ⟨w.heap.size+1,4,none⟩ (.bool true)).setCell ⟨w.heap.size+1,5,none⟩ (.int .i64 tc)).setCell ⟨w.heap.size+1,6,none⟩ (.string tt)).setCell ⟨w.heap.size+1,7,none⟩ (.string ⟨#[]⟩))=w3 at*;have HC6:=hI_ (HB2.out.c1806.on hon om_);have HLV:=hI_ (HB2.out.lv.onB (y':=⟨y.m,y.lv,y.ls,true,tc,tt,⟨#[]⟩⟩) hon (fun hne k e=>(HB2.out.nb hne k e).1) rfl rfl);have hB3:Below w.heap.size w w3:=HB2.out.bl.trans (hon.below om_);clear q4 q5 q6 q7 f4 f5 f6 f7 j0 j1 j2 j3 j4;have HNB:Hid (y.ls≠[]->∀ k,y.lv.ownBlock=some k->k≠w.heap.size+2):=fun hne k e=>(HB2.out.nb hne k e).2;have h1c:Hid (∀ v∈(⟨y.m,y.lv,y.ls,true,tc,tt,⟨#[]⟩⟩:W8).vs,v.oneCell'=true):=w8_one ⟨y.m,y.lv,y.ls,true,tc,tt,⟨#[]⟩⟩ (by obtain ⟨a',c',h1,_⟩:=HLV.out;show y.lv.oneCell'=true;rw [show y.lv=_ from h1];rfl)
     go_wp2_with (first | (refine wp_ld8 rfl _ rfl (w.heap.size+1) rfl _ HC5.out rfl ?_) | (refine wp_st8 rfl _ _ rfl (w.heap.size+2) rfl _ _ rfl HC6.out rfl rfl h1c.out rfl ?_;intro w4 hc4 ho4))
     refine bodyPost_ret (v:=.agg (⟨y.m,y.lv,y.ls,true,tc,tt,⟨#[]⟩⟩:W8).vs.toArray) (M.results_blk (P:=prog) (ty:=119) rfl _ _ (w.heap.size+2) _ _ rfl hc4.blk underlying119 rfl kr_) rfl ⟨⟨y.m,y.lv,y.ls,true,tc,tt,⟨#[]⟩⟩,rfl,HR.out,HLV.out.onB ho4 HNB.out rfl rfl,HY.out.2.2.2.2.2,hB3.trans (ho4.below om_)⟩
   have t0:w2.cell? ⟨w.heap.size,0,none⟩=some (.slice a fs.length cap):=HB2.out.c3.cell 0
   go_wp2_with fail
   refine (c123 a cap fs ms tnm w2 hfl HF.out (G.T.files_below HAT.out HB2.out.bl) HP.out).mono ?_;rintro e w3 ⟨rfl,hb3⟩;obtain ⟨sh,HSH⟩:∃ s,Hid (seeH fs ms tnm=s):=⟨_,rfl⟩;rw [HSH.out];obtain ⟨sc,st⟩:=sh;dsimp only;have HB3:=hI_ (HB2.out.below hb3);have H7a:=hI_ (H7.out.below hb3 H7.out.lt);have hz3:w1.heap.size<w3.heap.size:=Nat.lt_of_lt_of_le hz2 hb3.size;clear j0 j1 j2 j3 j4 hb3 t0
   go_upto_region 9 with fail
   obtain ⟨w4,hw4⟩:∃ u:World,u=w3.alloc (.cells #[.bool true,.string tnm,.int .i64 sc,.string st] 74):=⟨_,rfl⟩;rw [<- hw4];have hb4:Below w3.heap.size w3 w4:=by rw [hw4];exact bA
   have HB4:=hI_ (HB3.out.below hb4);have H7b:=hI_ (H7a.out.below hb4 H7a.out.lt);have H8:Hid (Cl w4 w3.heap.size 74 [.bool true,.string tnm,.int .i64 sc,.string st]):=by show Cl _ _ _ _;rw [hw4];exact cl_new w3 _ 74
   have hz4:=H8.out.lt;have j3:w4.cell? ⟨w1.heap.size,3,none⟩=some (.bool th):=H7b.out.cell 3;have j4:w4.cell? ⟨w1.heap.size,4,none⟩=some (.string tnm):=H7b.out.cell 4;have t0:w4.cell? ⟨w.heap.size,0,none⟩=some (.slice a fs.length cap):=HB4.out.c3.cell 0;have hls:y.ls.length<=14:=((hist_inv HEE.out HY.out.2.1.his (HEE.out.ms _ HY.out.2.1.mem)).name (by rw [HTN.out])).2;have HNX:Hid (∀ (lv':Value) (wt:ByteArray) (r:R2),Nw w x.lv lv'->Ans E (⟨false,tc,tt,th,tnm,ts⟩:TN) r->(y.m=x.m/\WOk E ⟨y.m,lv',y.ls++[⟨th,tnm,r.code,r.tx⟩],y.ov,y.cd,y.tx,wt⟩/\x.ls <+:y.ls++[(⟨th,tnm,r.code,r.tx⟩:M.L4)]/\(y.ov=true->(⟨y.m,lv',y.ls++[⟨th,tnm,r.code,r.tx⟩],y.ov,y.cd,y.tx,wt⟩:W8)=x)/\(x.ov=true->(⟨y.m,lv',y.ls++[⟨th,tnm,r.code,r.tx⟩],y.ov,y.cd,y.tx,wt⟩:W8)=x)/\Nw w x.lv lv')):=fun lv' wt r hnw ha=>by
    have h1:=hist_ans HY.out.2.1.his (by rw [HTN.out]) (by rw [HTN.out];exact ha);rw [HTN.out] at h1;exact ⟨HY.out.1,⟨HY.out.2.1.mem,h1,(fun h=>by rw [show (W8.ov _)=y.ov from rfl,hyo] at h;cases h),fun h=>by rw [show (W8.ov _)=y.ov from rfl,hyo] at h;cases h⟩,HY.out.2.2.1.trans (List.prefix_append _ _),(fun h=>by rw [hyo] at h;cases h),(fun h=>by have:=HY.out.2.2.2.2.1 h;rw [<- this,hyo] at h;cases h),hnw⟩
   clear hw4 hb4 HB3 H7 H7a HB2;cases th;rotate_left
   · have HAN:Hid (Ans E (⟨false,tc,tt,true,tnm,ts⟩:TN) ⟨sc,st⟩):=by
      refine .inl ⟨rfl,?_⟩;rw [HE.out];show _=ofP (seeH fs ms tnm);rw [HSH.out];rfl
     have HC3b:=hI_ HB4.out.c3;have HC5b:Hid (Cl w4 (w.heap.size+1) 119 (⟨y.m,y.lv,y.ls,y.ov,y.cd,y.tx,y.wt⟩:W8).vs):=hI_ HB4.out.c909;have HC6b:=hI_ HB4.out.c1806;have HLVb:Hid (LvAt w4 ⟨y.m,y.lv,y.ls,y.ov,y.cd,y.tx,y.wt⟩):=hI_ HB4.out.lv;have hB8:=HB4.out.bl
     go_upto_region 15 with fail
     try simp only [qq]
     refine r15 (w.heap.size+1) w3.heap.size ⟨y.m,y.lv,y.ls,y.ov,y.cd,y.tx,y.wt⟩ true tnm sc st w4 _ _ _ _ _ _ _ _ _ _ _ _ _ _ _ _ _ _ _ _ _ _ _ _ _ _ _ _ _ _ _ _ _ _ _ _ _ _ _ _ _ _ _ _ _ _ _ _ _ _ _ _ _ _ _ _ _ _ _ ?hq2 HC5b H8 HLVb (by show y.ls.length<=15;omega) ?kk2
     case hq2=>exact fun _ _ d _ _ h=>by cases d <;> exact h
     intro t52 t53 t54 t55 t56 t57 t58 t59 lv' w9 hc9 hlv9 hge9 hex9;have HNX':=hI_ (HNX.out lv' y.wt ⟨sc,st⟩ (fun k e=>.inr (by have:=hge9 k e;have:=hB8.size;omega)) HAN.out);have HB9:Hid (B26 w (.slice a fs.length cap) ⟨y.m,lv',y.ls++[⟨true,tnm,sc,st⟩],y.ov,y.cd,y.tx,y.wt⟩ w9):=
      ⟨(hex9.block _ (Cl.lt HC3b.out) om_).trans HC3b.out,hc9,(hex9.block _ (Cl.lt HC6b.out) om_).trans HC6b.out,hlv9,fun _ k e=>by have:=hge9 k e;have:=(Cl.lt HC6b.out);omega,hB8.trans (hex9.below (N:=w.heap.size) (fun k e=>om_) hB8.size)⟩
     clear hc9 hlv9 hge9 hex9;go_wp2
     go_roundg (16 - (y.ls.length+1))
     case measure=>omega
     case rel=>exact ⟨⟨y.m,lv',y.ls++[(⟨true,tnm,sc,st⟩:M.L4)],y.ov,y.cd,y.tx,y.wt⟩,HNX'.out,HB9.out,sm_⟩
   go_wp2_with fail
   refine (c124 a cap fs ms wa wc ws tnm w4 hfl HF.out (G.T.files_below HAT.out HB4.out.bl) HT.out HP.out hlw (wys_below HWS.out HB4.out.bl)).mono ?_;rintro e w5 ⟨h24,hb5⟩;obtain ⟨rr,HKN⟩:∃ r,Hid (knW fs ms ws tnm=r):=⟨_,rfl⟩;rw [HKN.out] at h24;obtain ⟨⟨rc,rt⟩,rb⟩:=rr;have he:e=.returned (.tuple #[.agg #[.int .i64 rc,.string rt],.bool rb]):=h24;subst he;have HB5:=hI_ (HB4.out.below hb5);have H7c:=hI_ (H7b.out.below hb5 H7b.out.lt);have H8c:=hI_ (H8.out.below hb5 H8.out.lt);have hz5:w3.heap.size<w5.heap.size:=Nat.lt_of_lt_of_le hz4 hb5.size;clear h24 hb5 H7b H8 HB4 t0 j3 j4
   go_upto_region 11 with fail
   obtain ⟨w6,hw6⟩:∃ u:World,u=w5.alloc (.cells #[.int .i64 rc,.string rt] 27):=⟨_,rfl⟩;rw [<- hw6];have hb6:Below w5.heap.size w5 w6:=by rw [hw6];exact bA
   have HB6:=hI_ (HB5.out.below hb6);have H7d:=hI_ (H7c.out.below hb6 H7c.out.lt);have H8d:=hI_ (H8c.out.below hb6 H8c.out.lt);have H9:Hid (Cl w6 w5.heap.size 27 [.int .i64 rc,.string rt]):=by show Cl _ _ _ _;rw [hw6];exact cl_new w5 _ 27
   have j4:w6.cell? ⟨w1.heap.size,4,none⟩=some (.string tnm):=H7d.out.cell 4;have q7:w6.cell? ⟨w.heap.size+1,7,none⟩=some (.string y.wt):=HB6.out.c909.cell 7;have f7:=HB6.out.c909.opn 7;clear hw6 hb6 H7c H8c HB5
   go_upto_region 12 with fail
   have hon:=on_set w6 (w.heap.size+1) 7 (.string tnm);have HC5:=hI_ (HB6.out.c909.set 7 (.string tnm));generalize (w6.setCell ⟨w.heap.size+1,7,none⟩ (.string tnm))=w7 at*;have HC6:=hI_ (HB6.out.c1806.on hon om_);have HLV:=hI_ (HB6.out.lv.onB (y':=⟨y.m,y.lv,y.ls,y.ov,y.cd,y.tx,tnm⟩) hon (fun hne k e=>(HB6.out.nb hne k e).1) rfl rfl);have hB3:Below w.heap.size w w7:=HB6.out.bl.trans (hon.below om_);have HNB:Hid (y.ls≠[]->∀ k,y.lv.ownBlock=some k->k≠w.heap.size+2):=fun hne k e=>(HB6.out.nb hne k e).2;have hne5:w.heap.size+1<w1.heap.size:=om_;have hne8:w.heap.size+1≠w3.heap.size:=om_;have hne9:w.heap.size+1≠w5.heap.size:=om_;have H7e:=hI_ (H7d.out.on hon om_);have H8e:=hI_ (H8d.out.on hon hne8.symm);have H9e:=hI_ (H9.out.on hon hne9.symm);have HC3:=hI_ (HB6.out.c3.on hon om_);clear j4 q7 f7 H7d H8d H9;cases rb
   · have HR:Hid (StepTo E (knW fs ms ws) x ⟨y.m,y.lv,y.ls,y.ov,y.cd,y.tx,tnm⟩):=
      ⟨HY.out.1,⟨HY.out.2.1.mem,HY.out.2.1.his,(fun h=>by rw [show (W8.ov _)=y.ov from rfl,hyo] at h;cases h),fun h=>by rw [show (W8.ov _)=y.ov from rfl,hyo] at h;cases h⟩,HY.out.2.2.1,(fun h=>by have:=HY.out.2.2.2.2.1 h;rw [<- this,hyo] at h;cases h),(fun _=>by show (tn y.m y.ls).over=false/\(tn y.m y.ls).has=false/\(knW fs ms ws (tn y.m y.ls).name).2=false/\tnm=(tn y.m y.ls).name;rw [HTN.out];exact ⟨rfl,rfl,by rw [HKN.out],rfl⟩)⟩
     clear hyo
     go_upto_region 13 with fail
     have h1c:Hid (∀ v∈(⟨y.m,y.lv,y.ls,y.ov,y.cd,y.tx,tnm⟩:W8).vs,v.oneCell'=true):=w8_one ⟨y.m,y.lv,y.ls,y.ov,y.cd,y.tx,tnm⟩ (by obtain ⟨a',c',h1,_⟩:=HLV.out;show y.lv.oneCell'=true;rw [show y.lv=_ from h1];rfl)
     go_wp2_with (first | (refine wp_ld8 rfl _ rfl (w.heap.size+1) rfl _ HC5.out rfl ?_) | (refine wp_st8 rfl _ _ rfl (w.heap.size+2) rfl _ _ rfl HC6.out rfl rfl h1c.out rfl ?_;intro w4 hc4 ho4))
     refine bodyPost_ret (v:=.agg (⟨y.m,y.lv,y.ls,y.ov,y.cd,y.tx,tnm⟩:W8).vs.toArray) (M.results_blk (P:=prog) (ty:=119) rfl _ _ (w.heap.size+2) _ _ rfl hc4.blk underlying119 rfl kr_) rfl ⟨⟨y.m,y.lv,y.ls,y.ov,y.cd,y.tx,tnm⟩,rfl,HR.out,HLV.out.onB ho4 HNB.out rfl rfl,HY.out.2.2.2.2.2,hB3.trans (ho4.below om_)⟩
   have j4:w7.cell? ⟨w1.heap.size,4,none⟩=some (.string tnm):=H7e.out.cell 4;have r0:w7.cell? ⟨w5.heap.size,0,none⟩=some (.int .i64 rc):=H9e.out.cell 0;have r1:w7.cell? ⟨w5.heap.size,1,none⟩=some (.string rt):=H9e.out.cell 1;have HAN:Hid (Ans E (⟨false,tc,tt,false,tnm,ts⟩:TN) ⟨rc,rt⟩):=kn_ans HE.out HEE.out HP.out HW.out HKN.out
   go_wp2_with (refine wl_stN rfl 74 _ _ rfl (B:=w3.heap.size) (j:=0) rfl (vs:=[.bool false,.string tnm,.int .i64 rc,.string rt]) rfl H8e.out sm_ (by intro v hv;simp at hv;rcases hv with rfl | rfl | rfl | rfl <;> rfl) kr_ ?_;intro w8 hc8 ho8)
   have hon8:w.heap.size+1≠w3.heap.size:=hne8;have HC5b:=hI_ (HC5.out.on ho8 hne8);have HC3b:=hI_ (HC3.out.on ho8 om_);have HC6b:=hI_ (HC6.out.on ho8 om_);have HLVb:=hI_ (HLV.out.onB (y':=⟨y.m,y.lv,y.ls,y.ov,y.cd,y.tx,tnm⟩) ho8 (fun hne k e=>by have:=HNL.out hne k e;omega) rfl rfl);have hB8:Below w.heap.size w w8:=hB3.trans (ho8.below om_);have H8f:Hid (Cl w8 w3.heap.size 74 [.bool false,.string tnm,.int .i64 rc,.string rt]):=hI_ hc8;clear hc8 ho8 r0 r1 j4
   try simp only [qq]
   refine r15 (w.heap.size+1) w3.heap.size ⟨y.m,y.lv,y.ls,y.ov,y.cd,y.tx,tnm⟩ false tnm rc rt w8 _ _ _ _ _ _ _ _ _ _ _ _ _ _ _ _ _ _ _ _ _ _ _ _ _ _ _ _ _ _ _ _ _ _ _ _ _ _ _ _ _ _ _ _ _ _ _ _ _ _ _ _ _ _ _ _ _ _ _ ?hq1 HC5b H8f HLVb (by show y.ls.length<=15;omega) ?kk1
   case hq1=>exact fun _ _ d _ _ h=>by cases d <;> exact h
   intro t52 t53 t54 t55 t56 t57 t58 t59 lv' w9 hc9 hlv9 hge9 hex9;have HNX':=hI_ (HNX.out lv' tnm ⟨rc,rt⟩ (fun k e=>.inr (by have:=hge9 k e;have:=hB8.size;omega)) HAN.out);have HB9:Hid (B26 w (.slice a fs.length cap) ⟨y.m,lv',y.ls++[⟨false,tnm,rc,rt⟩],y.ov,y.cd,y.tx,tnm⟩ w9):=
    ⟨(hex9.block _ (Cl.lt HC3b.out) om_).trans HC3b.out,hc9,(hex9.block _ (Cl.lt HC6b.out) om_).trans HC6b.out,hlv9,fun _ k e=>by have:=hge9 k e;have:=(Cl.lt HC6b.out);omega,hB8.trans (hex9.below (N:=w.heap.size) (fun k e=>om_) hB8.size)⟩
   clear hc9 hlv9 hge9 hex9;go_wp2
   go_roundg (16 - (y.ls.length+1))
   case measure=>omega
   case rel=>exact ⟨⟨y.m,lv',y.ls++[(⟨false,tnm,rc,rt⟩:M.L4)],y.ov,y.cd,y.tx,tnm⟩,HNX'.out,HB9.out,sm_⟩
 have hxy:=HY.out.2.2.2.1 hyo;have HR:Hid (StepTo E (knW fs ms ws) x y):=⟨HY.out.1,HY.out.2.1,HY.out.2.2.1,fun _=>hxy,fun h=>by rw [hyo] at h;cases h⟩;have HC5:=hI_ HB.out.c909;have HC6:=hI_ HB.out.c1806;have HLV:=hI_ HB.out.lv;have hB3:=HB.out.bl;have HNB:Hid (y.ls≠[]->∀ k,y.lv.ownBlock=some k->k≠w.heap.size+2):=fun hne k e=>(HB.out.nb hne k e).2;rw [hyo] at k4;clear hyo hxy
 go_upto_region 16 with fail
 have h1c:Hid (∀ v∈(y:W8).vs,v.oneCell'=true):=w8_one y (by obtain ⟨a',c',h1,_⟩:=HLV.out;show y.lv.oneCell'=true;rw [show y.lv=_ from h1];rfl)
 go_wp2_with (first | (refine wp_ld8 rfl _ rfl (w.heap.size+1) rfl _ HC5.out rfl ?_) | (refine wp_st8 rfl _ _ rfl (w.heap.size+2) rfl _ _ rfl HC6.out rfl rfl h1c.out rfl ?_;intro w4 hc4 ho4))
 refine bodyPost_ret (v:=.agg (y:W8).vs.toArray) (M.results_blk (P:=prog) (ty:=119) rfl _ _ (w.heap.size+2) _ _ rfl hc4.blk underlying119 rfl kr_) rfl ⟨y,rfl,HR.out,HLV.out.onB ho4 HNB.out rfl rfl,HY.out.2.2.2.2.2,hB3.trans (ho4.below om_)⟩
end Go.Proofs.YthjhakdpikdoeaaGreatDoor
