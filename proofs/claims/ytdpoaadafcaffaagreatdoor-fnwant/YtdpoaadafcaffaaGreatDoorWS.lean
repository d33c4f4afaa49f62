import Derived.Test.YtdpoaadafcaffaaGreatDoorDF
set_option linter.unusedVariables false
set_option maxHeartbeats 8000000
set_option maxRecDepth 100000
namespace Go.Proofs.YtdpoaadafcaffaaGreatDoor
open Proofs.Tryz
open Go.RowKit
def YJ (u:World) (b j:Nat) (x:M.L4):Prop:=u.cell? ⟨b,j,none⟩=some (.bool x.has)/\u.cell? ⟨b,j+1,none⟩=some (.string x.nm)/\u.cell? ⟨b,j+2,none⟩=some (.int .i64 x.cd)/\u.cell? ⟨b,j+3,none⟩=some (.string x.tx)
theorem c10 (a:Option Addr) (cap:Nat) (a':Option Addr) (cap':Nat) (L:List M.L4) (w:World) (hl:L.length<=15) (hat:M.Ma w a L) (hat':M.Ma w a' L):
 Calls prog 10 #[.slice a L.length cap,.slice a' L.length cap'] w fun e w'=>e=.returned (.bool true)/\Below w.heap.size w w':=by
 have HA:=Q0 hat;have HA':=Q0 hat';have hl':(L.length:Int)<=15:=O0;clear hat hat';go_enter func10,ntmps10
 go_wp2_with fail
 go_loopw [5] (fun r wr=>∃ k:Nat,r=.int .i64 k/\k<=L.length/\Hid (Below w.heap.size w wr)) (fun r _=>L.length - (intOf r).toNat)
 case atStart=>exact ⟨0,rfl,Nat.zero_le _,Below.refl _ _⟩
 obtain ⟨k,rfl,hk,HB⟩:=hrel;by_cases hlt:k<L.length;rotate_left
 · obtain rfl:k=L.length:=O0
   go_wp2;go_ret;exact ⟨rfl,HB.out⟩
 have HB2:=Q0 HB.out.drew;obtain ⟨b,off,ha,hb,x0,x1,x2,x3⟩:=ze HA.out HB2.out hlt;obtain ⟨b',off',ha',hb',y0,y1,y2,y3⟩:=ze HA'.out HB2.out hlt;subst ha ha';generalize L.getD k M.A_=x at*;obtain ⟨xh,xn,xc,xt⟩:=x;have HX:Hid (YJ wr.drew b (off+k*4) ⟨xh,xn,xc,xt⟩/\YJ wr.drew b' (off'+k*4) ⟨xh,xn,xc,xt⟩):=⟨⟨x0,x1,x2,x3⟩,y0,y1,y2,y3⟩;clear x0 x1 x2 x3 y0 y1 y2 y3
 go_upto_region 6 with fail
 refine wp_region_held_drew (S:=fun u=>(u.cell? ⟨b,off+k*4,none⟩=some (.bool xh)/\u.cell? ⟨b,off+k*4+1,none⟩=some (.string xn)/\u.cell? ⟨b,off+k*4+2,none⟩=some (.int .i64 xc)/\u.cell? ⟨b,off+k*4+3,none⟩=some (.string xt))/\u.cell? ⟨b',off'+k*4,none⟩=some (.bool xh)/\u.cell? ⟨b',off'+k*4+1,none⟩=some (.string xn)/\u.cell? ⟨b',off'+k*4+2,none⟩=some (.int .i64 xc)/\u.cell? ⟨b',off'+k*4+3,none⟩=some (.string xt)) I1 HX.out fun hH=>?_;refine tq 0 hH ?_;refine tq 1 hH ?_;refine tq 2 hH ?_;refine tq 3 hH ?_;refine tq 4 hH ?_;refine tq 5 hH ?_;refine tq 6 hH ?_;refine tq 7 hH ?_;refine tq (v:=.bool false) 8 hH ?_ (hv:=by intro u hu;simp [go_sem])
 try simp only [qq]
 refine wpAnyH_done I1 ?_ _;clear hH;go_wp2;go_roundw
 case rel=>exact ⟨k+1,by go_num,O0,HB2.out⟩
 case measure=>simp [intOf];omega
structure Aq (w:World) (a:Option Addr) (xs:List De):Prop where
 cell:xs=[]\/∃ g,a=some ⟨g,0,none⟩/\g<w.heap.size/\∀ i,i<xs.length->∀ j u,(xs.getD i Ut).vs[j]?=some u->w.cell? ⟨g,i*8+j,none⟩=some u
 lk:∀ x∈xs,∃ la c,x.lv=.slice la x.d.ls.length c/\M.Ma w la x.d.ls
theorem JE {base:Nat} {v:Value} {xs:List De} {w:World} (h:V_ base v xs w):∃ a c,v=.slice a xs.length c/\Aq w a xs:=by
 have h':=h.row;have hl:∀ x∈xs,∃ la c,x.lv=.slice la x.d.ls.length c/\M.Ma w la x.d.ls:=fun x hx=>Zb (h.lk x hx);rcases h'.2 with ⟨hv,h0⟩ | ⟨g,cap,cur,hv,hg,hh,_⟩
 · exact ⟨none,0,by rw [hv,h0],.inl (List.length_eq_zero_iff.1 h0),hl⟩
 refine ⟨some ⟨g,0,none⟩,cap,hv,.inr ⟨g,rfl,F4 hh,fun i hi j u e=>?_⟩,hl⟩;subst hv;have hj:j<8:=(List.getElem?_eq_some_iff.1 e).1;exact (h'.cellAt (i*8+j) O0).trans ((jw xs i j hi hj).trans e)
theorem Aq.below {w w':World} {a:Option Addr} {xs:List De} (h:Aq w a xs) (hb:Below w.heap.size w w'):Aq w' a xs:=by
 refine ⟨h.cell.imp id (fun ⟨g,h1,h2,h3⟩=>⟨g,h1,Nat.lt_of_lt_of_le h2 hb.size,fun i hi j u e=>(hb.cell (p:=⟨g,i*8+j,none⟩) h2).trans (h3 i hi j u e)⟩),fun x hx=>?_⟩;obtain ⟨la,c,h1,h2⟩:=h.lk x hx;exact ⟨la,c,h1,M.I_ h2 hb⟩
theorem Aq.at {w:World} {a:Option Addr} {xs:List De} (h:Aq w a xs) {k:Nat} (hk:k<xs.length):∃ g la lc,a=some ⟨g,0,none⟩/\g<w.heap.size/\(xs.getD k Ut)∈xs/\(xs.getD k Ut)=⟨(xs.getD k Ut).d,.slice la (xs.getD k Ut).d.ls.length lc⟩/\M.Ma w la (xs.getD k Ut).d.ls/\∀ j u,(xs.getD k Ut).vs[j]?=some u->w.cell? ⟨g,k*8+j,none⟩=some u:=by
 have hm:xs.getD k Ut∈xs:=by simp [List.getD,hk]
 obtain ⟨la,c,h1,h2⟩:=h.lk _ hm;rcases h.cell with e | ⟨g,e1,e2,e3⟩
 · rw [e] at hk;exact absurd hk (Nat.not_lt_zero _)
 exact ⟨g,la,c,e1,e2,hm,by rw [<- h1],h2,e3 k hk⟩
theorem c8 (a:Option Addr) (cap:Nat) (xs:List De) (a':Option Addr) (cap':Nat) (ys:List De) (w:World) (hd:xs.map (·.d)=ys.map (·.d)) (hl:xs.length<=481) (bQ:∀ x∈xs,x.d.ls.length<=15) (hat:Aq w a xs) (hat':Aq w a' ys):
 Calls prog 8 #[.slice a xs.length cap,.slice a' ys.length cap'] w fun e w'=>e=.returned (.bool true)/\Below w.heap.size w w':=by
 have hq:ys.length=xs.length:=by simpa using (congrArg List.length hd).symm
 have HD:Hid (∀ k,k<xs.length->(xs.getD k Ut).d=(ys.getD k Ut).d):=fun k hk=>by
  have e:(xs.map (·.d))[k]?=(ys.map (·.d))[k]?:=by rw [hd]
  have hk':k<ys.length:=O0;simpa [List.getD,hk,hk'] using e
 have HQ:=Q0 hq;have hl':(xs.length:Int)<=481:=O0;have HA:=Q0 hat;have HA':=Q0 hat';have H15:=Q0 bQ;rw [hq];clear hat hat' hd hq bQ;go_enter func8,ntmps8
 go_wp2_with fail
 go_loopw [5] (fun r wr=>∃ k:Nat,r=.int .i64 k/\k<=xs.length/\Hid (Below w.heap.size w wr)) (fun r _=>xs.length - (intOf r).toNat)
 case atStart=>exact ⟨0,rfl,Nat.zero_le _,Below.refl _ _⟩
 obtain ⟨k,rfl,hk,HB⟩:=hrel;by_cases hlt:k<xs.length;rotate_left
 · obtain rfl:k=xs.length:=O0
   go_wp2;go_ret;exact ⟨rfl,HB.out⟩
 have HB2:=Q0 HB.out.drew;obtain ⟨g,la,lc,ha,hg,hm,hx,hlk,hc⟩:=(HA.out.below HB2.out).at hlt;obtain ⟨g',la',lc',ha',hg',hm',hx',QX,hc'⟩:=(HA'.out.below HB2.out).at (k:=k) (by rw [HQ.out];exact hlt);subst ha ha';rw [hx] at hc;rw [hx',<- HD.out k hlt] at hc';rw [<- HD.out k hlt] at QX;have hls:=H15.out _ hm;clear hx hx' hm hm';generalize (xs.getD k Ut).d=d at*;obtain ⟨nm,md,⟨mn,mt,ma⟩,ls,⟨rc,rt⟩,wt⟩:=d;have HX:Hid (∀ u,Below wr.drew.heap.size wr.drew u->(u.cell? ⟨g,k*8,none⟩=some (.string nm)/\u.cell? ⟨g,k*8+1,none⟩=some (.bool md)/\u.cell? ⟨g,k*8+2,none⟩=some (.string mn)/\u.cell? ⟨g,k*8+3,none⟩=some (.string mt)/\u.cell? ⟨g,k*8+4,none⟩=some (.string ma)/\u.cell? ⟨g,k*8+5,none⟩=some (.slice la ls.length lc)/\u.cell? ⟨g,k*8+6,none⟩=some (.int .i64 rc)/\u.cell? ⟨g,k*8+7,none⟩=some (.string rt))/\u.cell? ⟨g',k*8,none⟩=some (.string nm)/\u.cell? ⟨g',k*8+1,none⟩=some (.bool md)/\u.cell? ⟨g',k*8+2,none⟩=some (.string mn)/\u.cell? ⟨g',k*8+3,none⟩=some (.string mt)/\u.cell? ⟨g',k*8+4,none⟩=some (.string ma)/\u.cell? ⟨g',k*8+5,none⟩=some (.slice la' ls.length lc')/\u.cell? ⟨g',k*8+6,none⟩=some (.int .i64 rc)/\u.cell? ⟨g',k*8+7,none⟩=some (.string rt)):=fun u hb=>by
  have f:=fun j v e=>(hb.cell (p:=⟨g,k*8+j,none⟩) hg).trans (hc j v e);have f':=fun j v e=>(hb.cell (p:=⟨g',k*8+j,none⟩) hg').trans (hc' j v e);exact ⟨⟨f 0 _ rfl,f 1 _ rfl,f 2 _ rfl,f 3 _ rfl,f 4 _ rfl,f 5 _ rfl,f 6 _ rfl,f 7 _ rfl⟩,f' 0 _ rfl,f' 1 _ rfl,f' 2 _ rfl,f' 3 _ rfl,f' 4 _ rfl,f' 5 _ rfl,f' 6 _ rfl,f' 7 _ rfl⟩
 have HC:=Q0 (c10 la lc la' lc' ls _ hls hlk QX);clear hc hc' hlk QX
 go_upto_region 6 with fail
 refine wp_region_held_drew (S:=fun u=>(u.cell? ⟨g,k*8,none⟩=some (.string nm)/\u.cell? ⟨g,k*8+1,none⟩=some (.bool md)/\u.cell? ⟨g,k*8+2,none⟩=some (.string mn)/\u.cell? ⟨g,k*8+3,none⟩=some (.string mt)/\u.cell? ⟨g,k*8+4,none⟩=some (.string ma)/\u.cell? ⟨g,k*8+5,none⟩=some (.slice la ls.length lc)/\u.cell? ⟨g,k*8+6,none⟩=some (.int .i64 rc)/\u.cell? ⟨g,k*8+7,none⟩=some (.string rt))/\u.cell? ⟨g',k*8,none⟩=some (.string nm)/\u.cell? ⟨g',k*8+1,none⟩=some (.bool md)/\u.cell? ⟨g',k*8+2,none⟩=some (.string mn)/\u.cell? ⟨g',k*8+3,none⟩=some (.string mt)/\u.cell? ⟨g',k*8+4,none⟩=some (.string ma)/\u.cell? ⟨g',k*8+5,none⟩=some (.slice la' ls.length lc')/\u.cell? ⟨g',k*8+6,none⟩=some (.int .i64 rc)/\u.cell? ⟨g',k*8+7,none⟩=some (.string rt)) I1 (HX.out _ (Below.refl _ _)) fun hH=>?_;refine tq 0 hH ?_;simp only [qq];refine tq 1 hH ?_;simp only [qq];refine tq 2 hH ?_;simp only [qq];refine tq 3 hH ?_;simp only [qq];refine tq 4 hH ?_;simp only [qq];refine tq 5 hH ?_;simp only [qq];refine tq 6 hH ?_;simp only [qq];refine tq 7 hH ?_;simp only [qq];refine tq 8 hH ?_;simp only [qq];refine tq 9 hH ?_;simp only [qq];refine tq (v:=.bool false) 10 hH ?_ (hv:=by intro u hu;simp [go_sem]);simp only [qq];refine tq 11 hH ?_;simp only [qq];refine tq 12 hH ?_;simp only [qq];refine tq 13 hH ?_;simp only [qq];refine tq 14 hH ?_;simp only [qq];refine tq 15 hH ?_;simp only [qq];refine tq 16 hH ?_;simp only [qq];refine tq 17 hH ?_;simp only [qq];refine tq 18 hH ?_;simp only [qq];refine tq 19 hH ?_;simp only [qq];refine tq 20 hH ?_;simp only [qq];refine tq 21 hH ?_;simp only [qq];refine tq (v:=.bool false) 22 hH ?_ (hv:=by intro u hu;simp [go_sem]);simp only [qq];refine tq 23 hH ?_;simp only [qq];refine tq 24 hH ?_;simp only [qq];refine tq 25 hH ?_;simp only [qq];refine tq 26 hH ?_;simp only [qq];refine tq 27 hH ?_;simp only [qq];refine tq 28 hH ?_;simp only [qq];refine tq 29 hH ?_;simp only [qq];refine tq 30 hH ?_;simp only [qq];refine tq 31 hH ?_;simp only [qq];refine tq 32 hH ?_;simp only [qq];refine tq 33 hH ?_;simp only [qq];refine tq 34 hH ?_;simp only [qq];refine tq (v:=.bool false) 35 hH ?_ (hv:=by intro u hu;simp [go_sem]);simp only [qq];refine tq 36 hH ?_;simp only [qq];refine tq 37 hH ?_;simp only [qq];refine tq 38 hH ?_;simp only [qq];refine tq 39 hH ?_;simp only [qq];refine tq 40 hH ?_;simp only [qq];refine tq 41 hH ?_;simp only [qq];refine tq 42 hH ?_;simp only [qq];refine tq 43 hH ?_;simp only [qq];refine tq 44 hH ?_;simp only [qq];refine tq 45 hH ?_;simp only [qq];refine tq 46 hH ?_;simp only [qq];refine tq 47 hH ?_;simp only [qq];refine tq (v:=.bool false) 48 hH ?_ (hv:=by intro u hu;simp [go_sem]);simp only [qq];refine tq 49 hH ?_;simp only [qq];refine tq 50 hH ?_;simp only [qq];refine tq 51 hH ?_;simp only [qq];refine tq 52 hH ?_;simp only [qq];refine tq 53 hH ?_;simp only [qq];refine tq 54 hH ?_;simp only [qq];refine tq 55 hH ?_;simp only [qq];refine tq 56 hH ?_;simp only [qq];refine tq 57 hH ?_;simp only [qq];refine tq 58 hH ?_;simp only [qq];refine tq 59 hH ?_;simp only [qq];refine tq 60 hH ?_;simp only [qq];refine rq 61 fun K hK=>?_;go_simp;refine HC.out.mono ?_;rintro e x1 ⟨rfl,hb1⟩;have HB3:=Q0 (bT HB2.out hb1);go_simp;clear hH;refine hK.out _ _ (HX.out _ hb1) fun hH=>?_;clear hK K
 try simp only [qq]
 refine tq 62 hH ?_;simp only [qq];refine tq 63 hH ?_;simp only [qq];refine wpAnyH_done I1 ?_ _;clear hH;go_wp2;go_roundw
 case rel=>exact ⟨k+1,by go_num,O0,HB3.out⟩
 case measure=>simp [intOf];omega
end Go.Proofs.YtdpoaadafcaffaaGreatDoor
