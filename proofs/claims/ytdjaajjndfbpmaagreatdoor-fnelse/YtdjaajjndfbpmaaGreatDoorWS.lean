import Derived.Test.YtdjaajjndfbpmaaGreatDoorXA
set_option linter.unusedVariables false
set_option maxHeartbeats 8000000
set_option maxRecDepth 100000
namespace Go.Proofs.YtdjaajjndfbpmaaGreatDoor
open Proofs.Tryz
open Go.RowKit
structure Jn (w:World) (a:Option Addr) (xs:List De):Prop where
 cell:xs=[]\/∃ g,a=some ⟨g,0,none⟩/\g<w.heap.size/\∀ i,i<xs.length->∀ j u,(xs.getD i Pg).vs[j]?=some u->w.cell? ⟨g,i*8+j,none⟩=some u
 lk:∀ x∈xs,∃ la c,x.lv=.slice la x.d.ls.length c/\M.Ac w la x.d.ls
theorem jG {base:Nat} {v:Value} {xs:List De} {w:World} (h:P_ base v xs w):∃ a c,v=.slice a xs.length c/\Jn w a xs:=by
 have f:=h.row;have b:∀ x∈xs,∃ la c,x.lv=.slice la x.d.ls.length c/\M.Ac w la x.d.ls:=fun x hx=>yf (h.lk x hx);rcases f.2 with ⟨hv,h0⟩ | ⟨g,cap,cur,hv,hg,m,_⟩
 · exact ⟨none,0,by rw [hv,h0],.inl (Ce.1 h0),b⟩
 refine ⟨some ⟨g,0,none⟩,cap,hv,.inr ⟨g,rfl,Q4 m,fun i l j u e=>?_⟩,b⟩;subst hv;have k:j<8:=(Jd.1 e).1;exact (f.cellAt (i*8+j) O0).trans ((jv xs i j l k).trans e)
theorem Jn.below {w w':World} {a:Option Addr} {xs:List De} (h:Jn w a xs) (b:Below w.heap.size w w'):Jn w' a xs:=by
 refine ⟨h.cell.imp id (fun ⟨g,h1,h2,h3⟩=>⟨g,h1,D7 h2 b.size,fun i d j u e=>(b.cell (p:=⟨g,i*8+j,none⟩) h2).trans (h3 i d j u e)⟩),fun x hx=>?_⟩;obtain ⟨la,c,h1,h2⟩:=h.lk x hx;exact ⟨la,c,h1,M.Y_ h2 b⟩
theorem Jn.at {w:World} {a:Option Addr} {xs:List De} (h:Jn w a xs) {k:Nat} (b:k<xs.length):∃ g la i,a=some ⟨g,0,none⟩/\g<w.heap.size/\(xs.getD k Pg)∈xs/\(xs.getD k Pg)=⟨(xs.getD k Pg).d,.slice la (xs.getD k Pg).d.ls.length i⟩/\M.Ac w la (xs.getD k Pg).d.ls/\∀ j u,(xs.getD k Pg).vs[j]?=some u->w.cell? ⟨g,k*8+j,none⟩=some u:=by
 have f:xs.getD k Pg∈xs:=by simp [List.getD,b]
 obtain ⟨la,c,h1,h2⟩:=h.lk _ f;rcases h.cell with e | ⟨g,n,m,l⟩
 · rw [e] at b;exact absurd b (F5 _)
 exact ⟨g,la,c,n,m,f,by rw [<- h1],h2,l k b⟩
theorem c6 (a:Option Addr) (cap:Nat) (xs:List De) (Q:Option Addr) (cap':Nat) (ys:List De) (w:World) (z:xs.map (·.d)=ys.map (·.d)) (hl:xs.length<=481) (P:∀ x∈xs,x.d.ls.length<=15) (N:Jn w a xs) (L:Jn w Q ys):
 Calls prog 6 #[.slice a xs.length cap,.slice Q ys.length cap'] w fun e w'=>e=.returned (.bool true)/\Below w.heap.size w w':=by
 have t:ys.length=xs.length:=by simpa using (V3 List.length z).symm
 have U:Hid (∀ k,k<xs.length->(xs.getD k Pg).d=(ys.getD k Pg).d):=fun k H=>by
  have e:(xs.map (·.d))[k]?=(ys.map (·.d))[k]?:=by rw [z]
  have Y:k<ys.length:=O0;simpa [List.getD,H,Y] using e
 have HQ:=Q0 t;have hl':(xs.length:Int)<=481:=O0;have HA:=Q0 N;have HA':=Q0 L;have H15:=Q0 P;rw [t];clear N L z t P;go_enter func6,ntmps6
 go_wp2_with fail
 go_loopw [5] (fun r wr=>∃ k:Nat,r=.int .i64 k/\k<=xs.length/\Hid (Below w.heap.size w wr)) (fun r _=>xs.length - (intOf r).toNat)
 case atStart=>exact ⟨0,rfl,I5 _,F4 _ _⟩
 obtain ⟨k,rfl,H,V⟩:=hrel;by_cases m:k<xs.length;rotate_left
 · obtain rfl:k=xs.length:=O0
   go_wp2;go_ret;exact ⟨rfl,V.out⟩
 have C:=Q0 V.out.drew;obtain ⟨g,la,o,ha,hg,E,hx,F,B⟩:=(HA.out.below C.out).at m;obtain ⟨g',q,n,ha',Z,W,D,y,A⟩:=(HA'.out.below C.out).at (k:=k) (by rw [HQ.out];exact m);subst ha ha';rw [hx] at B;rw [D,<- U.out k m] at A;rw [<- U.out k m] at y;have X:=H15.out _ E;clear hx D E W;generalize (xs.getD k Pg).d=d at*;obtain ⟨nm,md,⟨i,h,l⟩,ls,⟨rc,rt⟩,wt⟩:=d;have R:Hid (∀ u,Below wr.drew.heap.size wr.drew u->(u.cell? ⟨g,k*8,none⟩=some (.string nm)/\u.cell? ⟨g,k*8+1,none⟩=some (.bool md)/\u.cell? ⟨g,k*8+2,none⟩=some (.string i)/\u.cell? ⟨g,k*8+3,none⟩=some (.string h)/\u.cell? ⟨g,k*8+4,none⟩=some (.string l)/\u.cell? ⟨g,k*8+5,none⟩=some (.slice la ls.length o)/\u.cell? ⟨g,k*8+6,none⟩=some (.int .i64 rc)/\u.cell? ⟨g,k*8+7,none⟩=some (.string rt))/\u.cell? ⟨g',k*8,none⟩=some (.string nm)/\u.cell? ⟨g',k*8+1,none⟩=some (.bool md)/\u.cell? ⟨g',k*8+2,none⟩=some (.string i)/\u.cell? ⟨g',k*8+3,none⟩=some (.string h)/\u.cell? ⟨g',k*8+4,none⟩=some (.string l)/\u.cell? ⟨g',k*8+5,none⟩=some (.slice q ls.length n)/\u.cell? ⟨g',k*8+6,none⟩=some (.int .i64 rc)/\u.cell? ⟨g',k*8+7,none⟩=some (.string rt)):=fun u J=>by
  have f:=fun j v e=>(J.cell (p:=⟨g,k*8+j,none⟩) hg).trans (B j v e);have c:=fun j v e=>(J.cell (p:=⟨g',k*8+j,none⟩) Z).trans (A j v e);exact ⟨⟨f 0 _ rfl,f 1 _ rfl,f 2 _ rfl,f 3 _ rfl,f 4 _ rfl,f 5 _ rfl,f 6 _ rfl,f 7 _ rfl⟩,c 0 _ rfl,c 1 _ rfl,c 2 _ rfl,c 3 _ rfl,c 4 _ rfl,c 5 _ rfl,c 6 _ rfl,c 7 _ rfl⟩
 have HC:=Q0 (c23 la o q n ls _ X F y);clear B A F y
 go_upto_region 6 with fail
 refine F7 (S:=fun u=>(u.cell? ⟨g,k*8,none⟩=some (.string nm)/\u.cell? ⟨g,k*8+1,none⟩=some (.bool md)/\u.cell? ⟨g,k*8+2,none⟩=some (.string i)/\u.cell? ⟨g,k*8+3,none⟩=some (.string h)/\u.cell? ⟨g,k*8+4,none⟩=some (.string l)/\u.cell? ⟨g,k*8+5,none⟩=some (.slice la ls.length o)/\u.cell? ⟨g,k*8+6,none⟩=some (.int .i64 rc)/\u.cell? ⟨g,k*8+7,none⟩=some (.string rt))/\u.cell? ⟨g',k*8,none⟩=some (.string nm)/\u.cell? ⟨g',k*8+1,none⟩=some (.bool md)/\u.cell? ⟨g',k*8+2,none⟩=some (.string i)/\u.cell? ⟨g',k*8+3,none⟩=some (.string h)/\u.cell? ⟨g',k*8+4,none⟩=some (.string l)/\u.cell? ⟨g',k*8+5,none⟩=some (.slice q ls.length n)/\u.cell? ⟨g',k*8+6,none⟩=some (.int .i64 rc)/\u.cell? ⟨g',k*8+7,none⟩=some (.string rt)) U2 (R.out _ (F4 _ _)) fun b=>?_;refine tq 0 b ?_;simp only [qq];refine tq 1 b ?_;simp only [qq];refine tq 2 b ?_;simp only [qq];refine tq 3 b ?_;simp only [qq];refine tq 4 b ?_;simp only [qq];refine tq 5 b ?_;simp only [qq];refine tq 6 b ?_;simp only [qq];refine tq 7 b ?_;simp only [qq];refine tq 8 b ?_;simp only [qq];refine tq 9 b ?_;simp only [qq];refine tq (v:=.bool false) 10 b ?_ (hv:=by intro u s;simp [go_sem]);simp only [qq];refine tq 11 b ?_;simp only [qq];refine tq 12 b ?_;simp only [qq];refine tq 13 b ?_;simp only [qq];refine tq 14 b ?_;simp only [qq];refine tq 15 b ?_;simp only [qq];refine tq 16 b ?_;simp only [qq];refine tq 17 b ?_;simp only [qq];refine tq 18 b ?_;simp only [qq];refine tq 19 b ?_;simp only [qq];refine tq 20 b ?_;simp only [qq];refine tq 21 b ?_;simp only [qq];refine tq (v:=.bool false) 22 b ?_ (hv:=by intro u s;simp [go_sem]);simp only [qq];refine tq 23 b ?_;simp only [qq];refine tq 24 b ?_;simp only [qq];refine tq 25 b ?_;simp only [qq];refine tq 26 b ?_;simp only [qq];refine tq 27 b ?_;simp only [qq];refine tq 28 b ?_;simp only [qq];refine tq 29 b ?_;simp only [qq];refine tq 30 b ?_;simp only [qq];refine tq 31 b ?_;simp only [qq];refine tq 32 b ?_;simp only [qq];refine tq 33 b ?_;simp only [qq];refine tq 34 b ?_;simp only [qq];refine tq (v:=.bool false) 35 b ?_ (hv:=by intro u s;simp [go_sem]);simp only [qq];refine tq 36 b ?_;simp only [qq];refine tq 37 b ?_;simp only [qq];refine tq 38 b ?_;simp only [qq];refine tq 39 b ?_;simp only [qq];refine tq 40 b ?_;simp only [qq];refine tq 41 b ?_;simp only [qq];refine tq 42 b ?_;simp only [qq];refine tq 43 b ?_;simp only [qq];refine tq 44 b ?_;simp only [qq];refine tq 45 b ?_;simp only [qq];refine tq 46 b ?_;simp only [qq];refine tq 47 b ?_;simp only [qq];refine tq (v:=.bool false) 48 b ?_ (hv:=by intro u s;simp [go_sem]);simp only [qq];refine tq 49 b ?_;simp only [qq];refine tq 50 b ?_;simp only [qq];refine tq 51 b ?_;simp only [qq];refine tq 52 b ?_;simp only [qq];refine tq 53 b ?_;simp only [qq];refine tq 54 b ?_;simp only [qq];refine tq 55 b ?_;simp only [qq];refine tq 56 b ?_;simp only [qq];refine tq 57 b ?_;simp only [qq];refine tq 58 b ?_;simp only [qq];refine tq 59 b ?_;simp only [qq];refine tq 60 b ?_;simp only [qq];refine rq 61 fun K O=>?_;go_simp;refine HC.out.mono ?_;rintro e x1 ⟨rfl,I⟩;have HB3:=Q0 (bT C.out I);go_simp;clear b;refine Z6 O (R.out _ I) fun b=>?_;clear O K;refine tq 62 b ?_;simp only [qq];refine tq 63 b ?_;simp only [qq];refine a_ ?_;clear b;go_wp2;go_roundw
 case rel=>exact ⟨k+1,by go_num,O0,HB3.out⟩
 case measure=>simp [intOf];omega
end Go.Proofs.YtdjaajjndfbpmaaGreatDoor
