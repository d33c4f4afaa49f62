import Derived.Test.YtdjaajjndfbpmaaGreatDoorRX
import Derived.Test.YtdjaajjndfbpmaaGreatDoorZ45
import Derived.Deep.LoopGhost
import Derived.Deep.Cut
set_option linter.unusedVariables false
set_option maxHeartbeats 8000000
set_option maxRecDepth 100000
namespace Go.Proofs.YtdjaajjndfbpmaaGreatDoor
open Proofs.Tryz
open Go.RowKit
def WS (m:M3) (w:World):World:=(WG m w).alloc (.cells #[.bool false,.int .i64 0,.string ⟨#[]⟩,.bool false,.string ⟨#[]⟩,.int .i64 0] 147)
theorem Yl (m:M3) (w:World):(WS m w).heap.size=w.heap.size+3:=by simp [WS,bq]
theorem Uc (m:M3) (w:World):Below w.heap.size w (WS m w):=(iH m w).alloc (by rw [bq];omega) _
theorem QH {m:M3} {w u:World} (h:Below (w.heap.size+3) (WS m w) u):Below (w.heap.size+2) (WG m w) u:=((F4 _ _).alloc (by rw [bq];omega) _).trans (h.mono O0)
theorem DD {m:M3} {w u:World} (h:Below (w.heap.size+3) (WS m w) u):g_ u (w.heap.size+1) L6:=wP (QH h)
theorem PG {m:M3} {w u:World} (h:Below (w.heap.size+3) (WS m w) u):g_ u (w.heap.size+1+1) L6:=by
 have e:(w.heap.size+1+1)=(WG m w).heap.size:=by rw [bq]
 unfold g_;rw [h.block _ O0,e];exact X6 rfl _
theorem Ji {ops:Array Oper} {rest:List Oper} {o:Oper} {a:Act} {u:World} {Q:Exit->Act->World->Prop} (b:o.guard=none) (x:Operand) (ho:o.op=.load 147 x) (B:Nat) (hx:a.eval x=.pointer (some ⟨B,0,none⟩)) (t:TN) (c:g_ u B t)
 (h:wpList prog ops Q rest (a.put o.dst t.v) u):wpList prog ops Q (o::rest) a u:=
 M.Yo (P:=prog) b 147 x ho B hx _ _ c.blk underlying147 rfl U2 h
theorem ZJ {o:Bool} {c:Int} {t:ByteArray} {h:Bool} {nm:ByteArray} {k:Int} (a:Option Addr) (cap n:Nat) (T:List I3) (arg:ByteArray) (a2:Option Addr) (cap2 b:Nat) (nR:List R2) (w:World) (f:n=T.length) (d:b=nR.length) (h3:Three T arg nR) (i:Da w a T) (g:ui w a2 nR) (e:l9 T arg nR=⟨o,c,t,h,nm,k⟩):
 Calls prog 124 #[.agg #[.slice a n cap],.string arg,.slice a2 b cap2] w fun e w'=>e=.returned (.agg #[.bool o,.int .i64 c,.string t,.bool h,.string nm,.int .i64 k])/\Below w.heap.size w w':=by
 subst f d;exact VM a cap T arg a2 cap2 nR w h3 i g e
theorem sP (m:M3) (a:Option Addr) (cap:Nat) (ls:List M.L4) (w:World) (hm:m.le 1048576) (g:W_ m=true) (hlk:M.Kr ls) (hs:∀ i,(ls.getD i M.Ga).le 1048576) (hat:M.Ac w a ls):
 Calls prog 90 #[.agg #[.string m.nm,.string m.tl,.string m.ar],.slice a ls.length cap] w fun e w'=>e=.returned (Oy m.tl m.ar (si m.tl) Mj ls).v/\Below w.heap.size w w':=by
 have hml:m.le 1048700:=⟨by have:=hm.1;omega,by have:=hm.2.1;omega,by have:=hm.2.2;omega⟩;have JV:ls.length<=15:=hlk.1;have HAT:=Q0 hat;have VR:=Q0 hlk;clear hat hlk;go_enter func90,ntmps90;have HW:Hid (WS m w=(((w.alloc (.cells #[.string m.nm,.string m.tl,.string m.ar] 47)).alloc (.cells #[.bool false,.int .i64 0,.string ⟨#[]⟩,.bool false,.string ⟨#[]⟩,.int .i64 0] 147)).alloc (.cells #[.bool false,.int .i64 0,.string ⟨#[]⟩,.bool false,.string ⟨#[]⟩,.int .i64 0] 147))):=rfl
 go_wp2_with fail
 rw [<- HW.out];refine (Ju g _ hml).mono ?_;rintro e w1 ⟨rfl,hb1⟩;have HB1:Hid (Below (w.heap.size+3) (WS m w) w1):=hb1.mono (by rw [Yl];omega);have hz1:w.heap.size+3<=w1.heap.size:=by have:=hb1.size;rw [Yl] at this;exact this
 have hBw1:=(Uc m w).trans (HB1.out.mono O0);clear hb1
 go_wp2_with fail
 refine (M.qN a cap ls w1 O0 hs (M.Y_ HAT.out hBw1)).mono ?_;rintro e b ⟨⟨r,rfl,hr⟩,hb2⟩;have hrt:=hr.2 VR.out;subst hrt;have HB2:=Q0 (HB1.out.trans (hb2.mono O0));have hz2:=Z4 hz1 hb2.size;obtain ⟨y0,y1,y2⟩:=kM (QH HB2.out);clear hb2 hBw1 HB1 hr
 go_wp2_with fail
 obtain ⟨Q,hw3⟩:∃ Q,Q=((b.alloc (.cells #[.bool false,.int .i64 0,.string ⟨#[]⟩,.bool false,.string m.tl,.int .i64 0] 147)).alloc (.cells #[] 34)).alloc (.cells #[.slice none 0 0] 126):=⟨_,rfl⟩;rw [<- hw3];have hz3:Q.heap.size=b.heap.size+3:=by rw [hw3];simp
 have HT3:Hid (g_ Q b.heap.size (si m.tl)):=by
  show Q.heap[_]?=_;rw [hw3,Jf _ _ _ J4,Jf _ _ _ X0];exact X6 rfl _
 have FU:Hid (Q.heap[b.heap.size+1+1]?=some (.cells #[.slice none 0 0] 126 (0,0))):=by
  show Q.heap[_]?=_;rw [hw3];exact X6 X0 _
 have dZ:Hid (Q.ownsRow (b.heap.size+1) 34 2 (.slice (some ⟨b.heap.size+1,0,none⟩) 0 0) 0 []):=by
  show Q.ownsRow _ _ _ _ _ _;rw [hw3];refine World.ownsRow.alloc ?_ _;refine ⟨rfl,.inr ⟨b.heap.size+1,0,#[],rfl,Q6 _,X6 X0 _,Q6 _,I5 _,rfl,rfl⟩⟩
 have HB3:Hid (Below (w.heap.size+3) (WS m w) Q):=HB2.out.trans (by rw [hw3];exact (((F4 _ _).alloc hz2 _).alloc J4 _).alloc J4 _);clear hw3 y0 y1 y2;go_loopw [7,9] (fun v7 v9 wr=>∃ (k:Nat) (t:TN) (s:RS) (v2:Value),v9=.int .i64 k/\k<=ls.length/\Hid (Oy m.tl m.ar (si m.tl) Mj ls=Oy m.tl m.ar t s (ls.drop k))/\Hid (g_ wr b.heap.size t)/\Hid (wr.heap[b.heap.size+1+1]?=some (.cells #[v2] 126 (0,0)))/\Hid (wr.ownsRow (b.heap.size+1) 34 2 v7 s.nR.length (x9 s.nR))/\Hid (s.has=true->wr.ownsRow (b.heap.size+1) 165 3 v2 s.T.length (J5 s.T))/\Hid (Cu s)/\s.nR.length<=k/\Hid ((k=0/\s=Mj)\/(0<k/\(t.over=false->s.has=true)))/\Hid (Below (w.heap.size+3) (WS m w) wr)/\Q.heap.size<=wr.heap.size) (fun _ r _=>ls.length - (intOf r).toNat)
 case atStart=>exact ⟨0,si m.tl,Mj,_,rfl,I5 _,rfl,HT3.out,FU.out,dZ.out,(fun h=>by cases h),xu,I5 _,.inl ⟨rfl,rfl⟩,HB3.out,O0⟩
 obtain ⟨k,t,s,v2,rfl,hkl,HG,HT,HL,HO,HI,HS,hsl,HC,HBr,UR⟩:=hrel;have hBw:=(Uc m w).trans (HBr.out.mono O0);obtain ⟨o,c,tx,hh,n,st⟩:=t;obtain ⟨t0,t1,t2,t3,t4,t5,tf⟩:=g_.cells HT.out;by_cases hlt:k<ls.length;rotate_left
 · have hke:k=ls.length:=O0
   have HZ:Hid (Oy m.tl m.ar (si m.tl) Mj ls=⟨o,c,tx,hh,n,st⟩):=by
    rw [HG.out,hke,List.drop_eq_nil_of_le P9];rfl
   subst hke
   go_wp2_with (refine Sb rfl _ _ rfl (w.heap.size+1) rfl ⟨o,c,tx,hh,n,st⟩ L6 rfl (DD HBr.out) rfl ?_;intro u' C y _)
   refine K4 (v:=TN.v ⟨o,c,tx,hh,n,st⟩) (M.j_ (P:=prog) (ty:=147) rfl _ _ (w.heap.size+1) _ _ rfl C.blk underlying147 rfl U2) rfl ⟨by rw [HZ.out],?_⟩;exact ((Uc m w).trans (HBr.out.mono O0)).trans (y _ O0)
 obtain ⟨lb,off,ha,hlb,x0,x1,x2,x3⟩:=Ec HAT.out hBw hlt;subst ha;have hxs:=hs k;have HLO:=Q0 (VR.out.2 k hlt);have HD:=Q0 (sG hlt);generalize ls.getD k M.Ga=x at*;obtain ⟨O,D,q,j⟩:=x;have hl1:b.heap.size<wr.heap.size:=O0;have p0:=past (p:=⟨b.heap.size,0,none⟩) hl1 t0 (.cells #[.bool O,.string D,.int .i64 q,.string j] 52);have p3:=past (p:=⟨b.heap.size,3,none⟩) hl1 t3 (.cells #[.bool O,.string D,.int .i64 q,.string j] 52);have p4:=past (p:=⟨b.heap.size,4,none⟩) hl1 t4 (.cells #[.bool O,.string D,.int .i64 q,.string j] 52);have R:Hid (Below (w.heap.size+3) (WS m w) (wr.alloc (.cells #[.bool O,.string D,.int .i64 q,.string j] 52))):=HBr.out.alloc O0 _;clear t0 t1 t2 t3 t4 t5 tf hBw;cases o;rotate_left
 · have HZ:Hid (Oy m.tl m.ar (si m.tl) Mj ls=L6):=by rw [HG.out,HD.out];exact om (.inl rfl)
   go_wp2_with (first | (refine Ji rfl (.tmp 5) rfl (w.heap.size+1+1) rfl L6 (PG R.out) ?_) | (refine Sb rfl (.tmp 4) _ rfl (w.heap.size+1) rfl L6 L6 rfl (DD R.out) rfl ?_;intro u' C y _))
   refine K4 (v:=L6.v) (M.j_ (P:=prog) (ty:=147) rfl _ _ (w.heap.size+1) _ _ rfl C.blk underlying147 rfl U2) rfl ⟨by rw [HZ.out],?_⟩;exact ((Uc m w).trans (R.out.mono O0)).trans (y _ O0)
 by_cases hhe:O=hh;rotate_left
 · have a4q:¬ hh=O:=fun h=>hhe h.symm
   have HZ:Hid (Oy m.tl m.ar (si m.tl) Mj ls=L6):=by rw [HG.out,HD.out];exact om (.inr (.inl hhe))
   go_wp2_with (first | (refine Ji rfl (.tmp 5) rfl (w.heap.size+1+1) rfl L6 (PG R.out) ?_) | (refine Sb rfl (.tmp 4) _ rfl (w.heap.size+1) rfl L6 L6 rfl (DD R.out) rfl ?_;intro u' C y _))
   refine K4 (v:=L6.v) (M.j_ (P:=prog) (ty:=147) rfl _ _ (w.heap.size+1) _ _ rfl C.blk underlying147 rfl U2) rfl ⟨by rw [HZ.out],?_⟩;exact ((Uc m w).trans (R.out.mono O0)).trans (y _ O0)
 subst hhe;by_cases hne:D=n;rotate_left
 · have hne':¬ n.toList=D.toList:=fun h=>hne ((M.Gf _ _).1 h).symm
   have hne2:(n.toList==D.toList)=false:=by simpa using hne'
   have HZ:Hid (Oy m.tl m.ar (si m.tl) Mj ls=L6):=by rw [HG.out,HD.out];exact om (.inr (.inr (.inl hne)))
   go_wp2_with (first | (refine Ji rfl (.tmp 5) rfl (w.heap.size+1+1) rfl L6 (PG R.out) ?_) | (refine Sb rfl (.tmp 4) _ rfl (w.heap.size+1) rfl L6 L6 rfl (DD R.out) rfl ?_;intro u' C y _))
   refine K4 (v:=L6.v) (M.j_ (P:=prog) (ty:=147) rfl _ _ (w.heap.size+1) _ _ rfl C.blk underlying147 rfl U2) rfl ⟨by rw [HZ.out],?_⟩;exact ((Uc m w).trans (R.out.mono O0)).trans (y _ O0)
 subst hne;have hne':(D.toList==D.toList)=true:=X0;have a0Q:¬ Halt ⟨false,c,tx,O,D,st⟩ ⟨O,D,q,j⟩:=by
  rintro (h | h | h | h)
  · cases h
  · exact h rfl
  · exact h rfl
  exact h HLO.out
 have N:Hid (Oy m.tl m.ar (si m.tl) Mj ls=Oy m.tl m.ar (P7 m.tl m.ar s ⟨q,j⟩).1 (P7 m.tl m.ar s ⟨q,j⟩).2 (ls.drop (k+1))):=by
  rw [HG.out,HD.out];exact nz a0Q
 rcases HC.out with ⟨rfl,rfl⟩ | ⟨hk0,hhas⟩;rotate_left
 · have hs1:=hhas rfl
   obtain ⟨sh,T,nR⟩:=s;have hs2:sh=true:=hs1;subst hs2;have e1:P7 m.tl m.ar ⟨true,T,nR⟩ ⟨q,j⟩=(l9 T m.ar (nR++[⟨q,j⟩]),⟨true,T,nR++[⟨q,j⟩]⟩):=by simp [P7]
   rw [e1] at N;have gU:Hid (Cu ⟨true,T,nR++[⟨q,j⟩]⟩):=⟨HS.out.tl,HS.out.ts,Yg HS.out.rs (by have:=hxs.2;exact this)⟩;rcases hN:l9 T m.ar (nR++[⟨q,j⟩]) with ⟨o',c',tx',hh',n',st'⟩;rw [hN] at N;have HN:=Q0 hN;have a4r:nR.length<=k:=hsl;have H3:Hid (Three T m.ar (nR++[⟨q,j⟩])):=⟨by have:=HS.out.tl;exact Z4 this O0,fun i=>Z4 (HS.out.ts i) O0,by have:=hm.2.2;exact this,J4,Yg HS.out.rs (by have:=hxs.2;exact this)⟩;clear hN e1 hs1;have hO:wr.ownsRow (b.heap.size+1) 34 2 u7 nR.length (x9 nR):=HO.out;have hI:=HI.out rfl;obtain ⟨i0,hi,hz0,hz1',hz2'⟩:=Ze IG;obtain ⟨Z,hwx⟩:∃ Z,Z=(wr.alloc (.cells #[.bool O,.string D,.int .i64 q,.string j] 52)).alloc (.cells #[.int .i64 q,.string j] 34):=⟨_,rfl⟩;have HWX:=Q0 hwx;have hbx:Below wr.heap.size wr Z:=by rw [hwx];exact bA.alloc X0 _
   have hzx:Z.heap.size=wr.heap.size+2:=by rw [hwx];simp
   have IV:=Q0 hbx;have HIx:=Q0 (ownsRow_below hI hbx);have HOx:=Q0 (ownsRow_below hO hbx);clear hwx hbx hI
   go_wp2_with (at_builtin;refine wpList_append_own _ rfl _ _ 185 rfl (b.heap.size+1) 34 i0 (.agg #[.int .i64 0,.string ⟨#[]⟩]) 2 24 underlying185 hi hz0 hz1' hz2' rfl K3 _ _ _ rfl ((hO.alloc _).alloc _) ⟨wr.heap.size+1,0,none⟩ 1 1 [_,_] rfl rfl (bK X0 _ _ _) (by intro u hu;simp at hu;rcases hu with rfl | rfl <;> rfl) (by unfold maxLen;omega) O0 J4 ?_;rw [<- HWX.out];intro v' l IR (hgrow:Z.grownBy l u7.ownBlock) _;have hrow:∀ k,u7.ownBlock=some k->b.heap.size+1<=k/\∃ cur,Z.heap[k]?=some (.cells cur 34 (0,0)):=(fun k g=>Y2 HOx.out g);have g3:∀ (k:Nat) (x:Array Value) (t:TypeId),Z.heap[k]?=some (.cells x t (0,0))->t≠34->l.heap[k]?=some (.cells x t (0,0)):=(fun k x t g K=>(hgrow.block k (Q4 g) (fun e=>by obtain ⟨_,cur,d⟩:=hrow _ e.symm;exact J6 g d K rfl)).trans g);have NR:Hid (Below (w.heap.size+3) (WS m w) l):=((HBr.out.trans (IV.out.mono O0)).grown hgrow O0 (fun k g=>by have:=(hrow k g).1;omega));have HT4:Hid (g_ l b.heap.size ⟨false,c,tx,O,D,st⟩):=g3 _ _ _ (HT.out.below IV.out hl1) K3;have HL4:Hid (l.heap[b.heap.size+1+1]?=some (.cells #[v2] 126 (0,0))):=g3 _ _ _ ((IV.out.block _ O0).trans HL.out) K3;have HI4:Hid (l.ownsRow (b.heap.size+1) 165 3 v2 T.length (J5 T)):=(Z0 HIx.out fun k g=>by obtain ⟨_,cur,d⟩:=Y2 HIx.out g;rw [g3 _ _ _ d K3,d]);have ES:Z.heap.size<=l.heap.size:=hgrow.size;obtain ⟨y0,y1,y2⟩:=kM (QH NR.out);obtain ⟨a2,cp2,hv2,HIN⟩:=J7 HI4.out;have gt:l.cell? ⟨b.heap.size+1+1,0,none⟩=some (.slice a2 T.length cp2):=(by rw [Lib.cell_of_heap HL4.out,<- hv2];rfl);have a2C:Hid (Da l a2 T):=HIN;have lT:Hid (l.ownsRow (b.heap.size+1) 34 2 v' (nR.length+1) (x9 nR++[.int .i64 q,.string j])):=IR;obtain ⟨ao,cp,rfl⟩:=Jt IR;clear hgrow IR hrow g3 HIN hv2)
   have a0R:Hid (l.ownsRow (b.heap.size+1) 34 2 (.slice ao (nR.length+1) cp) (nR++[(⟨q,j⟩:R2)]).length (x9 (nR++[⟨q,j⟩]))):=by
    show l.ownsRow _ _ _ _ _ _;rw [Sj,Q7];exact lT.out
   obtain ⟨a3,cp3,hv3,DW⟩:=Kn a0R.out;have ha3:ao=a3:=by injection hv3
   subst ha3;refine (ZJ a2 cp2 _ T m.ar ao cp _ (nR++[⟨q,j⟩]) l rfl X0 H3.out a2C.out DW HN.out).mono ?_;rintro e E ⟨rfl,f⟩;have H:=Q0 (HT4.out.below f O0);have L:=Q0 ((f.block _ O0).trans HL4.out);have I:=Q0 (ownsRow_below a0R.out f);have J:=Q0 (ownsRow_below HI4.out f);have Y:=Q0 (NR.out.trans (f.mono O0));have zU:l.heap.size<=E.heap.size:=f.size;clear f hv3 DW y0 y1 y2 gt
   go_wp2_with (refine Sb rfl _ _ rfl b.heap.size rfl ⟨o',c',tx',hh',n',st'⟩ _ rfl H.out rfl ?_;intro u' C y F)
   have S:=Q0 C;have B:∀ (k:Nat) (x:Array Value) (t:TypeId),E.heap[k]?=some (.cells x t (0,0))->t≠147->u'.heap[k]?=some (.cells x t (0,0)):=fun k x t h1 K=>(F k (J6 h1 H.out K)).trans h1;have W:=Q0 (B _ _ _ L.out K3);have V:Hid (u'.ownsRow (b.heap.size+1) 34 2 (.slice ao (nR.length+1) cp) (nR++[(⟨q,j⟩:R2)]).length (x9 (nR++[⟨q,j⟩]))):=Z0 I.out fun k g=>by
    obtain ⟨_,cur,d⟩:=Y2 I.out g;rw [B _ _ _ d K3,d]
   have HI6:Hid (u'.ownsRow (b.heap.size+1) 165 3 v2 T.length (J5 T)):=Z0 J.out fun k g=>by
    obtain ⟨_,cur,d⟩:=Y2 J.out g;rw [B _ _ _ d K3,d]
   have X:=Q0 (Y.out.trans (y _ O0));have QS:=(y 0 O0).size;clear C y F B;go_roundw
   case rel=>exact ⟨k+1,⟨o',c',tx',hh',n',st'⟩,⟨true,T,nR++[⟨q,j⟩]⟩,v2,by go_num,O0,N,S,W,V,fun _=>HI6.out,gU,by show (nR++[_]).length<=k+1;simp;omega,.inr ⟨O0,fun _=>rfl⟩,X,O0⟩
   case measure=>simp [intOf];omega
 simp only [jk,Nh] at x0 x1 x2 x3
 go_wp2_with fail
 refine (UM j _ (by have:=hxs.2;exact this)).mono ?_;rintro e l ⟨⟨is,ok,z,A,rfl,hown,hread⟩,hb4⟩;have ES:wr.heap.size+1<=l.heap.size:=by have:=hb4.size;simpa using this
 have hbr:=bA.trans (hb4.mono X0);have NR:=Q0 (R.out.trans (hb4.mono J4));have HT4:=Q0 (HT.out.below hbr hl1);have hL4:=(hbr.block _ O0).trans HL.out;have lT:Hid (l.ownsRow (b.heap.size+1) 34 2 u7 0 []):=ownsRow_below HO.out hbr;have HI4:Hid (l.ownsRow (b.heap.size+1) 165 3 (.slice z is.length A) is.length (J5 is)):=D5 hown J4;have z2:l.cell? ⟨wr.heap.size,2,none⟩=some (.int .i64 q):=(hb4.cell (p:=⟨wr.heap.size,2,none⟩) X0).trans (by simp [go_sem]);have HRD:=Q0 (Wy hread);obtain ⟨hil,hiz⟩:=dh hread;have g2:l.cell? ⟨b.heap.size+1+1,0,none⟩=some v2:=by rw [Z5 hL4];rfl
 have gf:=B_ hL4 0;have TW:b.heap.size+1+1<l.heap.size:=O0;have g3:=past (p:=⟨b.heap.size+1+1,0,none⟩) TW g2 (.cells #[.slice z is.length A] 126);have gg:=Mc (p:=⟨b.heap.size+1+1,0,none⟩) TW gf (.cells #[.slice z is.length A] 126);have a2D:wr.heap.size≠b.heap.size+1+1:=O0;have z2v:(l.setCell ⟨b.heap.size+1+1,0,none⟩ (.slice z is.length A)).cell? ⟨wr.heap.size,2,none⟩=some (.int .i64 q):=by rw [O_ _ _ _ _ (fun e=>a2D (by injection e with e _;exact e.symm))];exact z2
 have z2p:=past (p:=⟨wr.heap.size,2,none⟩) J4 z2v (.cells #[.slice z is.length A] 126);obtain ⟨y0,y1,y2⟩:=kM (QH NR.out);have a0S:w.heap.size≠b.heap.size+1+1:=O0;have y1v:(l.setCell ⟨b.heap.size+1+1,0,none⟩ (.slice z is.length A)).cell? ⟨w.heap.size,1,none⟩=some (.string m.tl):=by rw [O_ _ _ _ _ (fun e=>a0S (by injection e with e _;exact e.symm))];exact y1
 have y1p:=past (p:=⟨w.heap.size,1,none⟩) J4 y1v (.cells #[.slice z is.length A] 126);have y2v:(l.setCell ⟨b.heap.size+1+1,0,none⟩ (.slice z is.length A)).cell? ⟨w.heap.size,2,none⟩=some (.string m.ar):=by rw [O_ _ _ _ _ (fun e=>a0S (by injection e with e _;exact e.symm))];exact y2
 have y2p:=past (p:=⟨w.heap.size,2,none⟩) J4 y2v (.cells #[.slice z is.length A] 126);have gv:(l.setCell ⟨b.heap.size+1+1,0,none⟩ (.slice z is.length A)).cell? ⟨b.heap.size+1+1,0,none⟩=some (.slice z is.length A):=O7 _ _ _ g2;have gvp:=past (p:=⟨b.heap.size+1+1,0,none⟩) J4 gv (.cells #[.slice z is.length A] 126);obtain ⟨U,hU⟩:∃ U,U=(l.setCell ⟨b.heap.size+1+1,0,none⟩ (.slice z is.length A)).alloc (.cells #[.slice z is.length A] 126):=⟨_,rfl⟩;have HU:=Q0 hU;have hzU:l.heap.size+1=U.heap.size:=by rw [hU];simp
 have kU:∀ (k:Nat) (x:Array Value) (t:TypeId),l.heap[k]?=some (.cells x t (0,0))->t≠126->U.heap[k]?=some (.cells x t (0,0)):=fun k x t h1 K=>by
  rw [hU,Jf _ _ _ (by simp;exact Q4 h1),Z8 _ _ _ _ (J6 h1 hL4 K)];exact h1
 have HTU:Hid (g_ U b.heap.size ⟨false,c,tx,O,D,st⟩):=kU _ _ _ HT4.out K3;have HLU:Hid (U.heap[b.heap.size+1+1]?=some (.cells #[.slice z is.length A] 126 (0,0))):=by
  show U.heap[_]?=_;rw [hU,Jf _ _ _ J4];exact o8 _ _ 0 _ _ _ hL4
 have HOU:Hid (U.ownsRow (b.heap.size+1) 34 2 u7 0 []):=Z0 lT.out fun k g=>by
  obtain ⟨_,cur,d⟩:=Y2 lT.out g;rw [kU _ _ _ d K3,d]
 have HIU:Hid (U.ownsRow (b.heap.size+1) 165 3 (.slice z is.length A) is.length (J5 is)):=Z0 HI4.out fun k g=>by
  obtain ⟨_,cur,d⟩:=Y2 HI4.out g;rw [kU _ _ _ d K3,d]
 have HBU:Hid (Below (w.heap.size+3) (WS m w) U):=NR.out.trans (by rw [hU];exact ((F4 _ _).setCell (by show w.heap.size+3<=b.heap.size+1+1;omega) _).alloc J4 _);clear hU kU hb4 hbr hown hread p0 p3 p4 x0 x1 x2 x3 y0 y1 y2 z2 g2 gf y1v y2v z2v gv;by_cases hx4:q=4
 · subst hx4
   have e4:P7 m.tl m.ar Mj ⟨4,j⟩=(l6 4 m.tl 0,Mj):=by simp [P7,Mj]
   rw [e4] at N;have gU:=Q0 xu
   go_wp2_with fail
   rw [<- HU.out];refine (Pf 4 m.tl 0 U).mono ?_;rintro e E ⟨rfl,f⟩;have H:=Q0 (HTU.out.below f O0);have L:=(f.block _ O0).trans HLU.out;have rT:=Q0 L;have I:=Q0 (ownsRow_below HOU.out f);have J:=Q0 (ownsRow_below HIU.out f);have Y:=Q0 (HBU.out.trans (f.mono O0));have zU:U.heap.size<=E.heap.size:=f.size;clear f L
   go_wp2_with (refine Sb rfl _ _ rfl b.heap.size rfl ⟨true,4,m.tl,false,⟨#[]⟩,0⟩ _ rfl H.out rfl ?_;intro u' C y F)
   have S:=Q0 C;have B:∀ (k:Nat) (x:Array Value) (t:TypeId),E.heap[k]?=some (.cells x t (0,0))->t≠147->u'.heap[k]?=some (.cells x t (0,0)):=fun k x t h1 K=>(F k (J6 h1 H.out K)).trans h1;have W:=Q0 (B _ _ _ rT.out K3);have V:Hid (u'.ownsRow (b.heap.size+1) 34 2 u7 0 []):=Z0 I.out fun k g=>by
    obtain ⟨_,cur,d⟩:=Y2 I.out g;rw [B _ _ _ d K3,d]
   have HI6:Hid (u'.ownsRow (b.heap.size+1) 165 3 (.slice z is.length A) is.length (J5 is)):=Z0 J.out fun k g=>by
    obtain ⟨_,cur,d⟩:=Y2 J.out g;rw [B _ _ _ d K3,d]
   have X:=Q0 (Y.out.trans (y _ O0));have QS:=(y 0 O0).size;clear C y F B;go_roundw
   case rel=>exact ⟨1,⟨true,4,m.tl,false,⟨#[]⟩,0⟩,Mj,.slice z is.length A,rfl,O0,N,S,W,V,(fun h=>by cases h),gU,by show 0<=1;omega,.inr ⟨O0,fun h=>by cases h⟩,X,O0⟩
   case measure=>simp [intOf];omega
 by_cases hx0:q=0;rotate_left
 · have e5:P7 m.tl m.ar Mj ⟨q,j⟩=(l6 5 m.tl 0,Mj):=by simp [P7,Mj,hx0,hx4]
   rw [e5] at N;have gU:=Q0 xu
   go_wp2_with fail
   rw [<- HU.out];refine (Pf 5 m.tl 0 U).mono ?_;rintro e E ⟨rfl,f⟩;have H:=Q0 (HTU.out.below f O0);have L:=(f.block _ O0).trans HLU.out;have rT:=Q0 L;have I:=Q0 (ownsRow_below HOU.out f);have J:=Q0 (ownsRow_below HIU.out f);have Y:=Q0 (HBU.out.trans (f.mono O0));have zU:U.heap.size<=E.heap.size:=f.size;clear f L
   go_wp2_with (refine Sb rfl _ _ rfl b.heap.size rfl ⟨true,5,m.tl,false,⟨#[]⟩,0⟩ _ rfl H.out rfl ?_;intro u' C y F)
   have S:=Q0 C;have B:∀ (k:Nat) (x:Array Value) (t:TypeId),E.heap[k]?=some (.cells x t (0,0))->t≠147->u'.heap[k]?=some (.cells x t (0,0)):=fun k x t h1 K=>(F k (J6 h1 H.out K)).trans h1;have W:=Q0 (B _ _ _ rT.out K3);have V:Hid (u'.ownsRow (b.heap.size+1) 34 2 u7 0 []):=Z0 I.out fun k g=>by
    obtain ⟨_,cur,d⟩:=Y2 I.out g;rw [B _ _ _ d K3,d]
   have HI6:Hid (u'.ownsRow (b.heap.size+1) 165 3 (.slice z is.length A) is.length (J5 is)):=Z0 J.out fun k g=>by
    obtain ⟨_,cur,d⟩:=Y2 J.out g;rw [B _ _ _ d K3,d]
   have X:=Q0 (Y.out.trans (y _ O0));have QS:=(y 0 O0).size;clear C y F B;go_roundw
   case rel=>exact ⟨1,⟨true,5,m.tl,false,⟨#[]⟩,0⟩,Mj,.slice z is.length A,rfl,O0,N,S,W,V,(fun h=>by cases h),gU,by show 0<=1;omega,.inr ⟨O0,fun h=>by cases h⟩,X,O0⟩
   case measure=>simp [intOf];omega
 subst hx0;have e0:P7 m.tl m.ar Mj ⟨0,j⟩=(Oc m.tl m.ar j.data.toList,⟨ok,is,[]⟩):=by simp [P7,Mj,HRD.out]
 rw [e0] at N;have gU:Hid (Cu ⟨ok,is,[]⟩):=⟨hil,hiz,fun i=>by simp [Jc,ByteArray.size]⟩;cases ok
 · have e7:Oc m.tl m.ar j.data.toList=l6 7 m.tl 0:=by unfold Oc;rw [HRD.out];rfl
   rw [e7] at N
   go_wp2_with fail
   rw [<- HU.out];refine (Pf 7 m.tl 0 U).mono ?_;rintro e E ⟨rfl,f⟩;have H:=Q0 (HTU.out.below f O0);have L:=(f.block _ O0).trans HLU.out;have rT:=Q0 L;have I:=Q0 (ownsRow_below HOU.out f);have J:=Q0 (ownsRow_below HIU.out f);have Y:=Q0 (HBU.out.trans (f.mono O0));have zU:U.heap.size<=E.heap.size:=f.size;clear f L
   go_wp2_with (refine Sb rfl _ _ rfl b.heap.size rfl ⟨true,7,m.tl,false,⟨#[]⟩,0⟩ _ rfl H.out rfl ?_;intro u' C y F)
   have S:=Q0 C;have B:∀ (k:Nat) (x:Array Value) (t:TypeId),E.heap[k]?=some (.cells x t (0,0))->t≠147->u'.heap[k]?=some (.cells x t (0,0)):=fun k x t h1 K=>(F k (J6 h1 H.out K)).trans h1;have W:=Q0 (B _ _ _ rT.out K3);have V:Hid (u'.ownsRow (b.heap.size+1) 34 2 u7 0 []):=Z0 I.out fun k g=>by
    obtain ⟨_,cur,d⟩:=Y2 I.out g;rw [B _ _ _ d K3,d]
   have HI6:Hid (u'.ownsRow (b.heap.size+1) 165 3 (.slice z is.length A) is.length (J5 is)):=Z0 J.out fun k g=>by
    obtain ⟨_,cur,d⟩:=Y2 J.out g;rw [B _ _ _ d K3,d]
   have X:=Q0 (Y.out.trans (y _ O0));have QS:=(y 0 O0).size;clear C y F B;go_roundw
   case rel=>exact ⟨1,⟨true,7,m.tl,false,⟨#[]⟩,0⟩,⟨false,is,[]⟩,.slice z is.length A,rfl,O0,N,S,W,V,(fun h=>by cases h),gU,by show 0<=1;omega,.inr ⟨O0,fun h=>by cases h⟩,X,O0⟩
   case measure=>simp [intOf];omega
 rcases hN:l9 is m.ar [] with ⟨o',c',tx',hh',n',st'⟩;have e7:Oc m.tl m.ar j.data.toList=⟨o',c',tx',hh',n',st'⟩:=by unfold Oc;rw [HRD.out];exact hN
 rw [e7] at N;have HN:=Q0 hN;clear hN e7;obtain ⟨a7,TZ,hv7,NZ⟩:=Kn (rs:=[]) HOU.out;have hu7:u7=.slice a7 0 TZ:=hv7;have a2E:=Q0 NZ;clear hv7 NZ;subst hu7;obtain ⟨a8,NP,FW,HI8⟩:=J7 HIU.out;have ha8:z=a8:=by injection FW
 subst ha8;have a2F:=Q0 HI8;clear FW HI8
 go_wp2_with fail
 rw [<- HU.out];refine (ZJ z A _ is m.ar a7 TZ 0 [] U rfl rfl ⟨O0,fun i=>Z4 (hiz i) O0,by have:=hm.2.2;exact this,I5 _,fun i=>by simp [Jc,ByteArray.size]⟩ a2F.out a2E.out HN.out).mono ?_;rintro e E ⟨rfl,f⟩;have H:=Q0 (HTU.out.below f O0);have L:=(f.block _ O0).trans HLU.out;have rT:=Q0 L;have I:=Q0 (ownsRow_below HOU.out f);have J:=Q0 (ownsRow_below HIU.out f);have Y:=Q0 (HBU.out.trans (f.mono O0));have zU:U.heap.size<=E.heap.size:=f.size;clear f L
 go_wp2_with (refine Sb rfl _ _ rfl b.heap.size rfl ⟨o',c',tx',hh',n',st'⟩ _ rfl H.out rfl ?_;intro u' C y F)
 have S:=Q0 C;have B:∀ (k:Nat) (x:Array Value) (t:TypeId),E.heap[k]?=some (.cells x t (0,0))->t≠147->u'.heap[k]?=some (.cells x t (0,0)):=fun k x t h1 K=>(F k (J6 h1 H.out K)).trans h1;have W:=Q0 (B _ _ _ rT.out K3);have V:Hid (u'.ownsRow (b.heap.size+1) 34 2 (.slice a7 0 TZ) 0 []):=Z0 I.out fun k g=>by
  obtain ⟨_,cur,d⟩:=Y2 I.out g;rw [B _ _ _ d K3,d]
 have HI6:Hid (u'.ownsRow (b.heap.size+1) 165 3 (.slice z is.length A) is.length (J5 is)):=Z0 J.out fun k g=>by
  obtain ⟨_,cur,d⟩:=Y2 J.out g;rw [B _ _ _ d K3,d]
 have X:=Q0 (Y.out.trans (y _ O0));have QS:=(y 0 O0).size;clear C y F B;go_roundw
 case rel=>exact ⟨1,⟨o',c',tx',hh',n',st'⟩,⟨true,is,[]⟩,.slice z is.length A,rfl,O0,N,S,W,V,(fun _=>HI6.out),gU,by show 0<=1;omega,.inr ⟨O0,fun _=>rfl⟩,X,O0⟩
 case measure=>simp [intOf];omega
theorem nI {tl ar:ByteArray} (ls:List M.L4):∀ (t:TN) (s:RS),(∃ i,i<ls.length/\¬ M.Lj (ls.getD i M.Ga))->Oy tl ar t s ls=L6:=by
 induction ls with
 | nil=>rintro t s ⟨i,h,_⟩;exact absurd h (F5 _)
 | cons x xs ih=>
  rintro t s ⟨i,c,b⟩;by_cases a:Halt t x
  · exact om a
  rw [nz a]
  cases i with
  | zero=>exact absurd (.inr (.inr (.inr b))) a
  | succ i=>exact ih _ _ ⟨i,by simpa using c,b⟩
theorem uL (m:M3) (a:Option Addr) (cap:Nat) (ls:List M.L4) (w:World) (d:m.le 1048576) (l:W_ m=false\/¬ M.Kr ls) (x:ls.length<=1048576) (t:∀ i,(ls.getD i M.Ga).le 1048576) (p:M.Ac w a ls):
 Calls prog 90 #[.agg #[.string m.nm,.string m.tl,.string m.ar],.slice a ls.length cap] w fun e w'=>e=.returned L6.v/\Below w.heap.size w w':=by
 have n:m.le 1048700:=⟨by have:=d.1;omega,by have:=d.2.1;omega,by have:=d.2.2;omega⟩;have z:=Q0 p;have y:=Q0 l;clear p l;have s:Hid (WS m w=(((w.alloc (.cells #[.string m.nm,.string m.tl,.string m.ar] 47)).alloc (.cells #[.bool false,.int .i64 0,.string ⟨#[]⟩,.bool false,.string ⟨#[]⟩,.int .i64 0] 147)).alloc (.cells #[.bool false,.int .i64 0,.string ⟨#[]⟩,.bool false,.string ⟨#[]⟩,.int .i64 0] 147))):=rfl;rcases hk:W_ m with _ | _
 · go_enter func90,ntmps90
   go_wp2_with fail
   rw [<- s.out];refine (Ju hk _ n).mono ?_;rintro e w1 ⟨rfl,c⟩;have b:Hid (Below (w.heap.size+3) (WS m w) w1):=c.mono (by rw [Yl];omega);clear c
   go_wp2_with (first | (refine Ji rfl (.tmp 5) rfl (w.heap.size+1+1) rfl L6 (PG b.out) ?_) | (refine Sb rfl (.tmp 4) _ rfl (w.heap.size+1) rfl L6 L6 rfl (DD b.out) rfl ?_;intro u' f g _))
   refine K4 (v:=L6.v) (M.j_ (P:=prog) (ty:=147) rfl _ _ (w.heap.size+1) _ _ rfl f.blk underlying147 rfl U2) rfl ⟨rfl,?_⟩;exact ((Uc m w).trans (b.out.mono O0)).trans (g _ O0)
 go_enter func90,ntmps90
 go_wp2_with fail
 rw [<- s.out];refine (Ju hk _ n).mono ?_;rintro e w1 ⟨rfl,c⟩;have j:Hid (Below (w.heap.size+3) (WS m w) w1):=c.mono (by rw [Yl];omega);have hz1:w.heap.size+3<=w1.heap.size:=by have:=c.size;rw [Yl] at this;exact this
 have q:=(Uc m w).trans (j.out.mono O0);clear c
 go_wp2_with fail
 refine (M.qN a cap ls w1 x t (M.Y_ z.out q)).mono ?_;rintro e w2 ⟨⟨r,rfl,k⟩,o⟩;have u:r=false:=by
  rcases y.out with h | h
  · rw [hk] at h;cases h
  cases r
  · rfl
  exact absurd (k.1 rfl) h
 subst u;have b:=Q0 (j.out.trans (o.mono O0));clear o q j k
 go_wp2_with (first | (refine Ji rfl (.tmp 5) rfl (w.heap.size+1+1) rfl L6 (PG b.out) ?_) | (refine Sb rfl (.tmp 4) _ rfl (w.heap.size+1) rfl L6 L6 rfl (DD b.out) rfl ?_;intro u' f g _))
 refine K4 (v:=L6.v) (M.j_ (P:=prog) (ty:=147) rfl _ _ (w.heap.size+1) _ _ rfl f.blk underlying147 rfl U2) rfl ⟨rfl,?_⟩;exact ((Uc m w).trans (b.out.mono O0)).trans (g _ O0)
theorem NP (m:M3) (a:Option Addr) (cap:Nat) (ls:List M.L4) (w:World) (c:m.le 1048576) (g:ls.length<=1048576) (b:∀ i,(ls.getD i M.Ga).le 1048576) (d:M.Ac w a ls):
 Calls prog 90 #[.agg #[.string m.nm,.string m.tl,.string m.ar],.slice a ls.length cap] w fun e w'=>e=.returned (goT m ls).v/\Below w.heap.size w w':=by
 by_cases j:W_ m=true;rotate_left
 · have l:W_ m=false:=by simpa using j
   rw [fF (.inl l)];exact uL m a cap ls w c (.inl l) g b d
 by_cases k:ls.length<=15;rotate_left
 · rw [fF (.inr O0)]
   exact uL m a cap ls w c (.inr fun h=>k h.1) g b d
 rw [yB j k];by_cases f:M.Kr ls
 · exact sP m a cap ls w c j f b d
 have o:∃ i,i<ls.length/\¬ M.Lj (ls.getD i M.Ga):=by
  apply Ph;intro h;exact f ⟨k,fun i n=>Ph fun p=>h ⟨i,n,p⟩⟩
 rw [nI ls _ _ o];exact uL m a cap ls w c (.inr f) g b d
open G (jf H6)
open G.T (F2 P6 X3 F3)
def Te (w:World) (x:W8):Prop:=∃ a c,x.lv=.slice a x.ls.length c/\M.Ac w a x.ls/\∀ k,x.lv.ownBlock=some k->k<w.heap.size
theorem Te.below {w w':World} {x:W8} (h:Te w x) (b:Below w.heap.size w w'):Te w' x:=by
 obtain ⟨a,c,h1,h2,h3⟩:=h;exact ⟨a,c,h1,M.Y_ h2 b,fun k e=>D7 (h3 k e) b.size⟩
structure az (E:Env) (y:W8):Prop where
 mem:y.m∈E.ms
 his:I9 E y.m y.ls
 ov:y.ov=true->(tn y.m y.ls).over=true/\(⟨y.cd,y.tx⟩:R2)=Pj (tn y.m y.ls)
 wt:y.ov=true->y.wt=⟨#[]⟩
structure Rm (E:Env) (kn:ByteArray->R2×Bool) (x y:W8):Prop where
 m:y.m=x.m
 ok:az E y
 pre:x.ls <+:y.ls
 ovd:x.ov=true->y=x
 blk:y.ov=false->(tn y.m y.ls).over=false/\(tn y.m y.ls).has=false/\(kn (tn y.m y.ls).name).2=false/\y.wt=(tn y.m y.ls).name
theorem Kk (x:W8) (h:x.lv.oneCell'=true):∀ v∈x.vs,v.oneCell'=true:=by
 intro v hv;simp only [W8.vs,D_,Xf,Nk] at hv;rcases hv with rfl | rfl | rfl | rfl | rfl | rfl | rfl | rfl
 all_goals first | rfl | exact h
theorem Gx {xs vs:List Value} (h:vs.length=xs.length):Tf xs 0 vs=vs:=by
 unfold Tf;rw [List.take_zero,R7,h,List.drop_length];simp
theorem Gu {ops:Array Oper} {rest:List Oper} {o:Oper} {a:Act} {u:World} {Q:Exit->Act->World->Prop} (c:o.guard=none) (x:Operand) (ho:o.op=.load 108 x) (B:Nat) (hx:a.eval x=.pointer (some ⟨B,0,none⟩)) (vs:List Value) (hB:Cl u B 108 vs) (b:vs.length=8)
 (h:wpList prog ops Q rest (a.put o.dst (.agg vs.toArray)) u):wpList prog ops Q (o::rest) a u:=
 Bh c (yg 108 x ho hx (fun i v e=>by rw [R7];exact (hB.cell i).trans e) underlying108 rfl (by rw [b];kernel_rfl)) h
theorem zA {ops:Array Oper} {rest:List Oper} {o:Oper} {a:Act} {u:World} {Q:Exit->Act->World->Prop} (f:o.guard=none) (x y:Operand) (ho:o.op=.store 108 x y) (B:Nat) (hx:a.eval x=.pointer (some ⟨B,0,none⟩)) (vs xs:List Value) (d:a.eval y=.agg vs.toArray) (hB:Cl u B 108 xs) (e:vs.length=8) (hxl:xs.length=8) (h1:∀ v∈vs,v.oneCell'=true) (g:o.dst=none)
 (h:∀ u',Cl u' B 108 vs->kr B u u'->wpList prog ops Q rest a u'):wpList prog ops Q (o::rest) a u:=
 Zi f 108 x y ho hx d hB O0 h1 (by rw [e];kernel_rfl) (fun w' b c=>by rw [Gx O0] at b;rw [g];exact h w' b c)
theorem Nb {P:Program} {fn:Func} {p q:Tmp} {ty:TypeId} (h:fn.results=#[.cell p ty,.tmp q]) (tmps:Array Value) (w:World) (B:Nat) (cs:List Value) (d:TypeDesc) (c:tmps.getD p undef=.pointer (some ⟨B,0,none⟩)) (g:M.Lc w B cs) (a:P.underlying ty=some d) (f:(match d with | .struct _ | .array _ _=>true | _=>false)=true) (e:(P.info? ty).map (·.size)=some cs.length):
 (results fn tmps).run P w=.ok (.tuple #[.agg cs.toArray,tmps.getD q undef]) w:=by
 have b:tmps[p]?.getD undef=.pointer (some ⟨B,0,none⟩):=by simpa using c
 simp [results,h,b,asAddr,M.Re w B ty cs d g a f e]
def z8:List Value:=[.string ⟨#[]⟩,.string ⟨#[]⟩,.string ⟨#[]⟩,.slice none 0 0,.bool false,.int .i64 0,.string ⟨#[]⟩,.string ⟨#[]⟩]
theorem Te.src {w u:World} {y:W8} (h:Te w y) (d:Below w.heap.size w u):Src u y.lv 4 y.ls.length (R4 y.ls):=by
 obtain ⟨a,c,h1,h2,_⟩:=h;have h3:=M.Y_ h2 d
 cases a with
 | none=>
  have:y.ls=[]:=by
   rcases h3 with h3 | ⟨b,off,h,_⟩
   · exact h3
   cases h
  rw [h1,this];exact .inl ⟨⟨c,rfl⟩,rfl,rfl⟩
 | some ad=>exact .inr ⟨ad,c,h1,Qi _,Wo h3⟩
theorem uh {w:World} {base:Nat} {e:TypeId} {size n m:Nat} {xs:List Value} {g c:Nat} (h:w.ownsRow base e size (.slice (some ⟨g,0,none⟩) n c) m xs):base<=g:=(h.lt g rfl).1
theorem AP (B5 g:Nat) (y:W8) (l:Bool) (kn:ByteArray) (m:Int) (j:ByteArray) (w:World) (u0 u1 u2 u3 u4 u6 u7 u9 u10 u11 u12 u13 u14 u15 u16 u17 u18 u19 u20 u21 u22 u23 u24 u25 u26 u27 u28 u29 u30 u31 u32 u33 u34 u35 u36 u37 u38 u39 u40 u41 u42 u43 u44 u45 u46 u47 u48 u49 u50 u51 u52 u53 u54 u55 u56 u57 u58 u59 u60:Value) {Q:Exit->Act->World->Prop} (hQ:∀ c (a:Act) (d:Option Tmp) (v:Value) w,Q (.panic c) (a.put d v) w->Q (.panic c) a w) (C5:Hid (Cl w B5 108 y.vs)) (C8:Hid (Cl w g 52 [.bool l,.string kn,.int .i64 m,.string j])) (LV:Hid (Te w y)) (hl:y.ls.length<=15)
 (ZV:∀ (t52 t53 t54 t55 t56 t57 t58 t59 PR:Value) (w':World),Cl w' B5 108 (y.vs.set 3 PR)->Te w' { y with lv:=PR,ls:=y.ls++[⟨l,kn,m,j⟩] }->(∀ k,PR.ownBlock=some k->w.heap.size<=k)->Ex (fun k=>k=B5) w w'->Q .normal { tmps:=#[u0,u1,u2,u3,u4,.pointer (some ⟨B5,0,none⟩),u6,u7,.pointer (some ⟨g,0,none⟩),u9,u10,u11,u12,u13,u14,u15,u16,u17,u18,u19,u20,u21,u22,u23,u24,u25,u26,u27,u28,u29,u30,u31,u32,u33,u34,u35,u36,u37,u38,u39,u40,u41,u42,u43,u44,u45,u46,u47,u48,u49,u50,u51,t52,t53,t54,t55,t56,t57,t58,t59,u60],defers:=[] } w'):
 (Code.region 15 #[⟨some 52,.buildSlice 48 0 #[],48, "l4_want.go:87",#[],none⟩,⟨some 53,.fieldAddr 108 (.tmp 5) 1,0, "l4_want.go:87",#[],none⟩,⟨some 54,.load 48 (.tmp 53),48, "l4_want.go:87",#[⟨1,.data⟩],none⟩,⟨some 55,.call ⟨.builtin .append,#[.tmp 52,.tmp 54],#[48,48]⟩,48, "l4_want.go:87",#[⟨0,.data⟩,⟨2,.data⟩],none⟩,⟨some 56,.load 52 (.tmp 8),52, "l4_want.go:87",#[],none⟩,⟨some 57,.buildSlice 48 1 #[(0,.tmp 56)],48, "l4_want.go:87",#[⟨4,.data⟩],none⟩,⟨some 58,.call ⟨.builtin .append,#[.tmp 55,.tmp 57],#[48,48]⟩,48, "l4_want.go:87",#[⟨3,.data⟩,⟨5,.data⟩,⟨3,.chain⟩],none⟩,⟨some 59,.fieldAddr 108 (.tmp 5) 1,0, "l4_want.go:87",#[⟨0,.phase⟩,⟨1,.phase⟩,⟨2,.phase⟩,⟨3,.phase⟩,⟨4,.phase⟩,⟨5,.phase⟩,⟨6,.phase⟩],none⟩,⟨none,.store 48 (.tmp 59) (.tmp 58),0, "l4_want.go:87",#[⟨7,.data⟩,⟨6,.data⟩,⟨6,.chain⟩,⟨0,.phase⟩,⟨1,.phase⟩,⟨2,.phase⟩,⟨3,.phase⟩,⟨4,.phase⟩,⟨5,.phase⟩,⟨6,.phase⟩],none⟩] true).wp prog Q { tmps:=#[u0,u1,u2,u3,u4,.pointer (some ⟨B5,0,none⟩),u6,u7,.pointer (some ⟨g,0,none⟩),u9,u10,u11,u12,u13,u14,u15,u16,u17,u18,u19,u20,u21,u22,u23,u24,u25,u26,u27,u28,u29,u30,u31,u32,u33,u34,u35,u36,u37,u38,u39,u40,u41,u42,u43,u44,u45,u46,u47,u48,u49,u50,u51,u52,u53,u54,u55,u56,u57,u58,u59,u60],defers:=[] } w:=by
 refine R8 (S:=fun u=>Cl u B5 108 y.vs/\Cl u g 52 [.bool l,.string kn,.int .i64 m,.string j]) 8 U2 ?_ fun n=>?_
 · exact ⟨C5.out,C8.out⟩
 have DX:True:=trivial;obtain ⟨r,hx0⟩:∃ x:World,x=w.drew:=⟨_,rfl⟩;rw [<- hx0] at n ⊢;have lY:Below w.heap.size w r:=by rw [hx0];exact (F4 _ w).drew
 have Dx0:Hid (Cl r B5 108 y.vs):=Q0 n.1;have Fx0:Hid (Cl r g 52 [.bool l,.string kn,.int .i64 m,.string j]):=Q0 n.2;have U:Hid (B5<w.heap.size):=Q0 C5.out.lt;have hB8:Hid (g<w.heap.size):=Q0 C8.out.lt;clear hx0;refine lq 1 n ?_
 try simp only [qq]
 refine lq 2 n ?_ (v:=?_) (hv:=?e)
 case e=>intro wq hSw;(try dsimp only at hSw);have s3:wq.cell? ⟨B5,3,none⟩=some y.lv:=hSw.1.cell 3;have s0:wq.cell? ⟨g,0,none⟩=some (.bool l):=hSw.2.cell 0;have s1:wq.cell? ⟨g,1,none⟩=some (.string kn):=hSw.2.cell 1;have s2:wq.cell? ⟨g,2,none⟩=some (.int .i64 m):=hSw.2.cell 2;have s4:wq.cell? ⟨g,3,none⟩=some (.string j):=hSw.2.cell 3;go_simp;try with_reducible rfl
 try simp only [qq]
 refine lq 4 n ?_ (v:=?_) (hv:=?e)
 case e=>intro wq hSw;(try dsimp only at hSw);have s3:wq.cell? ⟨B5,3,none⟩=some y.lv:=hSw.1.cell 3;have s0:wq.cell? ⟨g,0,none⟩=some (.bool l):=hSw.2.cell 0;have s1:wq.cell? ⟨g,1,none⟩=some (.string kn):=hSw.2.cell 1;have s2:wq.cell? ⟨g,2,none⟩=some (.int .i64 m):=hSw.2.cell 2;have s4:wq.cell? ⟨g,3,none⟩=some (.string j):=hSw.2.cell 3;go_simp;try with_reducible rfl
 try simp only [qq]
 refine Aj (rs:=[0,5]) U2 X0 (l8.cons K3 (o:=⟨some 52,.buildSlice 48 0 #[],48,_,_,none⟩) rfl (fun K f=>?_) (l8.cons K3 (o:=⟨some 57,.buildSlice 48 1 #[(0,.tmp 56)],48,_,_,none⟩) rfl (fun K f=>?_) l8.nil))
 · go_simp
   obtain ⟨p,R⟩:∃ x:World,x=r.alloc (.cells #[] 52):=⟨_,rfl⟩;rw [<- R];have dS:Below r.heap.size r p:=by rw [R];exact bA
   have YU:Hid (p.ownsRow w.heap.size 52 4 (.slice (some ⟨r.heap.size,0,none⟩) 0 0) 0 []):=by show World.ownsRow _ _ _ _ _ _ _;rw [R];exact Gm r #[] 0 lY.size (I5 _) rfl
   have X:Hid (Cl p B5 108 y.vs):=Q0 ((dS.block B5 Dx0.out.lt).trans Dx0.out);have W:Hid (Cl p g 52 [.bool l,.string kn,.int .i64 m,.string j]):=Q0 ((dS.block g Fx0.out.lt).trans Fx0.out);have I:=bT lY dS;have a2G:Hid (r.heap.size<p.heap.size):=by show _<_;rw [R];simp
   clear R;clear n;refine Z6 f ?_ fun n=>?_
   · exact ⟨X.out,W.out⟩
   clear f K;refine Aj (rs:=[3,5]) U2 X0 (l8.cons K3 (o:=⟨some 55,.call ⟨.builtin .append,#[.tmp 52,.tmp 54],#[48,48]⟩,48,_,_,none⟩) rfl (fun K f=>?_) (l8.cons K3 (o:=⟨some 57,.buildSlice 48 1 #[(0,.tmp 56)],48,_,_,none⟩) rfl (fun K f=>?_) l8.nil))
   · refine z_ rfl _ _ 48 rfl w.heap.size 52 4 underlying48 Ol K3 (.slice (some ⟨r.heap.size,0,none⟩) 0 0) 0 [] rfl YU.out y.lv y.ls.length (R4 y.ls) rfl (LV.out.src I) (He _) O0 I.size ?_
     intro v3 q O3 (g3:p.grownBy q (some r.heap.size)) at3;have a2H:Hid (q.ownsRow w.heap.size 52 4 v3 y.ls.length (R4 y.ls)):=by have:=O3;rw [R7,Ba] at this;exact this
     have t:Below w.heap.size w q:=⟨g3.os.trans I.os,g3.tape.trans I.tape,g3.output.trans I.output,Z4 I.size g3.size,fun k B=>(g3.block k (by have:=I.size;omega) (fun e=>by have e:=j6 e;have:=uh YU.out;omega)).trans (I.block k B)⟩;have O:Hid (Cl q B5 108 y.vs):=Q0 ((g3.block B5 X.out.lt (fun e=>by have e:=j6 e;have:=uh YU.out;have:=U.out;omega)).trans X.out);have L:Hid (Cl q g 52 [.bool l,.string kn,.int .i64 m,.string j]):=Q0 ((g3.block g W.out.lt (fun e=>by have e:=j6 e;have:=uh YU.out;have:=hB8.out;omega)).trans W.out);clear O3;clear n;refine Z6 f ?_ fun n=>?_
     · exact ⟨O.out,L.out⟩
     clear f K;refine lr (i:=5) (o:=⟨some 57,.buildSlice 48 1 #[(0,.tmp 56)],48,_,_,none⟩) rfl K3 U2 fun K f=>?_;go_simp;obtain ⟨z,hx3⟩:∃ x:World,x=q.alloc (.cells #[.bool l,.string kn,.int .i64 m,.string j] 52):=⟨_,rfl⟩;rw [<- hx3];have FT:Below q.heap.size q z:=by rw [hx3];exact bA
     have a2I:Hid (Cl z q.heap.size 52 [.bool l,.string kn,.int .i64 m,.string j]):=by show Cl _ _ _ _;rw [hx3];exact U1 q _ 52
     have N:Hid (Cl z B5 108 y.vs):=Q0 ((FT.block B5 O.out.lt).trans O.out);have J:Hid (Cl z g 52 [.bool l,.string kn,.int .i64 m,.string j]):=Q0 ((FT.block g L.out.lt).trans L.out);have s:=bT t FT;have eT:=Q0 (ownsRow_below a2H.out FT);have a4s:w.heap.size<=q.heap.size:=t.size;have a3w:Hid (∀ k,k<q.heap.size->k≠q.heap.size):=fun k h=>O0;have Gx3:=a2I;clear hx3;clear n;refine Z6 f ?_ fun n=>?_
     · exact ⟨N.out,J.out⟩
     clear f K;refine lr (i:=6) (o:=⟨some 58,.call ⟨.builtin .append,#[.tmp 55,.tmp 57],#[48,48]⟩,48,_,_,none⟩) rfl K3 U2 fun K f=>?_;refine z_ rfl _ _ 48 rfl w.heap.size 52 4 underlying48 Ol K3 v3 y.ls.length (R4 y.ls) rfl eT.out (.slice (some ⟨q.heap.size,0,none⟩) 1 1) 1 [.bool l,.string kn,.int .i64 m,.string j] rfl (.inr ⟨⟨q.heap.size,0,none⟩,1,rfl,rfl,za Gx3.out⟩) (by intro u Z;simp at Z;rcases Z with rfl | rfl | rfl | rfl <;> rfl) O0 s.size ?_;intro v6 A O6 g6 at6;have C:∀ k,v3.ownBlock=some k->w.heap.size<=k:=fun k e=>(eT.out.lt k e).1;have D:Below w.heap.size w A:=⟨g6.os.trans s.os,g6.tape.trans s.tape,g6.output.trans s.output,Z4 s.size g6.size,fun k B=>(g6.block k (by have:=s.size;omega) (fun e=>by have:=C k e.symm;omega)).trans (s.block k B)⟩;have H:Hid (Cl A B5 108 y.vs):=Q0 ((g6.block B5 N.out.lt (fun e=>by have:=C _ e.symm;have:=U.out;omega)).trans N.out);have Fx4:Hid (Cl A g 52 [.bool l,.string kn,.int .i64 m,.string j]):=Q0 ((g6.block g J.out.lt (fun e=>by have:=C _ e.symm;have:=hB8.out;omega)).trans J.out);have F:Hid (A.ownsRow w.heap.size 52 4 v6 (y.ls++[(⟨l,kn,m,j⟩:M.L4)]).length (R4 (y.ls++[⟨l,kn,m,j⟩]))):=by show World.ownsRow _ _ _ _ _ _ _;rw [Af,Q7];exact O6
     clear O6 C;clear n;refine Z6 f ?_ fun n=>?_
     · exact ⟨H.out,Fx4.out⟩
     clear f K;refine lq 7 n ?_
     try simp only [qq]
     refine lz (o:=⟨none,.store 48 (.tmp 59) (.tmp 58),0,_,_,none⟩) rfl U2 fun K f=>?_;have z3:A.cell? ⟨B5,3,none⟩=some y.lv:=H.out.cell 3;have zf:=H.out.opn 3;obtain ⟨E,rR,e6,k6⟩:=yf F.out;subst e6;go_simp;clear n;refine f.out _ _ ?_;clear f K
     try simp only [qq]
     refine l_ U2 ?_ _;refine ZV _ _ _ _ _ _ _ _ (.slice E (y.ls.length+1) rR) _ (H.out.set 3 _) ⟨E,rR,X0,M.wu k6 (fun b off e hne=>?_),fun k e=>?_⟩ (fun k e=>?_) ?_
     · subst e
       have C:=(F.out.lt b rfl).1;have:=U.out;show B5≠b;omega
     · cases E with
       | none=>cases e
       | some ad=>have:=(F.out.lt k e).2;simpa using this
     · cases E with
       | none=>cases e
       | some ad=>exact (F.out.lt k e).1
     exact ⟨D.os,D.tape,D.output,by simpa using D.size,fun k B hn=>(Z8 _ _ _ _ hn).trans (D.block k B)⟩
   go_simp;obtain ⟨q,P⟩:∃ x:World,x=p.alloc (.cells #[.bool l,.string kn,.int .i64 m,.string j] 52):=⟨_,rfl⟩;rw [<- P];have Y:Below p.heap.size p q:=by rw [P];exact bA
   have a2J:Hid (Cl q p.heap.size 52 [.bool l,.string kn,.int .i64 m,.string j]):=by show Cl _ _ _ _;rw [P];exact U1 p _ 52
   have O:Hid (Cl q B5 108 y.vs):=Q0 ((Y.block B5 X.out.lt).trans X.out);have L:Hid (Cl q g 52 [.bool l,.string kn,.int .i64 m,.string j]):=Q0 ((Y.block g W.out.lt).trans W.out);have t:=bT I Y;have V:=Q0 (ownsRow_below YU.out Y);have a4t:w.heap.size<=p.heap.size:=I.size;have a3x:Hid (∀ k,k<p.heap.size->k≠p.heap.size):=fun k h=>O0;have Gx2:=a2J;clear P;clear n;refine Z6 f ?_ fun n=>?_
   · exact ⟨O.out,L.out⟩
   clear f K;refine lr (i:=3) (o:=⟨some 55,.call ⟨.builtin .append,#[.tmp 52,.tmp 54],#[48,48]⟩,48,_,_,none⟩) rfl K3 U2 fun K f=>?_;refine z_ rfl _ _ 48 rfl w.heap.size 52 4 underlying48 Ol K3 (.slice (some ⟨r.heap.size,0,none⟩) 0 0) 0 [] rfl V.out y.lv y.ls.length (R4 y.ls) rfl (LV.out.src t) (He _) O0 t.size ?_;intro v3 z O3 (g3:q.grownBy z (some r.heap.size)) at3;have eT:Hid (z.ownsRow w.heap.size 52 4 v3 y.ls.length (R4 y.ls)):=by have:=O3;rw [R7,Ba] at this;exact this
   have s:Below w.heap.size w z:=⟨g3.os.trans t.os,g3.tape.trans t.tape,g3.output.trans t.output,Z4 t.size g3.size,fun k B=>(g3.block k (by have:=t.size;omega) (fun e=>by have e:=j6 e;have:=uh V.out;omega)).trans (t.block k B)⟩;have N:Hid (Cl z B5 108 y.vs):=Q0 ((g3.block B5 O.out.lt (fun e=>by have e:=j6 e;have:=uh V.out;have:=U.out;omega)).trans O.out);have J:Hid (Cl z g 52 [.bool l,.string kn,.int .i64 m,.string j]):=Q0 ((g3.block g L.out.lt (fun e=>by have e:=j6 e;have:=uh V.out;have:=hB8.out;omega)).trans L.out);have Gx3:Hid (Cl z p.heap.size 52 [.bool l,.string kn,.int .i64 m,.string j]):=Q0 ((g3.block p.heap.size Gx2.out.lt (fun e=>by have e:=j6 e;have:=a2G.out;omega)).trans Gx2.out);clear O3;clear n;refine Z6 f ?_ fun n=>?_
   · exact ⟨N.out,J.out⟩
   clear f K;refine lr (i:=6) (o:=⟨some 58,.call ⟨.builtin .append,#[.tmp 55,.tmp 57],#[48,48]⟩,48,_,_,none⟩) rfl K3 U2 fun K f=>?_;refine z_ rfl _ _ 48 rfl w.heap.size 52 4 underlying48 Ol K3 v3 y.ls.length (R4 y.ls) rfl eT.out (.slice (some ⟨p.heap.size,0,none⟩) 1 1) 1 [.bool l,.string kn,.int .i64 m,.string j] rfl (.inr ⟨⟨p.heap.size,0,none⟩,1,rfl,rfl,za Gx3.out⟩) (by intro u Z;simp at Z;rcases Z with rfl | rfl | rfl | rfl <;> rfl) O0 s.size ?_;intro v6 A O6 g6 at6;have C:∀ k,v3.ownBlock=some k->w.heap.size<=k:=fun k e=>(eT.out.lt k e).1;have D:Below w.heap.size w A:=⟨g6.os.trans s.os,g6.tape.trans s.tape,g6.output.trans s.output,Z4 s.size g6.size,fun k B=>(g6.block k (by have:=s.size;omega) (fun e=>by have:=C k e.symm;omega)).trans (s.block k B)⟩;have H:Hid (Cl A B5 108 y.vs):=Q0 ((g6.block B5 N.out.lt (fun e=>by have:=C _ e.symm;have:=U.out;omega)).trans N.out);have Fx4:Hid (Cl A g 52 [.bool l,.string kn,.int .i64 m,.string j]):=Q0 ((g6.block g J.out.lt (fun e=>by have:=C _ e.symm;have:=hB8.out;omega)).trans J.out);have F:Hid (A.ownsRow w.heap.size 52 4 v6 (y.ls++[(⟨l,kn,m,j⟩:M.L4)]).length (R4 (y.ls++[⟨l,kn,m,j⟩]))):=by show World.ownsRow _ _ _ _ _ _ _;rw [Af,Q7];exact O6
   clear O6 C;clear n;refine Z6 f ?_ fun n=>?_
   · exact ⟨H.out,Fx4.out⟩
   clear f K;refine lq 7 n ?_
   try simp only [qq]
   refine lz (o:=⟨none,.store 48 (.tmp 59) (.tmp 58),0,_,_,none⟩) rfl U2 fun K f=>?_;have z3:A.cell? ⟨B5,3,none⟩=some y.lv:=H.out.cell 3;have zf:=H.out.opn 3;obtain ⟨E,rR,e6,k6⟩:=yf F.out;subst e6;go_simp;clear n;refine f.out _ _ ?_;clear f K
   try simp only [qq]
   refine l_ U2 ?_ _;refine ZV _ _ _ _ _ _ _ _ (.slice E (y.ls.length+1) rR) _ (H.out.set 3 _) ⟨E,rR,X0,M.wu k6 (fun b off e hne=>?_),fun k e=>?_⟩ (fun k e=>?_) ?_
   · subst e
     have C:=(F.out.lt b rfl).1;have:=U.out;show B5≠b;omega
   · cases E with
     | none=>cases e
     | some ad=>have:=(F.out.lt k e).2;simpa using this
   · cases E with
     | none=>cases e
     | some ad=>exact (F.out.lt k e).1
   exact ⟨D.os,D.tape,D.output,by simpa using D.size,fun k B hn=>(Z8 _ _ _ _ hn).trans (D.block k B)⟩
 go_simp;obtain ⟨p,R⟩:∃ x:World,x=r.alloc (.cells #[.bool l,.string kn,.int .i64 m,.string j] 52):=⟨_,rfl⟩;rw [<- R];have dS:Below r.heap.size r p:=by rw [R];exact bA
 have a2K:Hid (Cl p r.heap.size 52 [.bool l,.string kn,.int .i64 m,.string j]):=by show Cl _ _ _ _;rw [R];exact U1 r _ 52
 have X:Hid (Cl p B5 108 y.vs):=Q0 ((dS.block B5 Dx0.out.lt).trans Dx0.out);have W:Hid (Cl p g 52 [.bool l,.string kn,.int .i64 m,.string j]):=Q0 ((dS.block g Fx0.out.lt).trans Fx0.out);have I:=bT lY dS;have a4u:w.heap.size<=r.heap.size:=lY.size;have a3y:Hid (∀ k,k<r.heap.size->k≠r.heap.size):=fun k h=>O0;have Gx1:=a2K;clear R;clear n;refine Z6 f ?_ fun n=>?_
 · exact ⟨X.out,W.out⟩
 clear f K;refine lr (i:=0) (o:=⟨some 52,.buildSlice 48 0 #[],48,_,_,none⟩) rfl K3 U2 fun K f=>?_;go_simp;obtain ⟨q,P⟩:∃ x:World,x=p.alloc (.cells #[] 52):=⟨_,rfl⟩;rw [<- P];have Y:Below p.heap.size p q:=by rw [P];exact bA
 have V:Hid (q.ownsRow w.heap.size 52 4 (.slice (some ⟨p.heap.size,0,none⟩) 0 0) 0 []):=by show World.ownsRow _ _ _ _ _ _ _;rw [P];exact Gm p #[] 0 I.size (I5 _) rfl
 have O:Hid (Cl q B5 108 y.vs):=Q0 ((Y.block B5 X.out.lt).trans X.out);have L:Hid (Cl q g 52 [.bool l,.string kn,.int .i64 m,.string j]):=Q0 ((Y.block g W.out.lt).trans W.out);have t:=bT I Y;have a4v:Hid (p.heap.size<q.heap.size):=by show _<_;rw [P];simp
 have Gx2:Hid (Cl q r.heap.size 52 [.bool l,.string kn,.int .i64 m,.string j]):=Q0 ((Y.block _ Gx1.out.lt).trans Gx1.out);clear P;clear n;refine Z6 f ?_ fun n=>?_
 · exact ⟨O.out,L.out⟩
 clear f K;refine lr (i:=3) (o:=⟨some 55,.call ⟨.builtin .append,#[.tmp 52,.tmp 54],#[48,48]⟩,48,_,_,none⟩) rfl K3 U2 fun K f=>?_;refine z_ rfl _ _ 48 rfl w.heap.size 52 4 underlying48 Ol K3 (.slice (some ⟨p.heap.size,0,none⟩) 0 0) 0 [] rfl V.out y.lv y.ls.length (R4 y.ls) rfl (LV.out.src t) (He _) O0 t.size ?_;intro v3 z O3 (g3:q.grownBy z (some p.heap.size)) at3;have eT:Hid (z.ownsRow w.heap.size 52 4 v3 y.ls.length (R4 y.ls)):=by have:=O3;rw [R7,Ba] at this;exact this
 have s:Below w.heap.size w z:=⟨g3.os.trans t.os,g3.tape.trans t.tape,g3.output.trans t.output,Z4 t.size g3.size,fun k B=>(g3.block k (by have:=t.size;omega) (fun e=>by have e:=j6 e;have:=uh V.out;omega)).trans (t.block k B)⟩;have N:Hid (Cl z B5 108 y.vs):=Q0 ((g3.block B5 O.out.lt (fun e=>by have e:=j6 e;have:=uh V.out;have:=U.out;omega)).trans O.out);have J:Hid (Cl z g 52 [.bool l,.string kn,.int .i64 m,.string j]):=Q0 ((g3.block g L.out.lt (fun e=>by have e:=j6 e;have:=uh V.out;have:=hB8.out;omega)).trans L.out);have Gx3:Hid (Cl z r.heap.size 52 [.bool l,.string kn,.int .i64 m,.string j]):=Q0 ((g3.block r.heap.size Gx2.out.lt (fun e=>by have e:=j6 e;have:=Gx1.out.lt;omega)).trans Gx2.out);clear O3;clear n;refine Z6 f ?_ fun n=>?_
 · exact ⟨N.out,J.out⟩
 clear f K;refine lr (i:=6) (o:=⟨some 58,.call ⟨.builtin .append,#[.tmp 55,.tmp 57],#[48,48]⟩,48,_,_,none⟩) rfl K3 U2 fun K f=>?_;refine z_ rfl _ _ 48 rfl w.heap.size 52 4 underlying48 Ol K3 v3 y.ls.length (R4 y.ls) rfl eT.out (.slice (some ⟨r.heap.size,0,none⟩) 1 1) 1 [.bool l,.string kn,.int .i64 m,.string j] rfl (.inr ⟨⟨r.heap.size,0,none⟩,1,rfl,rfl,za Gx3.out⟩) (by intro u Z;simp at Z;rcases Z with rfl | rfl | rfl | rfl <;> rfl) O0 s.size ?_;intro v6 A O6 g6 at6;have C:∀ k,v3.ownBlock=some k->w.heap.size<=k:=fun k e=>(eT.out.lt k e).1;have D:Below w.heap.size w A:=⟨g6.os.trans s.os,g6.tape.trans s.tape,g6.output.trans s.output,Z4 s.size g6.size,fun k B=>(g6.block k (by have:=s.size;omega) (fun e=>by have:=C k e.symm;omega)).trans (s.block k B)⟩;have H:Hid (Cl A B5 108 y.vs):=Q0 ((g6.block B5 N.out.lt (fun e=>by have:=C _ e.symm;have:=U.out;omega)).trans N.out);have Fx4:Hid (Cl A g 52 [.bool l,.string kn,.int .i64 m,.string j]):=Q0 ((g6.block g J.out.lt (fun e=>by have:=C _ e.symm;have:=hB8.out;omega)).trans J.out);have F:Hid (A.ownsRow w.heap.size 52 4 v6 (y.ls++[(⟨l,kn,m,j⟩:M.L4)]).length (R4 (y.ls++[⟨l,kn,m,j⟩]))):=by show World.ownsRow _ _ _ _ _ _ _;rw [Af,Q7];exact O6
 clear O6 C;clear n;refine Z6 f ?_ fun n=>?_
 · exact ⟨H.out,Fx4.out⟩
 clear f K;refine lq 7 n ?_
 try simp only [qq]
 refine lz (o:=⟨none,.store 48 (.tmp 59) (.tmp 58),0,_,_,none⟩) rfl U2 fun K f=>?_;have z3:A.cell? ⟨B5,3,none⟩=some y.lv:=H.out.cell 3;have zf:=H.out.opn 3;obtain ⟨E,rR,e6,k6⟩:=yf F.out;subst e6;go_simp;clear n;refine f.out _ _ ?_;clear f K
 try simp only [qq]
 refine l_ U2 ?_ _;refine ZV _ _ _ _ _ _ _ _ (.slice E (y.ls.length+1) rR) _ (H.out.set 3 _) ⟨E,rR,X0,M.wu k6 (fun b off e hne=>?_),fun k e=>?_⟩ (fun k e=>?_) ?_
 · subst e
   have C:=(F.out.lt b rfl).1;have:=U.out;show B5≠b;omega
 · cases E with
   | none=>cases e
   | some ad=>have:=(F.out.lt k e).2;simpa using this
 · cases E with
   | none=>cases e
   | some ad=>exact (F.out.lt k e).1
 exact ⟨D.os,D.tape,D.output,by simpa using D.size,fun k B hn=>(Z8 _ _ _ _ hn).trans (D.block k B)⟩
theorem Ez (b:ByteArray):b.data.toList.length=b.size:=rfl
theorem Qb {b:ByteArray} (h:J2 b.data.toList=true):b.size<=20:=by
 unfold J2 at h;simp only [V7,Q_] at h;have:=h.1.2
 rwa [Ez] at this
theorem xB {x:M.L4} (h:M.Lj x):x.le 1048576:=by
 refine ⟨by have:=Qb h.1;omega,?_⟩;rcases h.2 with ⟨_,⟨_,a⟩ | ⟨_,a⟩⟩ | ⟨_,a⟩
 · rw [a];exact I5 _
 · rw [a];have:=Qb h.1;omega
 have:=Ai a;rw [Ez] at this;omega
theorem WC {m:M3} (h:W_ m=true):m.le 1048576:=by
 obtain ⟨h1,h2,h3⟩:=Lm h;exact ⟨by have:=Qb h1;omega,by have:=Qb h2;omega,O0⟩
theorem sI {E:Env} (hE:Y7 E) {m:M3} {L:List M.L4} (b:W_ m=true) (h:I9 E m L):∀ i,(L.getD i M.Ga).le 1048576:=fun i=>by
 rcases U5 i L.length with a | a
 · have e:L.getD i M.Ga=L[i]:=by simp [List.getD,F8 a]
   rw [e];exact xB ((ze hE b h).2 _ (Ea a))
 have e:L.getD i M.Ga=M.Ga:=by simp [List.getD,Xe a]
 rw [e];exact ⟨I5 _,I5 _⟩
theorem Xl {fs:List F2} (b:X3 fs):∀ i,(fs.getD i P6).le 1048576:=fun i=>by
 rcases U5 i fs.length with a | a
 · have:=b.2 i a
   unfold G.T.r_ G.T.V9 at this;simp only [V7,Q_] at this;have h1:=Qb this.1.1;exact ⟨O0,by have:=this.1.2;omega⟩
 have e:fs.getD i P6=P6:=by simp [List.getD,Xe a]
 rw [e];exact ⟨I5 _,I5 _⟩
structure aM (w:World) (tv:Value) (y:W8) (u:World):Prop where
 c3:Cl u w.heap.size 25 [tv]
 c7:Cl u (w.heap.size+1) 108 y.vs
 rR:Cl u (w.heap.size+2) 108 z8
 lv:Te u y
 nb:y.ls≠[]->∀ k,y.lv.ownBlock=some k->k≠w.heap.size+1/\k≠w.heap.size+2
 bl:Below w.heap.size w u
theorem aM.below {w:World} {tv:Value} {y:W8} {u u':World} (h:aM w tv y u) (a:Below u.heap.size u u'):aM w tv y u':=
 ⟨h.c3.below a h.c3.lt,h.c7.below a h.c7.lt,h.rR.below a h.rR.lt,h.lv.below a,h.nb,h.bl.trans (a.mono h.bl.size)⟩
theorem kr.trans {B:Nat} {a b c:World} (h:kr B a b) (k:kr B b c):kr B a c:=⟨k.os.trans h.os,k.tape.trans h.tape,k.output.trans h.output,k.size.trans h.size,fun i d=>(k.block i d).trans (h.block i d)⟩
theorem Te.wH {u u':World} {y y':W8} {B:Nat} (h:Te u y) (ho:kr B u u') (n:y.ls≠[]->∀ k,y.lv.ownBlock=some k->k≠B) (l:y'.lv=y.lv) (g:y'.ls=y.ls):Te u' y':=by
 obtain ⟨a,c,h1,h2,h3⟩:=h;refine ⟨a,c,by rw [l,g];exact h1,?_,fun k e=>by rw [l] at e;rw [ho.size];exact h3 k e⟩;rw [g];rcases h2 with h2 | ⟨b,m,f,q,p⟩
 · exact .inl h2
 by_cases d:y.ls=[]
 · exact .inl d
 have hB:=n d b (by rw [h1,f];rfl);have e:∀ j,u'.cell? ⟨b,j,none⟩=u.cell? ⟨b,j,none⟩:=fun j=>Xz (ho.block b hB);refine .inr ⟨b,m,f,by rw [ho.size];exact q,fun i o=>?_⟩;rw [e,e,e,e];exact p i o
theorem Ch {ws:List W8} {nm:ByteArray} {z:W8} (h:L_ ws nm=some z):z.m.nm=nm/\∃ i,i<ws.length/\ws.getD i J9=z:=by
 unfold L_ at h;have h1:=Tz h;have h2:=YA h;obtain ⟨i,a,rfl⟩:=Lb h2;exact ⟨by simpa using h1,i,a,by simp [List.getD,F8 a]⟩
theorem dM {E:Env} {fs:List F2} {ms:List M3} (hE:E=P5 fs ms) (vS:Y7 E) (hp:H6 fs ms) {ws:List W8} (f:∀ i,i<ws.length->az E (ws.getD i J9)) {c s:Int} {t n:ByteArray} {r:R2} (h:Rj fs ms ws n=(r,true)):Zy E ⟨false,c,t,false,n,s⟩ r:=by
 refine .inr ⟨rfl,?_⟩;unfold Rj at h
 cases hpl:jf fs ms n with
 | some p=>
  rw [hpl] at h;have e:=V3 Prod.fst h;refine .inl ?_;rw [hE];show (jf fs ms n).map Rq=some r;have k:Rq p=r:=e;rw [hpl,<- k];rfl
 | none=>
  rw [hpl] at h
  cases hf:L_ ws n with
  | none=>rw [hf] at h;cases V3 Prod.snd h
  | some z=>
   rw [hf] at h;have j:(⟨z.cd,z.tx⟩:R2)=r:=V3 Prod.fst h;have g:z.ov=true:=V3 Prod.snd h;obtain ⟨b,i,d,a⟩:=Ch hf;have hw:=f i d;rw [a] at hw;obtain ⟨h1,h2⟩:=hw.ov g;refine .inr ⟨by rw [hE];exact ym.2 hpl,z.m,z.ls,hw.mem,b,hw.his,h1,?_⟩;rw [<- j,h2]
theorem fQ (E:Env) (a:Option Addr) (cap:Nat) (fs:List F2) (ms:List M3) (hE:E=P5 fs ms) (wa:Option Addr) (wc:Nat) (ws:List W8) (x:W8) (w:World) (hat:F3 w a fs) (ht:X3 fs) (hp:H6 fs ms) (GU:ws.length<=300) (hws:Zh w wa ws) (hwo:∀ i,i<ws.length->az E (ws.getD i J9)) (hx:az E x) (hlv:Te w x):
 Calls prog 58 #[.agg #[.slice a fs.length cap],.slice wa ws.length wc,.agg x.vs.toArray] w fun e w'=>∃ y:W8,e=.returned (.agg y.vs.toArray)/\Rm E (Rj fs ms ws) x y/\Te w' y/\Nw w x.lv y.lv/\Below w.heap.size w w':=by
 have HX:=Q0 hx;have HW:=Q0 hwo;have HAT:=Q0 hat;have OV:=Q0 hws;have V:Hid (Y7 E):=by unfold Hid;rw [hE];exact zb ht hp
 have HT:=Q0 ht;have HP:=Q0 hp;have hfl:fs.length<=1048576:=by have:=ht.1;omega
 have HF:=Q0 (Xl ht);have HE:=Q0 hE;have HU:Hid (aM w (.slice a fs.length cap) x (((w.alloc (.cells #[.slice a fs.length cap] 25)).alloc (.cells #[.string x.m.nm,.string x.m.tl,.string x.m.ar,x.lv,.bool x.ov,.int .i64 x.cd,.string x.tx,.string x.wt] 108)).alloc (.cells #[.string ⟨#[]⟩,.string ⟨#[]⟩,.string ⟨#[]⟩,.slice none 0 0,.bool false,.int .i64 0,.string ⟨#[]⟩,.string ⟨#[]⟩] 108))):=by
  have hb:=(((F4 w.heap.size w).alloc P9 (.cells #[.slice a fs.length cap] 25)).alloc X0 (.cells #[.string x.m.nm,.string x.m.tl,.string x.m.ar,x.lv,.bool x.ov,.int .i64 x.cd,.string x.tx,.string x.wt] 108)).alloc J4 (.cells #[.string ⟨#[]⟩,.string ⟨#[]⟩,.string ⟨#[]⟩,.slice none 0 0,.bool false,.int .i64 0,.string ⟨#[]⟩,.string ⟨#[]⟩] 108);have h5:=U1 (w.alloc (.cells #[.slice a fs.length cap] 25)) x.vs 108;have h6:=U1 ((w.alloc (.cells #[.slice a fs.length cap] 25)).alloc (.cells #[.string x.m.nm,.string x.m.tl,.string x.m.ar,x.lv,.bool x.ov,.int .i64 x.cd,.string x.tx,.string x.wt] 108)) z8 108;simp only [Wn] at h5 h6;exact ⟨J_ (J_ (U1 w [.slice a fs.length cap] 25) _) _,J_ h5 _,h6,hlv.below hb,fun p k e=>(by
   obtain ⟨a',c',h1,h2,_⟩:=hlv;rcases h2 with h2 | ⟨b,off,h3,h4,_⟩
   · exact absurd h2 p
   rw [h1,h3] at e;have e':b=k:=j6 e;omega),hb⟩
 clear hx hlv hwo hat hws ht hp hE;go_enter func58,ntmps58;rw [show (Value.agg x.vs.toArray)=.agg #[.string x.m.nm,.string x.m.tl,.string x.m.ar,x.lv,.bool x.ov,.int .i64 x.cd,.string x.tx,.string x.wt] from rfl]
 go_wp2_with fail
 go_loopg [] (16 - x.ls.length) (fun k wr=>∃ y:W8,Hid (y.m=x.m/\az E y/\x.ls <+:y.ls/\(y.ov=true->y=x)/\(x.ov=true->y=x)/\Nw w x.lv y.lv)/\Hid (aM w (.slice a fs.length cap) y wr)/\k=16 - y.ls.length)
 case atStart=>exact ⟨x,⟨rfl,HX.out,List.prefix_refl _,fun _=>rfl,fun _=>rfl,jh _ _⟩,HU.out,rfl⟩
 obtain ⟨y,f,q,rfl⟩:=hrel;have hmk:=V.out.ms _ f.out.2.1.mem;have hyl:=(ze V.out hmk f.out.2.1.his).1;have HLE:=Q0 (sI V.out hmk f.out.2.1.his);have KX:=Q0 (WC hmk);have HGT:=Q0 (NE V.out hmk f.out.2.1.his);obtain ⟨la,lc,hla,hlk,_⟩:=q.out.lv;have VR:=Q0 hlk;have hz:w.heap.size+2<wr.heap.size:=q.out.rR.lt;have k0:wr.cell? ⟨w.heap.size+1,0,none⟩=some (.string y.m.nm):=q.out.c7.cell 0;have k1:wr.cell? ⟨w.heap.size+1,1,none⟩=some (.string y.m.tl):=q.out.c7.cell 1;have k2:wr.cell? ⟨w.heap.size+1,2,none⟩=some (.string y.m.ar):=q.out.c7.cell 2;have k3:wr.cell? ⟨w.heap.size+1,3,none⟩=some (.slice la y.ls.length lc):=hla▸q.out.c7.cell 3;have k4:wr.cell? ⟨w.heap.size+1,4,none⟩=some (.bool y.ov):=q.out.c7.cell 4;have HNL:Hid (y.ls≠[]->∀ k,y.lv.ownBlock=some k->k<wr.heap.size):=fun p k e=>by
  rcases hlk with h | ⟨b,off,h3,h4,_⟩
  · exact absurd h p
  rw [hla,h3] at e;have e':b=k:=j6 e;omega
 clear hla hlk hmk;cases wS:y.ov
 · rw [wS] at k4
   go_wp2_with fail
   refine (NP y.m la lc y.ls wr KX.out O0 HLE.out VR.out).mono ?_;rintro e w1 ⟨rfl,hb1⟩;obtain ⟨t,U⟩:∃ t,Hid (tn y.m y.ls=t):=⟨_,rfl⟩;rw [HGT.out,U.out];have HB1:=Q0 (q.out.below hb1);have hz1:=D7 hz hb1.size;have a4w:wr.heap.size<=w1.heap.size:=hb1.size;obtain ⟨o,tc,l,C,c,ts⟩:=t;rw [show (TN.v ⟨o,tc,l,C,c,ts⟩)=.agg #[.bool o,.int .i64 tc,.string l,.bool C,.string c,.int .i64 ts] from rfl];clear k0 k1 k2 k3 k4 hb1 VR HGT
   go_upto_region 3 with fail
   obtain ⟨n,hw2⟩:∃ u:World,u=w1.alloc (.cells #[.bool o,.int .i64 tc,.string l,.bool C,.string c,.int .i64 ts] 147):=⟨_,rfl⟩;rw [<- hw2];have hb2:Below w1.heap.size w1 n:=by rw [hw2];exact bA
   have g:=Q0 (HB1.out.below hb2);have K:Hid (Cl n w1.heap.size 147 [.bool o,.int .i64 tc,.string l,.bool C,.string c,.int .i64 ts]):=by show Cl _ _ _ _;rw [hw2];exact U1 w1 _ 147
   have hz2:=K.out.lt;have j0:n.cell? ⟨w1.heap.size,0,none⟩=some (.bool o):=K.out.cell 0;have j1:n.cell? ⟨w1.heap.size,1,none⟩=some (.int .i64 tc):=K.out.cell 1;have j2:n.cell? ⟨w1.heap.size,2,none⟩=some (.string l):=K.out.cell 2;have j3:n.cell? ⟨w1.heap.size,3,none⟩=some (.bool C):=K.out.cell 3;have O:n.cell? ⟨w1.heap.size,4,none⟩=some (.string c):=K.out.cell 4;clear hw2 hb2 HB1;cases o;rotate_left
   · have HR:Hid (Rm E (Rj fs ms ws) x ⟨y.m,y.lv,y.ls,true,tc,l,⟨#[]⟩⟩):=
      ⟨f.out.1,⟨f.out.2.1.mem,f.out.2.1.his,(fun _=>by show (tn y.m y.ls).over=true/\(⟨tc,l⟩:R2)=Pj (tn y.m y.ls);rw [U.out];exact ⟨rfl,rfl⟩),fun _=>rfl⟩,f.out.2.2.1,(fun h=>by have:=f.out.2.2.2.2.1 h;rw [<- this,wS] at h;cases h),(fun h=>by cases h)⟩
     have q4:n.cell? ⟨w.heap.size+1,4,none⟩=some (.bool y.ov):=g.out.c7.cell 4;have q5:n.cell? ⟨w.heap.size+1,5,none⟩=some (.int .i64 y.cd):=g.out.c7.cell 5;have q6:n.cell? ⟨w.heap.size+1,6,none⟩=some (.string y.tx):=g.out.c7.cell 6;have q7:n.cell? ⟨w.heap.size+1,7,none⟩=some (.string y.wt):=g.out.c7.cell 7;have f4:=g.out.c7.opn 4;have f5:=g.out.c7.opn 5;have f6:=g.out.c7.opn 6;have f7:=g.out.c7.opn 7;clear wS
     go_upto_region 7 with fail
     have D:=((((I6 n (w.heap.size+1) 4 (.bool true)).trans (I6 _ _ 5 (.int .i64 tc))).trans (I6 _ _ 6 (.string l))).trans (I6 _ _ 7 (.string ⟨#[]⟩)));have xU:=Q0 ((((g.out.c7.set 4 (.bool true)).set 5 (.int .i64 tc)).set 6 (.string l)).set 7 (.string ⟨#[]⟩));generalize ((((n.setCell ⟨w.heap.size+1,4,none⟩ (.bool true)).setCell ⟨w.heap.size+1,5,none⟩ (.int .i64 tc)).setCell ⟨w.heap.size+1,6,none⟩ (.string l)).setCell ⟨w.heap.size+1,7,none⟩ (.string ⟨#[]⟩))=A at*;have HC6:=Q0 (g.out.rR.on D O0);have I:=Q0 (g.out.lv.wH (y':=⟨y.m,y.lv,y.ls,true,tc,l,⟨#[]⟩⟩) D (fun p k e=>(g.out.nb p k e).1) rfl rfl);have Z:=g.out.bl.trans (D.below O0);clear q4 q5 q6 q7 f4 f5 f6 f7 j0 j1 j2 j3 O;have OW:Hid (y.ls≠[]->∀ k,y.lv.ownBlock=some k->k≠w.heap.size+2):=fun p k e=>(g.out.nb p k e).2;have h1c:=Q0 (Kk ⟨y.m,y.lv,y.ls,true,tc,l,⟨#[]⟩⟩ (by obtain ⟨a',c',h1,_⟩:=I.out;show y.lv.oneCell'=true;rw [show y.lv=_ from h1];rfl))
     go_wp2_with (first | (refine Gu rfl _ rfl (w.heap.size+1) rfl _ xU.out rfl ?_) | (refine zA rfl _ _ rfl (w.heap.size+2) rfl _ _ rfl HC6.out rfl rfl h1c.out rfl ?_;intro z hc4 Q))
     refine K4 (v:=.agg (⟨y.m,y.lv,y.ls,true,tc,l,⟨#[]⟩⟩:W8).vs.toArray) (M.j_ (P:=prog) (ty:=108) rfl _ _ (w.heap.size+2) _ _ rfl hc4.blk underlying108 rfl U2) rfl ⟨⟨y.m,y.lv,y.ls,true,tc,l,⟨#[]⟩⟩,rfl,HR.out,I.out.wH Q OW.out rfl rfl,f.out.2.2.2.2.2,Z.trans (Q.below O0)⟩
   have t0:n.cell? ⟨w.heap.size,0,none⟩=some (.slice a fs.length cap):=g.out.c3.cell 0
   go_wp2_with fail
   refine (c91 a cap fs ms c n hfl HF.out (G.T.U0 HAT.out g.out.bl) HP.out).mono ?_;rintro e A ⟨rfl,hb3⟩;obtain ⟨sh,DV⟩:∃ s,Hid (Jg fs ms c=s):=⟨_,rfl⟩;rw [DV.out];obtain ⟨sc,st⟩:=sh;dsimp only;have HB3:=Q0 (g.out.below hb3);have H7a:=Q0 (K.out.below hb3 K.out.lt);have hz3:=D7 hz2 hb3.size;clear j0 j1 j2 j3 O hb3 t0
   go_upto_region 9 with fail
   obtain ⟨z,hw4⟩:∃ u:World,u=A.alloc (.cells #[.bool true,.string c,.int .i64 sc,.string st] 52):=⟨_,rfl⟩;rw [<- hw4];have hb4:Below A.heap.size A z:=by rw [hw4];exact bA
   have F:=Q0 (HB3.out.below hb4);have H7b:=Q0 (H7a.out.below hb4 H7a.out.lt);have H8:Hid (Cl z A.heap.size 52 [.bool true,.string c,.int .i64 sc,.string st]):=by show Cl _ _ _ _;rw [hw4];exact U1 A _ 52
   have ES:=H8.out.lt;have j3:z.cell? ⟨w1.heap.size,3,none⟩=some (.bool C):=H7b.out.cell 3;have O:z.cell? ⟨w1.heap.size,4,none⟩=some (.string c):=H7b.out.cell 4;have t0:z.cell? ⟨w.heap.size,0,none⟩=some (.slice a fs.length cap):=F.out.c3.cell 0;have hls:=((S_ V.out f.out.2.1.his (V.out.ms _ f.out.2.1.mem)).name (by rw [U.out])).2;have CV:Hid (∀ (PR:Value) (wt:ByteArray) (r:R2),Nw w x.lv PR->Zy E (⟨false,tc,l,C,c,ts⟩:TN) r->(y.m=x.m/\az E ⟨y.m,PR,y.ls++[⟨C,c,r.code,r.tx⟩],y.ov,y.cd,y.tx,wt⟩/\x.ls <+:y.ls++[(⟨C,c,r.code,r.tx⟩:M.L4)]/\(y.ov=true->(⟨y.m,PR,y.ls++[⟨C,c,r.code,r.tx⟩],y.ov,y.cd,y.tx,wt⟩:W8)=x)/\(x.ov=true->(⟨y.m,PR,y.ls++[⟨C,c,r.code,r.tx⟩],y.ov,y.cd,y.tx,wt⟩:W8)=x)/\Nw w x.lv PR)):=fun PR wt r hnw ha=>by
    have h1:=Jw f.out.2.1.his (by rw [U.out]) (by rw [U.out];exact ha);rw [U.out] at h1;exact ⟨f.out.1,⟨f.out.2.1.mem,h1,(fun h=>by rw [show (W8.ov _)=y.ov from rfl,wS] at h;cases h),fun h=>by rw [show (W8.ov _)=y.ov from rfl,wS] at h;cases h⟩,f.out.2.2.1.trans (List.prefix_append _ _),(fun h=>by rw [wS] at h;cases h),(fun h=>by have:=f.out.2.2.2.2.1 h;rw [<- this,wS] at h;cases h),hnw⟩
   clear hw4 hb4 HB3 K H7a g;cases C;rotate_left
   · have kY:Hid (Zy E (⟨false,tc,l,true,c,ts⟩:TN) ⟨sc,st⟩):=by
      refine .inl ⟨rfl,?_⟩;rw [HE.out];show _=Rq (Jg fs ms c);rw [DV.out];rfl
     have BS:=Q0 F.out.c3;have fZ:Hid (Cl z (w.heap.size+1) 108 (⟨y.m,y.lv,y.ls,y.ov,y.cd,y.tx,y.wt⟩:W8).vs):=Q0 F.out.c7;have W:=Q0 F.out.rR;have gZ:Hid (Te z ⟨y.m,y.lv,y.ls,y.ov,y.cd,y.tx,y.wt⟩):=Q0 F.out.lv;have S:=F.out.bl
     go_upto_region 15 with fail
     try simp only [qq]
     refine AP (w.heap.size+1) A.heap.size ⟨y.m,y.lv,y.ls,y.ov,y.cd,y.tx,y.wt⟩ true c sc st z _ _ _ _ _ _ _ _ _ _ _ _ _ _ _ _ _ _ _ _ _ _ _ _ _ _ _ _ _ _ _ _ _ _ _ _ _ _ _ _ _ _ _ _ _ _ _ _ _ _ _ _ _ _ _ _ _ _ _ ?hq2 fZ H8 gZ (by show y.ls.length<=15;omega) ?kk2
     case hq2=>exact fun _ _ d _ _ h=>by cases d <;> exact h
     intro t52 t53 t54 t55 t56 t57 t58 t59 PR w9 hc9 ZU R H;have iZ:=Q0 (CV.out PR y.wt ⟨sc,st⟩ (fun k e=>.inr (by have:=R k e;have:=S.size;omega)) kY.out);have HB9:Hid (aM w (.slice a fs.length cap) ⟨y.m,PR,y.ls++[⟨true,c,sc,st⟩],y.ov,y.cd,y.tx,y.wt⟩ w9):=
      ⟨(H.block _ (Cl.lt BS.out) O0).trans BS.out,hc9,(H.block _ (Cl.lt W.out) O0).trans W.out,ZU,fun _ k e=>by have:=R k e;have:=(Cl.lt W.out);omega,S.trans (H.below (N:=w.heap.size) (fun k e=>O0) S.size)⟩
     clear hc9 ZU R H;go_wp2
     go_roundg (16 - (y.ls.length+1))
     case measure=>omega
     case rel=>exact ⟨⟨y.m,PR,y.ls++[(⟨true,c,sc,st⟩:M.L4)],y.ov,y.cd,y.tx,y.wt⟩,iZ.out,HB9.out,X0⟩
   go_wp2_with fail
   refine (JP a cap fs ms wa wc ws c z hfl HF.out (G.T.U0 HAT.out F.out.bl) HT.out HP.out GU (Xd OV.out F.out.bl)).mono ?_;rintro e L ⟨h24,hb5⟩;obtain ⟨rr,HKN⟩:∃ r,Hid (Rj fs ms ws c=r):=⟨_,rfl⟩;rw [HKN.out] at h24;obtain ⟨⟨rc,rt⟩,rb⟩:=rr;have he:e=.returned (.tuple #[.agg #[.int .i64 rc,.string rt],.bool rb]):=h24;subst he;have MS:=Q0 (F.out.below hb5);have H7c:=Q0 (H7b.out.below hb5 H7b.out.lt);have H8c:=Q0 (H8.out.below hb5 H8.out.lt);have zU:=D7 ES hb5.size;clear h24 hb5 H7b H8 F t0 j3 O
   go_upto_region 11 with fail
   obtain ⟨X,yT⟩:∃ u:World,u=L.alloc (.cells #[.int .i64 rc,.string rt] 34):=⟨_,rfl⟩;rw [<- yT];have hb6:Below L.heap.size L X:=by rw [yT];exact bA
   have J:=Q0 (MS.out.below hb6);have H7d:=Q0 (H7c.out.below hb6 H7c.out.lt);have H8d:=Q0 (H8c.out.below hb6 H8c.out.lt);have H9:Hid (Cl X L.heap.size 34 [.int .i64 rc,.string rt]):=by show Cl _ _ _ _;rw [yT];exact U1 L _ 34
   have O:X.cell? ⟨w1.heap.size,4,none⟩=some (.string c):=H7d.out.cell 4;have q7:X.cell? ⟨w.heap.size+1,7,none⟩=some (.string y.wt):=J.out.c7.cell 7;have f7:=J.out.c7.opn 7;clear yT hb6 H7c H8c MS
   go_upto_region 12 with fail
   have D:=I6 X (w.heap.size+1) 7 (.string c);have xU:=Q0 (J.out.c7.set 7 (.string c));generalize (X.setCell ⟨w.heap.size+1,7,none⟩ (.string c))=w7 at*;have HC6:=Q0 (J.out.rR.on D O0);have I:=Q0 (J.out.lv.wH (y':=⟨y.m,y.lv,y.ls,y.ov,y.cd,y.tx,c⟩) D (fun p k e=>(J.out.nb p k e).1) rfl rfl);have Z:=J.out.bl.trans (D.below O0);have OW:Hid (y.ls≠[]->∀ k,y.lv.ownBlock=some k->k≠w.heap.size+2):=fun p k e=>(J.out.nb p k e).2;have hne5:w.heap.size+1<w1.heap.size:=O0;have jZ:w.heap.size+1≠A.heap.size:=O0;have a2L:w.heap.size+1≠L.heap.size:=O0;have H7e:=Q0 (H7d.out.on D O0);have H8e:=Q0 (H8d.out.on D jZ.symm);have H9e:=Q0 (H9.out.on D a2L.symm);have HC3:=Q0 (J.out.c3.on D O0);clear O q7 f7 H7d H8d H9;cases rb
   · have HR:Hid (Rm E (Rj fs ms ws) x ⟨y.m,y.lv,y.ls,y.ov,y.cd,y.tx,c⟩):=
      ⟨f.out.1,⟨f.out.2.1.mem,f.out.2.1.his,(fun h=>by rw [show (W8.ov _)=y.ov from rfl,wS] at h;cases h),fun h=>by rw [show (W8.ov _)=y.ov from rfl,wS] at h;cases h⟩,f.out.2.2.1,(fun h=>by have:=f.out.2.2.2.2.1 h;rw [<- this,wS] at h;cases h),(fun _=>by show (tn y.m y.ls).over=false/\(tn y.m y.ls).has=false/\(Rj fs ms ws (tn y.m y.ls).name).2=false/\c=(tn y.m y.ls).name;rw [U.out];exact ⟨rfl,rfl,by rw [HKN.out],rfl⟩)⟩
     clear wS
     go_upto_region 13 with fail
     have h1c:=Q0 (Kk ⟨y.m,y.lv,y.ls,y.ov,y.cd,y.tx,c⟩ (by obtain ⟨a',c',h1,_⟩:=I.out;show y.lv.oneCell'=true;rw [show y.lv=_ from h1];rfl))
     go_wp2_with (first | (refine Gu rfl _ rfl (w.heap.size+1) rfl _ xU.out rfl ?_) | (refine zA rfl _ _ rfl (w.heap.size+2) rfl _ _ rfl HC6.out rfl rfl h1c.out rfl ?_;intro z hc4 Q))
     refine K4 (v:=.agg (⟨y.m,y.lv,y.ls,y.ov,y.cd,y.tx,c⟩:W8).vs.toArray) (M.j_ (P:=prog) (ty:=108) rfl _ _ (w.heap.size+2) _ _ rfl hc4.blk underlying108 rfl U2) rfl ⟨⟨y.m,y.lv,y.ls,y.ov,y.cd,y.tx,c⟩,rfl,HR.out,I.out.wH Q OW.out rfl rfl,f.out.2.2.2.2.2,Z.trans (Q.below O0)⟩
   have O:w7.cell? ⟨w1.heap.size,4,none⟩=some (.string c):=H7e.out.cell 4;have r0:w7.cell? ⟨L.heap.size,0,none⟩=some (.int .i64 rc):=H9e.out.cell 0;have r1:w7.cell? ⟨L.heap.size,1,none⟩=some (.string rt):=H9e.out.cell 1;have kY:Hid (Zy E (⟨false,tc,l,false,c,ts⟩:TN) ⟨rc,rt⟩):=dM HE.out V.out HP.out HW.out HKN.out
   go_wp2_with (refine Zi rfl 52 _ _ rfl (B:=A.heap.size) (j:=0) rfl (vs:=[.bool false,.string c,.int .i64 rc,.string rt]) rfl H8e.out X0 (by intro v hv;simp at hv;rcases hv with rfl | rfl | rfl | rfl <;> rfl) U2 ?_;intro w8 hc8 Y)
   have a4x:w.heap.size+1≠A.heap.size:=jZ;have fZ:=Q0 (xU.out.on Y jZ);have BS:=Q0 (HC3.out.on Y O0);have W:=Q0 (HC6.out.on Y O0);have gZ:=Q0 (I.out.wH (y':=⟨y.m,y.lv,y.ls,y.ov,y.cd,y.tx,c⟩) Y (fun p k e=>by have:=HNL.out p k e;omega) rfl rfl);have S:=Z.trans (Y.below O0);have H8f:Hid (Cl w8 A.heap.size 52 [.bool false,.string c,.int .i64 rc,.string rt]):=Q0 hc8;clear hc8 Y r0 r1 O
   try simp only [qq]
   refine AP (w.heap.size+1) A.heap.size ⟨y.m,y.lv,y.ls,y.ov,y.cd,y.tx,c⟩ false c rc rt w8 _ _ _ _ _ _ _ _ _ _ _ _ _ _ _ _ _ _ _ _ _ _ _ _ _ _ _ _ _ _ _ _ _ _ _ _ _ _ _ _ _ _ _ _ _ _ _ _ _ _ _ _ _ _ _ _ _ _ _ ?hq1 fZ H8f gZ (by show y.ls.length<=15;omega) ?kk1
   case hq1=>exact fun _ _ d _ _ h=>by cases d <;> exact h
   intro t52 t53 t54 t55 t56 t57 t58 t59 PR w9 hc9 ZU R H;have iZ:=Q0 (CV.out PR c ⟨rc,rt⟩ (fun k e=>.inr (by have:=R k e;have:=S.size;omega)) kY.out);have HB9:Hid (aM w (.slice a fs.length cap) ⟨y.m,PR,y.ls++[⟨false,c,rc,rt⟩],y.ov,y.cd,y.tx,c⟩ w9):=
    ⟨(H.block _ (Cl.lt BS.out) O0).trans BS.out,hc9,(H.block _ (Cl.lt W.out) O0).trans W.out,ZU,fun _ k e=>by have:=R k e;have:=(Cl.lt W.out);omega,S.trans (H.below (N:=w.heap.size) (fun k e=>O0) S.size)⟩
   clear hc9 ZU R H;go_wp2
   go_roundg (16 - (y.ls.length+1))
   case measure=>omega
   case rel=>exact ⟨⟨y.m,PR,y.ls++[(⟨false,c,rc,rt⟩:M.L4)],y.ov,y.cd,y.tx,c⟩,iZ.out,HB9.out,X0⟩
 have hxy:=f.out.2.2.2.1 wS;have HR:Hid (Rm E (Rj fs ms ws) x y):=⟨f.out.1,f.out.2.1,f.out.2.2.1,fun _=>hxy,fun h=>by rw [wS] at h;cases h⟩;have xU:=Q0 q.out.c7;have HC6:=Q0 q.out.rR;have I:=Q0 q.out.lv;have Z:=q.out.bl;have OW:Hid (y.ls≠[]->∀ k,y.lv.ownBlock=some k->k≠w.heap.size+2):=fun p k e=>(q.out.nb p k e).2;rw [wS] at k4;clear wS hxy
 go_upto_region 16 with fail
 have h1c:=Q0 (Kk y (by obtain ⟨a',c',h1,_⟩:=I.out;show y.lv.oneCell'=true;rw [show y.lv=_ from h1];rfl))
 go_wp2_with (first | (refine Gu rfl _ rfl (w.heap.size+1) rfl _ xU.out rfl ?_) | (refine zA rfl _ _ rfl (w.heap.size+2) rfl _ _ rfl HC6.out rfl rfl h1c.out rfl ?_;intro z hc4 Q))
 refine K4 (v:=.agg (y:W8).vs.toArray) (M.j_ (P:=prog) (ty:=108) rfl _ _ (w.heap.size+2) _ _ rfl hc4.blk underlying108 rfl U2) rfl ⟨y,rfl,HR.out,I.out.wH Q OW.out rfl rfl,f.out.2.2.2.2.2,Z.trans (Q.below O0)⟩
end Go.Proofs.YtdjaajjndfbpmaaGreatDoor
