import Derived.Test.YtdpoaadafcaffaaGreatDoorRows
import Derived.Lib.LaidU8
import Derived.MakeChecks
import Derived.OpenShut
import Derived.Deep.Strs
import Derived.Test.YtdpoaadafcaffaaGreatDoorG9
import Derived.Test.YtdpoaadafcaffaaGreatDoorZ43
import Derived.Test.YtdpoaadafcaffaaGreatDoorRX
import Derived.Deep.LoopGhost
import Derived.Deep.Cut
set_option linter.unusedVariables false
set_option maxHeartbeats 8000000
set_option maxRecDepth 100000
namespace Go.Proofs.YtdpoaadafcaffaaGreatDoor.LT
open Proofs.Tryz
open Go.RowKit
variable {H α:Type} {W w:World} {base fuel i:Nat}
theorem rD:prog.globalNamed "loop.example/kiln/impl.shapes"=some 2:=I1
theorem UB:(prog.globals[2]?).map (·.type)=some 208:=I1
theorem Sq:prog.cellsOf 207=3:=I1
theorem xA:prog.cellsOf 9=1:=I1
theorem MG:prog.cellsOf 4=1:=I1
theorem JH {l:List α} (h:l.length=3):∃ a b c,l=[a,b,c]:=by
 rcases l with _ | ⟨a,_ | ⟨b,_ | ⟨c,_ | ⟨d,l⟩⟩⟩⟩
 · cases h
 · cases h
 · cases h
 · exact ⟨a,b,c,rfl⟩
 simp at h
theorem Er {enc:TypeId×Value->H} {sp:Nat->Bool} {held:Bool} {cs:List Value} {l:List UInt8} {a b:Bool} {p:List MemPlace}
 (h:DataW.trod enc prog w base sp held fuel 207 cs=some (.agg [.lit (.string l),.lit (.bool a),.lit (.bool b)],p)):cs=[.string ⟨l.toArray⟩,.bool a,.bool b]:=by
 obtain ⟨y0,y1,y2,n,hx,hlen,h0,h1,h2⟩:=Go.Deep.trod_struct3 underlying207 h;rw [Sq] at hlen;obtain ⟨c0,c1,c2,rfl⟩:=JH hlen;simp only [xA,MG] at h0 h1 h2;obtain ⟨s,e0,r0,_⟩:=DataW.trod_string underlying9 h0;obtain ⟨a',e1,r1⟩:=DataW.trod_bool underlying4 h1;obtain ⟨b',e2,r2⟩:=DataW.trod_bool underlying4 h2;subst r0 r1 r2;simp at e0 e1 e2 hx;obtain ⟨⟨q0,q1,q2⟩,_⟩:=hx;have:s=⟨l.toArray⟩:=by apply ByteArray.ext;rw [q0]
 rw [e0,e1,e2,this,q1,q2]
theorem Jt {xs:List (DataW H×List MemPlace)} {ds:List (DataW H)} (h:xs.map (·.1)=ds) {d:DataW H} (hd:ds[i]?=some d):∃ p,xs[i]?=some (d,p):=by
 rw [<- h,List.getElem?_map] at hd
 cases hx:xs[i]? with
 | none=>rw [hx] at hd;simp at hd
 | some y=>rw [hx] at hd;simp at hd;exact ⟨y.2,by rw [<- hd]⟩
theorem take3 {l:List α} {a b c:α} (h:(l.drop i).take 3=[a,b,c]):l[i]?=some a/\l[i+1]?=some b/\l[i+2]?=some c:=by
 have g:∀ j,j<3->((l.drop i).take 3)[j]?=l[i+j]?:=fun j hj=>by rw [List.getElem?_take_of_lt hj,List.getElem?_drop]
 rw [h] at g;exact ⟨(g 0 O0).symm,(g 1 O0).symm,(g 2 O0).symm⟩
def eG {H:Type} (op:Nat):DataW H:=.agg [.lit (.string (word op)),.lit (.bool (Y6 op)),.lit (.bool (N7 op))]
theorem fD (op:Nat) (h1:1<=op) (h2:op<=11):∃ ds:List (DataW Unit),Rows.laid_loop_example_kiln_impl_shapes=DataW.agg ds/\ds[op]?=some (eG op):=by
 refine ⟨_,rfl,?_⟩;obtain rfl | rfl | rfl | rfl | rfl | rfl | rfl | rfl | rfl | rfl | rfl:op=1\/op=2\/op=3\/op=4\/op=5\/op=6\/op=7\/op=8\/op=9\/op=10\/op=11:=O0
 all_goals rfl
theorem Ik (h:Go.Lib.VarReads prog W "loop.example/kiln/impl.shapes" Rows.laid_loop_example_kiln_impl_shapes):Z5 W:=by
 obtain ⟨g,t,cs,fuel,p,hg,hty,hvar,hd⟩:=h;obtain rfl:=Option.some.inj (rD.symm.trans hg);obtain rfl:=Option.some.inj (UB.symm.trans hty);obtain ⟨xs,m,_,hx,hcl,hxl,hel⟩:=DataW.trod_array underlying208 hd;intro op h1 h2;obtain ⟨ds,hds,hget⟩:=fD op h1 h2;rw [hds] at hx;have hmap:xs.map (·.1)=ds:=by
  have:=congrArg Prod.fst hx;injection this with this;exact this.symm
 obtain ⟨q,hq⟩:=Jt hmap hget;have he:=hel op O0;rw [hq,Sq] at he;have hc:=Er he;obtain ⟨r0,r1,r2⟩:=take3 hc;have hv:=World.var?_cell hg hvar;refine ⟨?_,?_,?_⟩
 · rw [hv,<- Array.getElem?_toList];exact r0
 · rw [hv,<- Array.getElem?_toList];exact r1
 rw [hv,<- Array.getElem?_toList];exact r2
end Go.Proofs.YtdpoaadafcaffaaGreatDoor.LT
namespace Go.Proofs.YtdpoaadafcaffaaGreatDoor
open Proofs.Tryz
open Go.RowKit
theorem Ns {tl ar:ByteArray}:∀ (ls:List M.L4) (t:TN) (s:RS),(∀ a x b,ls=a++x::b->¬ Halt (a.foldl (fun p x=>M6 tl ar p.2 ⟨x.cd,x.tx⟩) (t,s)).1 x)->Xr tl ar t s ls=(ls.foldl (fun p x=>M6 tl ar p.2 ⟨x.cd,x.tx⟩) (t,s)).1
 | [],_,_,_=>rfl
 | x::xs,t,s,h=>by
  rw [ou (show ¬ Halt t x from h [] x xs rfl)];refine (Ns xs _ _ fun a y b e=>?_).trans rfl;have:=h (x::a) y b (by rw [e];rfl);exact this
theorem AA {E:Env} (hE:l8 E) {m:M3} {L:List M.L4} (hm:Z9 m=true) (h:V8 E m L):goT m L=tn m L:=by
 rw [Ew hm (M_ hE hm h).1];refine Ns L _ _ fun a x b e=>?_;subst e;obtain ⟨h1,r,h2,h3⟩:=Aj h;have hk:=(M_ hE hm h).2 x U0;intro hh;rcases hh with hh | hh | hh | hh
 · exact absurd (hh.symm.trans h1) J3
 · exact hh (by rw [h2];rfl)
 · exact hh (by rw [h2];rfl)
 exact hh hk
def WS (m:M3) (w:World):World:=(WG m w).alloc (.cells #[.bool false,.int .i64 0,.string ⟨#[]⟩,.bool false,.string ⟨#[]⟩,.int .i64 0] 42)
theorem ji (m:M3) (w:World):(WS m w).heap.size=w.heap.size+3:=by simp [WS,Fg]
theorem zb (m:M3) (w:World):Below w.heap.size w (WS m w):=(Ch m w).alloc (by rw [Fg];omega) _
theorem UC {m:M3} {w u:World} (h:Below (w.heap.size+3) (WS m w) u):Below (w.heap.size+2) (WG m w) u:=((Below.refl _ _).alloc (by rw [Fg];omega) _).trans (h.mono O0)
theorem xy {m:M3} {w u:World} (h:Below (w.heap.size+3) (WS m w) u):Y7 u (w.heap.size+1) R5:=qH (UC h)
theorem Dz {m:M3} {w u:World} (h:Below (w.heap.size+3) (WS m w) u):Y7 u (w.heap.size+1+1) R5:=by
 have e:(w.heap.size+1+1)=(WG m w).heap.size:=by rw [Fg]
 unfold Y7;rw [h.block _ O0,e];exact M5 rfl _
theorem Xf {ops:Array Oper} {rest:List Oper} {o:Oper} {a:Act} {u:World} {Q:Exit->Act->World->Prop} (hgd:o.guard=none) (x:Operand) (ho:o.op=.load 42 x) (B:Nat) (hx:a.eval x=.pointer (some ⟨B,0,none⟩)) (t:TN) (hT:Y7 u B t)
 (h:wpList prog ops Q rest (a.put o.dst t.v) u):wpList prog ops Q (o::rest) a u:=
 M.Ak (P:=prog) hgd 42 x ho B hx _ _ hT.blk underlying42 rfl I1 h
theorem eF {o:Bool} {c:Int} {t:ByteArray} {h:Bool} {nm:ByteArray} {k:Int} (a:Option Addr) (cap n:Nat) (T:List I3) (arg:ByteArray) (a2:Option Addr) (cap2 n2:Nat) (EL:List R2) (w:World) (hn:n=T.length) (hn2:n2=EL.length) (h3:Three T arg EL) (hat:t_ w a T) (nM:pg w a2 EL) (e:Z7 T arg EL=⟨o,c,t,h,nm,k⟩):
 Calls prog 124 #[.agg #[.slice a n cap],.string arg,.slice a2 n2 cap2] w fun e w'=>e=.returned (.agg #[.bool o,.int .i64 c,.string t,.bool h,.string nm,.int .i64 k])/\Below w.heap.size w w':=by
 subst hn hn2;exact TH a cap T arg a2 cap2 EL w h3 hat nM e
theorem yJ (m:M3) (a:Option Addr) (cap:Nat) (ls:List M.L4) (w:World) (hm:m.le 1048576) (hk:Z9 m=true) (hlk:M.um ls) (hs:∀ i,(ls.getD i M.A_).le 1048576) (hat:M.Ma w a ls):
 Calls prog 85 #[.agg #[.string m.nm,.string m.tl,.string m.ar],.slice a ls.length cap] w fun e w'=>e=.returned (Xr m.tl m.ar (Tf m.tl) Pg ls).v/\Below w.heap.size w w':=by
 have hml:m.le 1048700:=⟨by have:=hm.1;omega,by have:=hm.2.1;omega,by have:=hm.2.2;omega⟩;have bQ:ls.length<=15:=hlk.1;have HAT:=Q0 hat;have yN:=Q0 hlk;clear hat hlk;go_enter func85,ntmps85;have HW:Hid (WS m w=(((w.alloc (.cells #[.string m.nm,.string m.tl,.string m.ar] 35)).alloc (.cells #[.bool false,.int .i64 0,.string ⟨#[]⟩,.bool false,.string ⟨#[]⟩,.int .i64 0] 42)).alloc (.cells #[.bool false,.int .i64 0,.string ⟨#[]⟩,.bool false,.string ⟨#[]⟩,.int .i64 0] 42))):=rfl
 go_wp2_with fail
 rw [<- HW.out];refine (Dh hk _ hml).mono ?_;rintro e w1 ⟨rfl,hb1⟩;have HB1:Hid (Below (w.heap.size+3) (WS m w) w1):=hb1.mono (by rw [ji];omega);have hz1:w.heap.size+3<=w1.heap.size:=by have:=hb1.size;rw [ji] at this;exact this
 have hBw1:=(zb m w).trans (HB1.out.mono O0);clear hb1
 go_wp2_with fail
 refine (M.QH a cap ls w1 O0 hs (M.I_ HAT.out hBw1)).mono ?_;rintro e w2 ⟨⟨r,rfl,hr⟩,hb2⟩;have hrt:=hr.2 yN.out;subst hrt;have HB2:=Q0 (HB1.out.trans (hb2.mono O0));have hz2:=Nat.le_trans hz1 hb2.size;obtain ⟨y0,y1,y2⟩:=MB (UC HB2.out);clear hb2 hBw1 HB1 hr
 go_wp2_with fail
 obtain ⟨w3,hw3⟩:∃ w3,w3=((w2.alloc (.cells #[.bool false,.int .i64 0,.string ⟨#[]⟩,.bool false,.string m.tl,.int .i64 0] 42)).alloc (.cells #[] 31)).alloc (.cells #[.slice none 0 0] 109):=⟨_,rfl⟩;rw [<- hw3];have hz3:w3.heap.size=w2.heap.size+3:=by rw [hw3];simp
 have HT3:Hid (Y7 w3 w2.heap.size (Tf m.tl)):=by
  show w3.heap[_]?=_;rw [hw3,Lib.alloc_old _ _ _ X3,Lib.alloc_old _ _ _ U0];exact M5 rfl _
 have FR:Hid (w3.heap[w2.heap.size+1+1]?=some (.cells #[.slice none 0 0] 109 (0,0))):=by
  show w3.heap[_]?=_;rw [hw3];exact M5 U0 _
 have HO3:Hid (w3.ownsRow (w2.heap.size+1) 31 2 (.slice (some ⟨w2.heap.size+1,0,none⟩) 0 0) 0 []):=by
  show w3.ownsRow _ _ _ _ _ _;rw [hw3];refine World.ownsRow.alloc ?_ _;refine ⟨rfl,.inr ⟨w2.heap.size+1,0,#[],rfl,Nat.le_refl _,M5 U0 _,Nat.le_refl _,Nat.zero_le _,rfl,rfl⟩⟩
 have HB3:Hid (Below (w.heap.size+3) (WS m w) w3):=HB2.out.trans (by rw [hw3];exact (((Below.refl _ _).alloc hz2 _).alloc X3 _).alloc X3 _);clear hw3 y0 y1 y2;go_loopw [7,9] (fun v7 v9 wr=>∃ (k:Nat) (t:TN) (s:RS) (v2:Value),v9=.int .i64 k/\k<=ls.length/\Hid (Xr m.tl m.ar (Tf m.tl) Pg ls=Xr m.tl m.ar t s (ls.drop k))/\Hid (Y7 wr w2.heap.size t)/\Hid (wr.heap[w2.heap.size+1+1]?=some (.cells #[v2] 109 (0,0)))/\Hid (wr.ownsRow (w2.heap.size+1) 31 2 v7 s.EL.length (X8 s.EL))/\Hid (s.has=true->wr.ownsRow (w2.heap.size+1) 121 3 v2 s.T.length (D5 s.T))/\Hid (Wp s)/\s.EL.length<=k/\Hid ((k=0/\s=Pg)\/(0<k/\(t.over=false->s.has=true)))/\Hid (Below (w.heap.size+3) (WS m w) wr)/\w3.heap.size<=wr.heap.size) (fun _ r _=>ls.length - (intOf r).toNat)
 case atStart=>exact ⟨0,Tf m.tl,Pg,_,rfl,Nat.zero_le _,rfl,HT3.out,FR.out,HO3.out,(fun h=>by cases h),pq,Nat.zero_le _,.inl ⟨rfl,rfl⟩,HB3.out,O0⟩
 obtain ⟨k,t,s,v2,rfl,hkl,HG,HT,HL,HO,HI,HS,hsl,HC,WT,qO⟩:=hrel;have hBw:=(zb m w).trans (WT.out.mono O0);obtain ⟨o,c,tx,hh,n,st⟩:=t;obtain ⟨t0,t1,t2,t3,t4,t5,tf⟩:=Y7.cells HT.out;by_cases hlt:k<ls.length;rotate_left
 · have hke:k=ls.length:=O0
   have HZ:Hid (Xr m.tl m.ar (Tf m.tl) Pg ls=⟨o,c,tx,hh,n,st⟩):=by
    rw [HG.out,hke,List.drop_eq_nil_of_le Q8];rfl
   subst hke
   go_wp2_with (refine u_ rfl _ _ rfl (w.heap.size+1) rfl ⟨o,c,tx,hh,n,st⟩ R5 rfl (xy WT.out) rfl ?_;intro u' hT' hB' _)
   refine bodyPost_ret (v:=TN.v ⟨o,c,tx,hh,n,st⟩) (M.O8 (P:=prog) (ty:=42) rfl _ _ (w.heap.size+1) _ _ rfl hT'.blk underlying42 rfl I1) rfl ⟨by rw [HZ.out],?_⟩;exact ((zb m w).trans (WT.out.mono O0)).trans (hB' _ O0)
 obtain ⟨lb,off,ha,hlb,x0,x1,x2,x3⟩:=ze HAT.out hBw hlt;subst ha;have hxs:=hs k;have gZ:=Q0 (yN.out.2 k hlt);have HD:=Q0 (Vz hlt);generalize ls.getD k M.A_=x at*;obtain ⟨xh,xn,xc,xt⟩:=x;have hl1:w2.heap.size<wr.heap.size:=O0;have p0:=past (p:=⟨w2.heap.size,0,none⟩) hl1 t0 (.cells #[.bool xh,.string xn,.int .i64 xc,.string xt] 45);have p3:=past (p:=⟨w2.heap.size,3,none⟩) hl1 t3 (.cells #[.bool xh,.string xn,.int .i64 xc,.string xt] 45);have p4:=past (p:=⟨w2.heap.size,4,none⟩) hl1 t4 (.cells #[.bool xh,.string xn,.int .i64 xc,.string xt] 45);have iO:Hid (Below (w.heap.size+3) (WS m w) (wr.alloc (.cells #[.bool xh,.string xn,.int .i64 xc,.string xt] 45))):=WT.out.alloc O0 _;clear t0 t1 t2 t3 t4 t5 tf hBw;cases o;rotate_left
 · have HZ:Hid (Xr m.tl m.ar (Tf m.tl) Pg ls=R5):=by rw [HG.out,HD.out];exact Lh (.inl rfl)
   go_wp2_with (first | (refine Xf rfl (.tmp 5) rfl (w.heap.size+1+1) rfl R5 (Dz iO.out) ?_) | (refine u_ rfl (.tmp 4) _ rfl (w.heap.size+1) rfl R5 R5 rfl (xy iO.out) rfl ?_;intro u' hT' hB' _))
   refine bodyPost_ret (v:=R5.v) (M.O8 (P:=prog) (ty:=42) rfl _ _ (w.heap.size+1) _ _ rfl hT'.blk underlying42 rfl I1) rfl ⟨by rw [HZ.out],?_⟩;exact ((zb m w).trans (iO.out.mono O0)).trans (hB' _ O0)
 by_cases hhe:xh=hh;rotate_left
 · have a4a:¬ hh=xh:=fun h=>hhe h.symm
   have HZ:Hid (Xr m.tl m.ar (Tf m.tl) Pg ls=R5):=by rw [HG.out,HD.out];exact Lh (.inr (.inl hhe))
   go_wp2_with (first | (refine Xf rfl (.tmp 5) rfl (w.heap.size+1+1) rfl R5 (Dz iO.out) ?_) | (refine u_ rfl (.tmp 4) _ rfl (w.heap.size+1) rfl R5 R5 rfl (xy iO.out) rfl ?_;intro u' hT' hB' _))
   refine bodyPost_ret (v:=R5.v) (M.O8 (P:=prog) (ty:=42) rfl _ _ (w.heap.size+1) _ _ rfl hT'.blk underlying42 rfl I1) rfl ⟨by rw [HZ.out],?_⟩;exact ((zb m w).trans (iO.out.mono O0)).trans (hB' _ O0)
 subst hhe;by_cases hne:xn=n;rotate_left
 · have hne':¬ n.toList=xn.toList:=fun h=>hne ((M.QA _ _).1 h).symm
   have hne2:(n.toList==xn.toList)=false:=by simpa using hne'
   have HZ:Hid (Xr m.tl m.ar (Tf m.tl) Pg ls=R5):=by rw [HG.out,HD.out];exact Lh (.inr (.inr (.inl hne)))
   go_wp2_with (first | (refine Xf rfl (.tmp 5) rfl (w.heap.size+1+1) rfl R5 (Dz iO.out) ?_) | (refine u_ rfl (.tmp 4) _ rfl (w.heap.size+1) rfl R5 R5 rfl (xy iO.out) rfl ?_;intro u' hT' hB' _))
   refine bodyPost_ret (v:=R5.v) (M.O8 (P:=prog) (ty:=42) rfl _ _ (w.heap.size+1) _ _ rfl hT'.blk underlying42 rfl I1) rfl ⟨by rw [HZ.out],?_⟩;exact ((zb m w).trans (iO.out.mono O0)).trans (hB' _ O0)
 subst hne;have hne':(xn.toList==xn.toList)=true:=U0;have a0B:¬ Halt ⟨false,c,tx,xh,xn,st⟩ ⟨xh,xn,xc,xt⟩:=by
  rintro (h | h | h | h)
  · cases h
  · exact h rfl
  · exact h rfl
  exact h gZ.out
 have rP:Hid (Xr m.tl m.ar (Tf m.tl) Pg ls=Xr m.tl m.ar (M6 m.tl m.ar s ⟨xc,xt⟩).1 (M6 m.tl m.ar s ⟨xc,xt⟩).2 (ls.drop (k+1))):=by
  rw [HG.out,HD.out];exact ou a0B
 rcases HC.out with ⟨rfl,rfl⟩ | ⟨hk0,hhas⟩;rotate_left
 · have hs1:=hhas rfl
   obtain ⟨sh,T,EL⟩:=s;have hs2:sh=true:=hs1;subst hs2;have e1:M6 m.tl m.ar ⟨true,T,EL⟩ ⟨xc,xt⟩=(Z7 T m.ar (EL++[⟨xc,xt⟩]),⟨true,T,EL++[⟨xc,xt⟩]⟩):=by simp [M6]
   rw [e1] at rP;have KQ:Hid (Wp ⟨true,T,EL++[⟨xc,xt⟩]⟩):=⟨HS.out.tl,HS.out.ts,Le HS.out.rs (by have:=hxs.2;exact this)⟩;rcases hN:Z7 T m.ar (EL++[⟨xc,xt⟩]) with ⟨o',c',XT,hh',n',st'⟩;rw [hN] at rP;have HN:=Q0 hN;have a4b:EL.length<=k:=hsl;have H3:Hid (Three T m.ar (EL++[⟨xc,xt⟩])):=⟨by have:=HS.out.tl;exact Nat.le_trans this O0,fun i=>Nat.le_trans (HS.out.ts i) O0,by have:=hm.2.2;exact this,X3,Le HS.out.rs (by have:=hxs.2;exact this)⟩;clear hN e1 hs1;have hO:wr.ownsRow (w2.heap.size+1) 31 2 u7 EL.length (X8 EL):=HO.out;have hI:=HI.out rfl;obtain ⟨i0,hi,hz0,hz1',hz2'⟩:=info_parts NB;obtain ⟨wx,hwx⟩:∃ wx,wx=(wr.alloc (.cells #[.bool xh,.string xn,.int .i64 xc,.string xt] 45)).alloc (.cells #[.int .i64 xc,.string xt] 31):=⟨_,rfl⟩;have HWX:=Q0 hwx;have hbx:Below wr.heap.size wr wx:=by rw [hwx];exact bA.alloc U0 _
   have hzx:wx.heap.size=wr.heap.size+2:=by rw [hwx];simp
   have ZP:=Q0 hbx;have HIx:=Q0 (ownsRow_below hI hbx);have HOx:=Q0 (ownsRow_below hO hbx);clear hwx hbx hI
   go_wp2_with (at_builtin;refine wpList_append_own _ rfl _ _ 110 rfl (w2.heap.size+1) 31 i0 (.agg #[.int .i64 0,.string ⟨#[]⟩]) 2 24 underlying110 hi hz0 hz1' hz2' rfl J3 _ _ _ rfl ((hO.alloc _).alloc _) ⟨wr.heap.size+1,0,none⟩ 1 1 [_,_] rfl rfl (WE U0 _ _ _) (by intro u hu;simp at hu;rcases hu with rfl | rfl <;> rfl) (by unfold maxLen;omega) O0 X3 ?_;rw [<- HWX.out];intro v' w4 zM (hgrow:wx.grownBy w4 u7.ownBlock) _;have hrow:∀ k,u7.ownBlock=some k->w2.heap.size+1<=k/\∃ cur,wx.heap[k]?=some (.cells cur 31 (0,0)):=(fun k hk=>J2 HOx.out hk);have g3:∀ (k:Nat) (x:Array Value) (t:TypeId),wx.heap[k]?=some (.cells x t (0,0))->t≠31->w4.heap[k]?=some (.cells x t (0,0)):=(fun k x t hk ht=>(hgrow.block k (F4 hk) (fun e=>by obtain ⟨_,cur,hc⟩:=hrow _ e.symm;exact j6 hk hc ht rfl)).trans hk);have mM:Hid (Below (w.heap.size+3) (WS m w) w4):=((WT.out.trans (ZP.out.mono O0)).grown hgrow O0 (fun k hk=>by have:=(hrow k hk).1;omega));have tV:Hid (Y7 w4 w2.heap.size ⟨false,c,tx,xh,xn,st⟩):=g3 _ _ _ (HT.out.below ZP.out hl1) J3;have HL4:Hid (w4.heap[w2.heap.size+1+1]?=some (.cells #[v2] 109 (0,0))):=g3 _ _ _ ((ZP.out.block _ O0).trans HL.out) J3;have HI4:Hid (w4.ownsRow (w2.heap.size+1) 121 3 v2 T.length (D5 T)):=(Y0 HIx.out fun k hk=>by obtain ⟨_,cur,hc⟩:=J2 HIx.out hk;rw [g3 _ _ _ hc J3,hc]);have zN:wx.heap.size<=w4.heap.size:=hgrow.size;obtain ⟨y0,y1,y2⟩:=MB (UC mM.out);obtain ⟨a2,cp2,hv2,HIN⟩:=U6 HI4.out;have gt:w4.cell? ⟨w2.heap.size+1+1,0,none⟩=some (.slice a2 T.length cp2):=(by rw [Lib.cell_of_heap HL4.out,<- hv2];rfl);have a2n:Hid (t_ w4 a2 T):=HIN;have VR:Hid (w4.ownsRow (w2.heap.size+1) 31 2 v' (EL.length+1) (X8 EL++[.int .i64 xc,.string xt])):=zM;obtain ⟨ao,cp,rfl⟩:=dn zM;clear hgrow zM hrow g3 HIN hv2)
   have a0C:Hid (w4.ownsRow (w2.heap.size+1) 31 2 (.slice ao (EL.length+1) cp) (EL++[(⟨xc,xt⟩:R2)]).length (X8 (EL++[⟨xc,xt⟩]))):=by
    show w4.ownsRow _ _ _ _ _ _;rw [Ug,List.length_append];exact VR.out
   obtain ⟨a3,cp3,hv3,JR⟩:=Mj a0C.out;have ha3:ao=a3:=by injection hv3
   subst ha3;refine (eF a2 cp2 _ T m.ar ao cp _ (EL++[⟨xc,xt⟩]) w4 rfl U0 H3.out a2n.out JR HN.out).mono ?_;rintro e w5 ⟨rfl,hb5⟩;have jO:=Q0 (tV.out.below hb5 O0);have IP:=Q0 ((hb5.block _ O0).trans HL4.out);have QM:=Q0 (ownsRow_below a0C.out hb5);have qP:=Q0 (ownsRow_below HI4.out hb5);have dM:=Q0 (mM.out.trans (hb5.mono O0));have IQ:w4.heap.size<=w5.heap.size:=hb5.size;clear hb5 hv3 JR y0 y1 y2 gt
   go_wp2_with (refine u_ rfl _ _ rfl w2.heap.size rfl ⟨o',c',XT,hh',n',st'⟩ _ rfl jO.out rfl ?_;intro u' hT' hB' hK')
   have JO:=Q0 hT';have hbl:∀ (k:Nat) (x:Array Value) (t:TypeId),w5.heap[k]?=some (.cells x t (0,0))->t≠42->u'.heap[k]?=some (.cells x t (0,0)):=fun k x t h1 ht=>(hK' k (j6 h1 jO.out ht)).trans h1;have VO:=Q0 (hbl _ _ _ IP.out J3);have PO:Hid (u'.ownsRow (w2.heap.size+1) 31 2 (.slice ao (EL.length+1) cp) (EL++[(⟨xc,xt⟩:R2)]).length (X8 (EL++[⟨xc,xt⟩]))):=Y0 QM.out fun k hk=>by
    obtain ⟨_,cur,hc⟩:=J2 QM.out hk;rw [hbl _ _ _ hc J3,hc]
   have lZ:Hid (u'.ownsRow (w2.heap.size+1) 121 3 v2 T.length (D5 T)):=Y0 qP.out fun k hk=>by
    obtain ⟨_,cur,hc⟩:=J2 qP.out hk;rw [hbl _ _ _ hc J3,hc]
   have QL:=Q0 (dM.out.trans (hB' _ O0));have FO:=(hB' 0 O0).size;clear hT' hB' hK' hbl;go_roundw
   case rel=>exact ⟨k+1,⟨o',c',XT,hh',n',st'⟩,⟨true,T,EL++[⟨xc,xt⟩]⟩,v2,by go_num,O0,rP,JO,VO,PO,fun _=>lZ.out,KQ,by show (EL++[_]).length<=k+1;simp;omega,.inr ⟨O0,fun _=>rfl⟩,QL,O0⟩
   case measure=>simp [intOf];omega
 simp only [Nat.zero_mul,Nat.add_zero] at x0 x1 x2 x3
 go_wp2_with fail
 refine (bI xt _ (by have:=hxs.2;exact this)).mono ?_;rintro e w4 ⟨⟨is,ok,ai,ci,rfl,hown,hread⟩,hb4⟩;have zN:wr.heap.size+1<=w4.heap.size:=by have:=hb4.size;simpa using this
 have hbr:=bA.trans (hb4.mono U0);have mM:=Q0 (iO.out.trans (hb4.mono X3));have tV:=Q0 (HT.out.below hbr hl1);have hL4:=(hbr.block _ O0).trans HL.out;have VR:Hid (w4.ownsRow (w2.heap.size+1) 31 2 u7 0 []):=ownsRow_below HO.out hbr;have HI4:Hid (w4.ownsRow (w2.heap.size+1) 121 3 (.slice ai is.length ci) is.length (D5 is)):=V4 hown X3;have z2:w4.cell? ⟨wr.heap.size,2,none⟩=some (.int .i64 xc):=(hb4.cell (p:=⟨wr.heap.size,2,none⟩) U0).trans (by simp [go_sem]);have iV:=Q0 (Zq hread);obtain ⟨hil,hiz⟩:=Ze hread;have g2:w4.cell? ⟨w2.heap.size+1+1,0,none⟩=some v2:=by rw [Lib.cell_of_heap hL4];rfl
 have gf:=Lib.frozen_of_heap hL4 0;have UT:w2.heap.size+1+1<w4.heap.size:=O0;have g3:=past (p:=⟨w2.heap.size+1+1,0,none⟩) UT g2 (.cells #[.slice ai is.length ci] 109);have gg:=Ya (p:=⟨w2.heap.size+1+1,0,none⟩) UT gf (.cells #[.slice ai is.length ci] 109);have a2o:wr.heap.size≠w2.heap.size+1+1:=O0;have z2v:(w4.setCell ⟨w2.heap.size+1+1,0,none⟩ (.slice ai is.length ci)).cell? ⟨wr.heap.size,2,none⟩=some (.int .i64 xc):=by rw [World.cell?_setCell_other _ _ _ _ (fun e=>a2o (by injection e with e _;exact e.symm))];exact z2
 have z2p:=past (p:=⟨wr.heap.size,2,none⟩) X3 z2v (.cells #[.slice ai is.length ci] 109);obtain ⟨y0,y1,y2⟩:=MB (UC mM.out);have a0D:w.heap.size≠w2.heap.size+1+1:=O0;have y1v:(w4.setCell ⟨w2.heap.size+1+1,0,none⟩ (.slice ai is.length ci)).cell? ⟨w.heap.size,1,none⟩=some (.string m.tl):=by rw [World.cell?_setCell_other _ _ _ _ (fun e=>a0D (by injection e with e _;exact e.symm))];exact y1
 have y1p:=past (p:=⟨w.heap.size,1,none⟩) X3 y1v (.cells #[.slice ai is.length ci] 109);have y2v:(w4.setCell ⟨w2.heap.size+1+1,0,none⟩ (.slice ai is.length ci)).cell? ⟨w.heap.size,2,none⟩=some (.string m.ar):=by rw [World.cell?_setCell_other _ _ _ _ (fun e=>a0D (by injection e with e _;exact e.symm))];exact y2
 have y2p:=past (p:=⟨w.heap.size,2,none⟩) X3 y2v (.cells #[.slice ai is.length ci] 109);have gv:(w4.setCell ⟨w2.heap.size+1+1,0,none⟩ (.slice ai is.length ci)).cell? ⟨w2.heap.size+1+1,0,none⟩=some (.slice ai is.length ci):=World.cell?_setCell_same _ _ _ g2;have gvp:=past (p:=⟨w2.heap.size+1+1,0,none⟩) X3 gv (.cells #[.slice ai is.length ci] 109);obtain ⟨U,hU⟩:∃ U,U=(w4.setCell ⟨w2.heap.size+1+1,0,none⟩ (.slice ai is.length ci)).alloc (.cells #[.slice ai is.length ci] 109):=⟨_,rfl⟩;have HU:=Q0 hU;have nV:w4.heap.size+1=U.heap.size:=by rw [hU];simp
 have kU:∀ (k:Nat) (x:Array Value) (t:TypeId),w4.heap[k]?=some (.cells x t (0,0))->t≠109->U.heap[k]?=some (.cells x t (0,0)):=fun k x t h1 ht=>by
  rw [hU,Lib.alloc_old _ _ _ (by simp;exact F4 h1),heap_setCell_other _ _ _ _ (j6 h1 hL4 ht)];exact h1
 have HTU:Hid (Y7 U w2.heap.size ⟨false,c,tx,xh,xn,st⟩):=kU _ _ _ tV.out J3;have HLU:Hid (U.heap[w2.heap.size+1+1]?=some (.cells #[.slice ai is.length ci] 109 (0,0))):=by
  show U.heap[_]?=_;rw [hU,Lib.alloc_old _ _ _ X3];exact heap_setCell_same _ _ 0 _ _ _ hL4
 have HOU:Hid (U.ownsRow (w2.heap.size+1) 31 2 u7 0 []):=Y0 VR.out fun k hk=>by
  obtain ⟨_,cur,hc⟩:=J2 VR.out hk;rw [kU _ _ _ hc J3,hc]
 have HIU:Hid (U.ownsRow (w2.heap.size+1) 121 3 (.slice ai is.length ci) is.length (D5 is)):=Y0 HI4.out fun k hk=>by
  obtain ⟨_,cur,hc⟩:=J2 HI4.out hk;rw [kU _ _ _ hc J3,hc]
 have ER:Hid (Below (w.heap.size+3) (WS m w) U):=mM.out.trans (by rw [hU];exact ((Below.refl _ _).setCell (by show w.heap.size+3<=w2.heap.size+1+1;omega) _).alloc X3 _);clear hU kU hb4 hbr hown hread p0 p3 p4 x0 x1 x2 x3 y0 y1 y2 z2 g2 gf y1v y2v z2v gv;by_cases hx4:xc=4
 · subst hx4
   have e4:M6 m.tl m.ar Pg ⟨4,xt⟩=(P5 4 m.tl 0,Pg):=by simp [M6,Pg]
   rw [e4] at rP;have KQ:=Q0 pq
   go_wp2_with fail
   rw [<- HU.out];refine (Zc 4 m.tl 0 U).mono ?_;rintro e w5 ⟨rfl,hb5⟩;have jO:=Q0 (HTU.out.below hb5 O0);have IP:=(hb5.block _ O0).trans HLU.out;have JP:=Q0 IP;have QM:=Q0 (ownsRow_below HOU.out hb5);have qP:=Q0 (ownsRow_below HIU.out hb5);have dM:=Q0 (ER.out.trans (hb5.mono O0));have IQ:U.heap.size<=w5.heap.size:=hb5.size;clear hb5 IP
   go_wp2_with (refine u_ rfl _ _ rfl w2.heap.size rfl ⟨true,4,m.tl,false,⟨#[]⟩,0⟩ _ rfl jO.out rfl ?_;intro u' hT' hB' hK')
   have JO:=Q0 hT';have hbl:∀ (k:Nat) (x:Array Value) (t:TypeId),w5.heap[k]?=some (.cells x t (0,0))->t≠42->u'.heap[k]?=some (.cells x t (0,0)):=fun k x t h1 ht=>(hK' k (j6 h1 jO.out ht)).trans h1;have VO:=Q0 (hbl _ _ _ JP.out J3);have PO:Hid (u'.ownsRow (w2.heap.size+1) 31 2 u7 0 []):=Y0 QM.out fun k hk=>by
    obtain ⟨_,cur,hc⟩:=J2 QM.out hk;rw [hbl _ _ _ hc J3,hc]
   have lZ:Hid (u'.ownsRow (w2.heap.size+1) 121 3 (.slice ai is.length ci) is.length (D5 is)):=Y0 qP.out fun k hk=>by
    obtain ⟨_,cur,hc⟩:=J2 qP.out hk;rw [hbl _ _ _ hc J3,hc]
   have QL:=Q0 (dM.out.trans (hB' _ O0));have FO:=(hB' 0 O0).size;clear hT' hB' hK' hbl;go_roundw
   case rel=>exact ⟨1,⟨true,4,m.tl,false,⟨#[]⟩,0⟩,Pg,.slice ai is.length ci,rfl,O0,rP,JO,VO,PO,(fun h=>by cases h),KQ,by show 0<=1;omega,.inr ⟨O0,fun h=>by cases h⟩,QL,O0⟩
   case measure=>simp [intOf];omega
 by_cases hx0:xc=0;rotate_left
 · have e5:M6 m.tl m.ar Pg ⟨xc,xt⟩=(P5 5 m.tl 0,Pg):=by simp [M6,Pg,hx0,hx4]
   rw [e5] at rP;have KQ:=Q0 pq
   go_wp2_with fail
   rw [<- HU.out];refine (Zc 5 m.tl 0 U).mono ?_;rintro e w5 ⟨rfl,hb5⟩;have jO:=Q0 (HTU.out.below hb5 O0);have IP:=(hb5.block _ O0).trans HLU.out;have JP:=Q0 IP;have QM:=Q0 (ownsRow_below HOU.out hb5);have qP:=Q0 (ownsRow_below HIU.out hb5);have dM:=Q0 (ER.out.trans (hb5.mono O0));have IQ:U.heap.size<=w5.heap.size:=hb5.size;clear hb5 IP
   go_wp2_with (refine u_ rfl _ _ rfl w2.heap.size rfl ⟨true,5,m.tl,false,⟨#[]⟩,0⟩ _ rfl jO.out rfl ?_;intro u' hT' hB' hK')
   have JO:=Q0 hT';have hbl:∀ (k:Nat) (x:Array Value) (t:TypeId),w5.heap[k]?=some (.cells x t (0,0))->t≠42->u'.heap[k]?=some (.cells x t (0,0)):=fun k x t h1 ht=>(hK' k (j6 h1 jO.out ht)).trans h1;have VO:=Q0 (hbl _ _ _ JP.out J3);have PO:Hid (u'.ownsRow (w2.heap.size+1) 31 2 u7 0 []):=Y0 QM.out fun k hk=>by
    obtain ⟨_,cur,hc⟩:=J2 QM.out hk;rw [hbl _ _ _ hc J3,hc]
   have lZ:Hid (u'.ownsRow (w2.heap.size+1) 121 3 (.slice ai is.length ci) is.length (D5 is)):=Y0 qP.out fun k hk=>by
    obtain ⟨_,cur,hc⟩:=J2 qP.out hk;rw [hbl _ _ _ hc J3,hc]
   have QL:=Q0 (dM.out.trans (hB' _ O0));have FO:=(hB' 0 O0).size;clear hT' hB' hK' hbl;go_roundw
   case rel=>exact ⟨1,⟨true,5,m.tl,false,⟨#[]⟩,0⟩,Pg,.slice ai is.length ci,rfl,O0,rP,JO,VO,PO,(fun h=>by cases h),KQ,by show 0<=1;omega,.inr ⟨O0,fun h=>by cases h⟩,QL,O0⟩
   case measure=>simp [intOf];omega
 subst hx0;have e0:M6 m.tl m.ar Pg ⟨0,xt⟩=(Qa m.tl m.ar xt.data.toList,⟨ok,is,[]⟩):=by simp [M6,Pg,iV.out]
 rw [e0] at rP;have KQ:Hid (Wp ⟨ok,is,[]⟩):=⟨hil,hiz,fun i=>by simp [Oa,ByteArray.size]⟩;cases ok
 · have e7:Qa m.tl m.ar xt.data.toList=P5 7 m.tl 0:=by unfold Qa;rw [iV.out];rfl
   rw [e7] at rP
   go_wp2_with fail
   rw [<- HU.out];refine (Zc 7 m.tl 0 U).mono ?_;rintro e w5 ⟨rfl,hb5⟩;have jO:=Q0 (HTU.out.below hb5 O0);have IP:=(hb5.block _ O0).trans HLU.out;have JP:=Q0 IP;have QM:=Q0 (ownsRow_below HOU.out hb5);have qP:=Q0 (ownsRow_below HIU.out hb5);have dM:=Q0 (ER.out.trans (hb5.mono O0));have IQ:U.heap.size<=w5.heap.size:=hb5.size;clear hb5 IP
   go_wp2_with (refine u_ rfl _ _ rfl w2.heap.size rfl ⟨true,7,m.tl,false,⟨#[]⟩,0⟩ _ rfl jO.out rfl ?_;intro u' hT' hB' hK')
   have JO:=Q0 hT';have hbl:∀ (k:Nat) (x:Array Value) (t:TypeId),w5.heap[k]?=some (.cells x t (0,0))->t≠42->u'.heap[k]?=some (.cells x t (0,0)):=fun k x t h1 ht=>(hK' k (j6 h1 jO.out ht)).trans h1;have VO:=Q0 (hbl _ _ _ JP.out J3);have PO:Hid (u'.ownsRow (w2.heap.size+1) 31 2 u7 0 []):=Y0 QM.out fun k hk=>by
    obtain ⟨_,cur,hc⟩:=J2 QM.out hk;rw [hbl _ _ _ hc J3,hc]
   have lZ:Hid (u'.ownsRow (w2.heap.size+1) 121 3 (.slice ai is.length ci) is.length (D5 is)):=Y0 qP.out fun k hk=>by
    obtain ⟨_,cur,hc⟩:=J2 qP.out hk;rw [hbl _ _ _ hc J3,hc]
   have QL:=Q0 (dM.out.trans (hB' _ O0));have FO:=(hB' 0 O0).size;clear hT' hB' hK' hbl;go_roundw
   case rel=>exact ⟨1,⟨true,7,m.tl,false,⟨#[]⟩,0⟩,⟨false,is,[]⟩,.slice ai is.length ci,rfl,O0,rP,JO,VO,PO,(fun h=>by cases h),KQ,by show 0<=1;omega,.inr ⟨O0,fun h=>by cases h⟩,QL,O0⟩
   case measure=>simp [intOf];omega
 rcases hN:Z7 is m.ar [] with ⟨o',c',XT,hh',n',st'⟩;have e7:Qa m.tl m.ar xt.data.toList=⟨o',c',XT,hh',n',st'⟩:=by unfold Qa;rw [iV.out];exact hN
 rw [e7] at rP;have HN:=Q0 hN;clear hN e7;obtain ⟨a7,YY,hv7,TY⟩:=Mj (rs:=[]) HOU.out;have hu7:u7=.slice a7 0 YY:=hv7;have a2p:=Q0 TY;clear hv7 TY;subst hu7;obtain ⟨a8,c85,RY,HI8⟩:=U6 HIU.out;have ha8:ai=a8:=by injection RY
 subst ha8;have a2q:=Q0 HI8;clear RY HI8
 go_wp2_with fail
 rw [<- HU.out];refine (eF ai ci _ is m.ar a7 YY 0 [] U rfl rfl ⟨O0,fun i=>Nat.le_trans (hiz i) O0,by have:=hm.2.2;exact this,Nat.zero_le _,fun i=>by simp [Oa,ByteArray.size]⟩ a2q.out a2p.out HN.out).mono ?_;rintro e w5 ⟨rfl,hb5⟩;have jO:=Q0 (HTU.out.below hb5 O0);have IP:=(hb5.block _ O0).trans HLU.out;have JP:=Q0 IP;have QM:=Q0 (ownsRow_below HOU.out hb5);have qP:=Q0 (ownsRow_below HIU.out hb5);have dM:=Q0 (ER.out.trans (hb5.mono O0));have IQ:U.heap.size<=w5.heap.size:=hb5.size;clear hb5 IP
 go_wp2_with (refine u_ rfl _ _ rfl w2.heap.size rfl ⟨o',c',XT,hh',n',st'⟩ _ rfl jO.out rfl ?_;intro u' hT' hB' hK')
 have JO:=Q0 hT';have hbl:∀ (k:Nat) (x:Array Value) (t:TypeId),w5.heap[k]?=some (.cells x t (0,0))->t≠42->u'.heap[k]?=some (.cells x t (0,0)):=fun k x t h1 ht=>(hK' k (j6 h1 jO.out ht)).trans h1;have VO:=Q0 (hbl _ _ _ JP.out J3);have PO:Hid (u'.ownsRow (w2.heap.size+1) 31 2 (.slice a7 0 YY) 0 []):=Y0 QM.out fun k hk=>by
  obtain ⟨_,cur,hc⟩:=J2 QM.out hk;rw [hbl _ _ _ hc J3,hc]
 have lZ:Hid (u'.ownsRow (w2.heap.size+1) 121 3 (.slice ai is.length ci) is.length (D5 is)):=Y0 qP.out fun k hk=>by
  obtain ⟨_,cur,hc⟩:=J2 qP.out hk;rw [hbl _ _ _ hc J3,hc]
 have QL:=Q0 (dM.out.trans (hB' _ O0));have FO:=(hB' 0 O0).size;clear hT' hB' hK' hbl;go_roundw
 case rel=>exact ⟨1,⟨o',c',XT,hh',n',st'⟩,⟨true,is,[]⟩,.slice ai is.length ci,rfl,O0,rP,JO,VO,PO,(fun _=>lZ.out),KQ,by show 0<=1;omega,.inr ⟨O0,fun _=>rfl⟩,QL,O0⟩
 case measure=>simp [intOf];omega
theorem ZC {tl ar:ByteArray} (ls:List M.L4):∀ (t:TN) (s:RS),(∃ i,i<ls.length/\¬ M.Gf (ls.getD i M.A_))->Xr tl ar t s ls=R5:=by
 induction ls with
 | nil=>rintro t s ⟨i,h,_⟩;exact absurd h (Nat.not_lt_zero _)
 | cons x xs ih=>
  rintro t s ⟨i,hi,hb⟩;by_cases hh:Halt t x
  · exact Lh hh
  rw [ou hh]
  cases i with
  | zero=>exact absurd (.inr (.inr (.inr hb))) hh
  | succ i=>exact ih _ _ ⟨i,by simpa using hi,hb⟩
theorem EG (m:M3) (a:Option Addr) (cap:Nat) (ls:List M.L4) (w:World) (hm:m.le 1048576) (hno:Z9 m=false\/¬ M.um ls) (hl:ls.length<=1048576) (hs:∀ i,(ls.getD i M.A_).le 1048576) (hat:M.Ma w a ls):
 Calls prog 85 #[.agg #[.string m.nm,.string m.tl,.string m.ar],.slice a ls.length cap] w fun e w'=>e=.returned R5.v/\Below w.heap.size w w':=by
 have hml:m.le 1048700:=⟨by have:=hm.1;omega,by have:=hm.2.1;omega,by have:=hm.2.2;omega⟩;have HAT:=Q0 hat;have EP:=Q0 hno;clear hat hno;have HW:Hid (WS m w=(((w.alloc (.cells #[.string m.nm,.string m.tl,.string m.ar] 35)).alloc (.cells #[.bool false,.int .i64 0,.string ⟨#[]⟩,.bool false,.string ⟨#[]⟩,.int .i64 0] 42)).alloc (.cells #[.bool false,.int .i64 0,.string ⟨#[]⟩,.bool false,.string ⟨#[]⟩,.int .i64 0] 42))):=rfl;rcases hk:Z9 m with _ | _
 · go_enter func85,ntmps85
   go_wp2_with fail
   rw [<- HW.out];refine (Dh hk _ hml).mono ?_;rintro e w1 ⟨rfl,hb1⟩;have iO:Hid (Below (w.heap.size+3) (WS m w) w1):=hb1.mono (by rw [ji];omega);clear hb1
   go_wp2_with (first | (refine Xf rfl (.tmp 5) rfl (w.heap.size+1+1) rfl R5 (Dz iO.out) ?_) | (refine u_ rfl (.tmp 4) _ rfl (w.heap.size+1) rfl R5 R5 rfl (xy iO.out) rfl ?_;intro u' hT' hB' _))
   refine bodyPost_ret (v:=R5.v) (M.O8 (P:=prog) (ty:=42) rfl _ _ (w.heap.size+1) _ _ rfl hT'.blk underlying42 rfl I1) rfl ⟨rfl,?_⟩;exact ((zb m w).trans (iO.out.mono O0)).trans (hB' _ O0)
 go_enter func85,ntmps85
 go_wp2_with fail
 rw [<- HW.out];refine (Dh hk _ hml).mono ?_;rintro e w1 ⟨rfl,hb1⟩;have HB1:Hid (Below (w.heap.size+3) (WS m w) w1):=hb1.mono (by rw [ji];omega);have hz1:w.heap.size+3<=w1.heap.size:=by have:=hb1.size;rw [ji] at this;exact this
 have hBw1:=(zb m w).trans (HB1.out.mono O0);clear hb1
 go_wp2_with fail
 refine (M.QH a cap ls w1 hl hs (M.I_ HAT.out hBw1)).mono ?_;rintro e w2 ⟨⟨r,rfl,hr⟩,hb2⟩;have hrt:r=false:=by
  rcases EP.out with h | h
  · rw [hk] at h;cases h
  cases r
  · rfl
  exact absurd (hr.1 rfl) h
 subst hrt;have iO:=Q0 (HB1.out.trans (hb2.mono O0));clear hb2 hBw1 HB1 hr
 go_wp2_with (first | (refine Xf rfl (.tmp 5) rfl (w.heap.size+1+1) rfl R5 (Dz iO.out) ?_) | (refine u_ rfl (.tmp 4) _ rfl (w.heap.size+1) rfl R5 R5 rfl (xy iO.out) rfl ?_;intro u' hT' hB' _))
 refine bodyPost_ret (v:=R5.v) (M.O8 (P:=prog) (ty:=42) rfl _ _ (w.heap.size+1) _ _ rfl hT'.blk underlying42 rfl I1) rfl ⟨rfl,?_⟩;exact ((zb m w).trans (iO.out.mono O0)).trans (hB' _ O0)
theorem c85 (m:M3) (a:Option Addr) (cap:Nat) (ls:List M.L4) (w:World) (hm:m.le 1048576) (hl:ls.length<=1048576) (hs:∀ i,(ls.getD i M.A_).le 1048576) (hat:M.Ma w a ls):
 Calls prog 85 #[.agg #[.string m.nm,.string m.tl,.string m.ar],.slice a ls.length cap] w fun e w'=>e=.returned (goT m ls).v/\Below w.heap.size w w':=by
 by_cases hk:Z9 m=true;rotate_left
 · have hk':Z9 m=false:=by simpa using hk
   rw [Tz (.inl hk')];exact EG m a cap ls w hm (.inl hk') hl hs hat
 by_cases bQ:ls.length<=15;rotate_left
 · rw [Tz (.inr O0)]
   exact EG m a cap ls w hm (.inr fun h=>bQ h.1) hl hs hat
 rw [Ew hk bQ];by_cases hok:M.um ls
 · exact yJ m a cap ls w hm hk hok hs hat
 have hb:∃ i,i<ls.length/\¬ M.Gf (ls.getD i M.A_):=by
  apply Classical.byContradiction;intro h;exact hok ⟨bQ,fun i hi=>Classical.byContradiction fun h'=>h ⟨i,hi,h'⟩⟩
 rw [ZC ls _ _ hb];exact EG m a cap ls w hm (.inr hok) hl hs hat
open G (Ke Q6)
open G.T (F2 L6 Y3 U3)
def Nc (w:World) (x:W8):Prop:=∃ a c,x.lv=.slice a x.ls.length c/\M.Ma w a x.ls/\∀ k,x.lv.ownBlock=some k->k<w.heap.size
theorem Nc.below {w w':World} {x:W8} (h:Nc w x) (hb:Below w.heap.size w w'):Nc w' x:=by
 obtain ⟨a,c,h1,h2,h3⟩:=h;exact ⟨a,c,h1,M.I_ h2 hb,fun k e=>Nat.lt_of_lt_of_le (h3 k e) hb.size⟩
structure Tt (E:Env) (y:W8):Prop where
 mem:y.m∈E.ms
 his:V8 E y.m y.ls
 ov:y.ov=true->(tn y.m y.ls).over=true/\(⟨y.cd,y.tx⟩:R2)=jg (tn y.m y.ls)
 wt:y.ov=true->y.wt=⟨#[]⟩
structure aj (E:Env) (kn:ByteArray->R2×Bool) (x y:W8):Prop where
 m:y.m=x.m
 ok:Tt E y
 pre:x.ls <+:y.ls
 ovd:x.ov=true->y=x
 blk:y.ov=false->(tn y.m y.ls).over=false/\(tn y.m y.ls).has=false/\(kn (tn y.m y.ls).name).2=false/\y.wt=(tn y.m y.ls).name
theorem lh (x:W8) (h:x.lv.oneCell'=true):∀ v∈x.vs,v.oneCell'=true:=by
 intro v hv;simp only [W8.vs,List.mem_cons,List.not_mem_nil,or_false] at hv;rcases hv with rfl | rfl | rfl | rfl | rfl | rfl | rfl | rfl
 all_goals first | rfl | exact h
theorem Nt {xs vs:List Value} (h:vs.length=xs.length):Ed xs 0 vs=vs:=by
 unfold Ed;rw [List.take_zero,Nat.zero_add,h,List.drop_length];simp
theorem Ep {ops:Array Oper} {rest:List Oper} {o:Oper} {a:Act} {u:World} {Q:Exit->Act->World->Prop} (hgd:o.guard=none) (x:Operand) (ho:o.op=.load 102 x) (B:Nat) (hx:a.eval x=.pointer (some ⟨B,0,none⟩)) (vs:List Value) (hB:Cl u B 102 vs) (hl:vs.length=8)
 (h:wpList prog ops Q rest (a.put o.dst (.agg vs.toArray)) u):wpList prog ops Q (o::rest) a u:=
 Ve hgd (Vd 102 x ho hx (fun i v e=>by rw [Nat.zero_add];exact (hB.cell i).trans e) underlying102 rfl (by rw [hl];kernel_rfl)) h
theorem Ju {ops:Array Oper} {rest:List Oper} {o:Oper} {a:Act} {u:World} {Q:Exit->Act->World->Prop} (hgd:o.guard=none) (x y:Operand) (ho:o.op=.store 102 x y) (B:Nat) (hx:a.eval x=.pointer (some ⟨B,0,none⟩)) (vs xs:List Value) (hy:a.eval y=.agg vs.toArray) (hB:Cl u B 102 xs) (hl:vs.length=8) (hxl:xs.length=8) (h1:∀ v∈vs,v.oneCell'=true) (hd:o.dst=none)
 (h:∀ u',Cl u' B 102 vs->Hm B u u'->wpList prog ops Q rest a u'):wpList prog ops Q (o::rest) a u:=
 Ye hgd 102 x y ho hx hy hB O0 h1 (by rw [hl];kernel_rfl) (fun w' k1 k2=>by rw [Nt O0] at k1;rw [hd];exact h w' k1 k2)
theorem Ca {P:Program} {fn:Func} {p q:Tmp} {ty:TypeId} (h:fn.results=#[.cell p ty,.tmp q]) (tmps:Array Value) (w:World) (B:Nat) (cs:List Value) (d:TypeDesc) (hp:tmps.getD p undef=.pointer (some ⟨B,0,none⟩)) (hc:M.Ta w B cs) (hu:P.underlying ty=some d) (hd:(match d with | .struct _ | .array _ _=>true | _=>false)=true) (hi:(P.info? ty).map (·.size)=some cs.length):
 (results fn tmps).run P w=.ok (.tuple #[.agg cs.toArray,tmps.getD q undef]) w:=by
 have hp':tmps[p]?.getD undef=.pointer (some ⟨B,0,none⟩):=by simpa using hp
 simp [results,h,hp',asAddr,M.Lc w B ty cs d hc hu hd hi]
def z8:List Value:=[.string ⟨#[]⟩,.string ⟨#[]⟩,.string ⟨#[]⟩,.slice none 0 0,.bool false,.int .i64 0,.string ⟨#[]⟩,.string ⟨#[]⟩]
theorem Nc.src {w u:World} {y:W8} (h:Nc w y) (hb:Below w.heap.size w u):Src u y.lv 4 y.ls.length (I4 y.ls):=by
 obtain ⟨a,c,h1,h2,_⟩:=h;have h3:=M.I_ h2 hb
 cases a with
 | none=>
  have:y.ls=[]:=by
   rcases h3 with h3 | ⟨b,off,h,_⟩
   · exact h3
   cases h
  rw [h1,this];exact .inl ⟨⟨c,rfl⟩,rfl,rfl⟩
 | some ad=>exact .inr ⟨ad,c,h1,Yf _,Xj h3⟩
theorem Ue {w:World} {base:Nat} {e:TypeId} {size n m:Nat} {xs:List Value} {g c:Nat} (h:w.ownsRow base e size (.slice (some ⟨g,0,none⟩) n c) m xs):base<=g:=(h.lt g rfl).1
theorem WJ (B5 B8:Nat) (y:W8) (kh:Bool) (kn:ByteArray) (kc:Int) (kt:ByteArray) (w:World) (u0 u1 u2 u3 u4 u6 u7 u9 u10 u11 u12 u13 u14 u15 u16 u17 u18 u19 u20 u21 u22 u23 u24 u25 u26 u27 u28 u29 u30 u31 u32 u33 u34 u35 u36 u37 u38 u39 u40 u41 u42 u43 u44 u45 u46 u47 u48 u49 u50 u51 u52 u53 u54 u55 u56 u57 u58 u59 u60:Value) {Q:Exit->Act->World->Prop} (hQ:∀ c (a:Act) (d:Option Tmp) (v:Value) w,Q (.panic c) (a.put d v) w->Q (.panic c) a w) (C5:Hid (Cl w B5 102 y.vs)) (C8:Hid (Cl w B8 45 [.bool kh,.string kn,.int .i64 kc,.string kt])) (LV:Hid (Nc w y)) (hl:y.ls.length<=15)
 (uM:∀ (t52 t53 t54 t55 t56 t57 t58 t59 UM:Value) (w':World),Cl w' B5 102 (y.vs.set 3 UM)->Nc w' { y with lv:=UM,ls:=y.ls++[⟨kh,kn,kc,kt⟩] }->(∀ k,UM.ownBlock=some k->w.heap.size<=k)->Ex (fun k=>k=B5) w w'->Q .normal { tmps:=#[u0,u1,u2,u3,u4,.pointer (some ⟨B5,0,none⟩),u6,u7,.pointer (some ⟨B8,0,none⟩),u9,u10,u11,u12,u13,u14,u15,u16,u17,u18,u19,u20,u21,u22,u23,u24,u25,u26,u27,u28,u29,u30,u31,u32,u33,u34,u35,u36,u37,u38,u39,u40,u41,u42,u43,u44,u45,u46,u47,u48,u49,u50,u51,t52,t53,t54,t55,t56,t57,t58,t59,u60],defers:=[] } w'):
 (Code.region 15 #[⟨some 52,.buildSlice 36 0 #[],36, "l4_want.go:87",#[],none⟩,⟨some 53,.fieldAddr 102 (.tmp 5) 1,0, "l4_want.go:87",#[],none⟩,⟨some 54,.load 36 (.tmp 53),36, "l4_want.go:87",#[⟨1,.data⟩],none⟩,⟨some 55,.call ⟨.builtin .append,#[.tmp 52,.tmp 54],#[36,36]⟩,36, "l4_want.go:87",#[⟨0,.data⟩,⟨2,.data⟩],none⟩,⟨some 56,.load 45 (.tmp 8),45, "l4_want.go:87",#[],none⟩,⟨some 57,.buildSlice 36 1 #[(0,.tmp 56)],36, "l4_want.go:87",#[⟨4,.data⟩],none⟩,⟨some 58,.call ⟨.builtin .append,#[.tmp 55,.tmp 57],#[36,36]⟩,36, "l4_want.go:87",#[⟨3,.data⟩,⟨5,.data⟩,⟨3,.chain⟩],none⟩,⟨some 59,.fieldAddr 102 (.tmp 5) 1,0, "l4_want.go:87",#[⟨0,.phase⟩,⟨1,.phase⟩,⟨2,.phase⟩,⟨3,.phase⟩,⟨4,.phase⟩,⟨5,.phase⟩,⟨6,.phase⟩],none⟩,⟨none,.store 36 (.tmp 59) (.tmp 58),0, "l4_want.go:87",#[⟨7,.data⟩,⟨6,.data⟩,⟨6,.chain⟩,⟨0,.phase⟩,⟨1,.phase⟩,⟨2,.phase⟩,⟨3,.phase⟩,⟨4,.phase⟩,⟨5,.phase⟩,⟨6,.phase⟩],none⟩] true).wp prog Q { tmps:=#[u0,u1,u2,u3,u4,.pointer (some ⟨B5,0,none⟩),u6,u7,.pointer (some ⟨B8,0,none⟩),u9,u10,u11,u12,u13,u14,u15,u16,u17,u18,u19,u20,u21,u22,u23,u24,u25,u26,u27,u28,u29,u30,u31,u32,u33,u34,u35,u36,u37,u38,u39,u40,u41,u42,u43,u44,u45,u46,u47,u48,u49,u50,u51,u52,u53,u54,u55,u56,u57,u58,u59,u60],defers:=[] } w:=by
 refine P7 (S:=fun u=>Cl u B5 102 y.vs/\Cl u B8 45 [.bool kh,.string kn,.int .i64 kc,.string kt]) 8 I1 ?_ fun hH=>?_
 · exact ⟨C5.out,C8.out⟩
 have DX:True:=trivial;obtain ⟨x0,hx0⟩:∃ x:World,x=w.drew:=⟨_,rfl⟩;rw [<- hx0] at hH ⊢;have KO:Below w.heap.size w x0:=by rw [hx0];exact (Below.refl _ w).drew
 have Dx0:Hid (Cl x0 B5 102 y.vs):=Q0 hH.1;have Fx0:Hid (Cl x0 B8 45 [.bool kh,.string kn,.int .i64 kc,.string kt]):=Q0 hH.2;have NN:Hid (B5<w.heap.size):=Q0 C5.out.lt;have eQ:Hid (B8<w.heap.size):=Q0 C8.out.lt;clear hx0;refine lq 1 hH ?_
 try simp only [qq]
 refine lq 2 hH ?_ (v:=?_) (hv:=?e)
 case e=>intro wq hSw;(try dsimp only at hSw);have s3:wq.cell? ⟨B5,3,none⟩=some y.lv:=hSw.1.cell 3;have s0:wq.cell? ⟨B8,0,none⟩=some (.bool kh):=hSw.2.cell 0;have s1:wq.cell? ⟨B8,1,none⟩=some (.string kn):=hSw.2.cell 1;have s2:wq.cell? ⟨B8,2,none⟩=some (.int .i64 kc):=hSw.2.cell 2;have s4:wq.cell? ⟨B8,3,none⟩=some (.string kt):=hSw.2.cell 3;go_simp;try with_reducible rfl
 try simp only [qq]
 refine lq 4 hH ?_ (v:=?_) (hv:=?e)
 case e=>intro wq hSw;(try dsimp only at hSw);have s3:wq.cell? ⟨B5,3,none⟩=some y.lv:=hSw.1.cell 3;have s0:wq.cell? ⟨B8,0,none⟩=some (.bool kh):=hSw.2.cell 0;have s1:wq.cell? ⟨B8,1,none⟩=some (.string kn):=hSw.2.cell 1;have s2:wq.cell? ⟨B8,2,none⟩=some (.int .i64 kc):=hSw.2.cell 2;have s4:wq.cell? ⟨B8,3,none⟩=some (.string kt):=hSw.2.cell 3;go_simp;try with_reducible rfl
 try simp only [qq]
 refine Hg (rs:=[0,5]) I1 U0 (A7.cons J3 (o:=⟨some 52,.buildSlice 36 0 #[],36,_,_,none⟩) rfl (fun K hK=>?_) (A7.cons J3 (o:=⟨some 57,.buildSlice 36 1 #[(0,.tmp 56)],36,_,_,none⟩) rfl (fun K hK=>?_) A7.nil))
 · go_simp
   obtain ⟨x1,hx1⟩:∃ x:World,x=x0.alloc (.cells #[] 45):=⟨_,rfl⟩;rw [<- hx1];have vN:Below x0.heap.size x0 x1:=by rw [hx1];exact bA
   have PS:Hid (x1.ownsRow w.heap.size 45 4 (.slice (some ⟨x0.heap.size,0,none⟩) 0 0) 0 []):=by show World.ownsRow _ _ _ _ _ _ _;rw [hx1];exact World.ownsRow_made x0 #[] 0 KO.size (Nat.zero_le _) rfl
   have IU:Hid (Cl x1 B5 102 y.vs):=Q0 ((vN.block B5 Dx0.out.lt).trans Dx0.out);have JU:Hid (Cl x1 B8 45 [.bool kh,.string kn,.int .i64 kc,.string kt]):=Q0 ((vN.block B8 Fx0.out.lt).trans Fx0.out);have vM:=bT KO vN;have a2r:Hid (x0.heap.size<x1.heap.size):=by show _<_;rw [hx1];simp
   clear hx1;clear hH;refine hK.out _ _ ?_ fun hH=>?_
   · exact ⟨IU.out,JU.out⟩
   clear hK K
   try simp only [qq]
   refine Hg (rs:=[3,5]) I1 U0 (A7.cons J3 (o:=⟨some 55,.call ⟨.builtin .append,#[.tmp 52,.tmp 54],#[36,36]⟩,36,_,_,none⟩) rfl (fun K hK=>?_) (A7.cons J3 (o:=⟨some 57,.buildSlice 36 1 #[(0,.tmp 56)],36,_,_,none⟩) rfl (fun K hK=>?_) A7.nil))
   · refine V9 rfl _ _ 36 rfl w.heap.size 45 4 underlying36 Oh J3 (.slice (some ⟨x0.heap.size,0,none⟩) 0 0) 0 [] rfl PS.out y.lv y.ls.length (I4 y.ls) rfl (LV.out.src vM) (Ec _) O0 vM.size ?_
     intro v3 x2 O3 (g3:x1.grownBy x2 (some x0.heap.size)) at3;have a2s:Hid (x2.ownsRow w.heap.size 45 4 v3 y.ls.length (I4 y.ls)):=by have:=O3;rw [Nat.zero_add,List.nil_append] at this;exact this
     have XL:Below w.heap.size w x2:=⟨g3.os.trans vM.os,g3.tape.trans vM.tape,g3.output.trans vM.output,Nat.le_trans vM.size g3.size,fun k hk=>(g3.block k (by have:=vM.size;omega) (fun e=>by have e:=Option.some.inj e;have:=Ue PS.out;omega)).trans (vM.block k hk)⟩;have QS:Hid (Cl x2 B5 102 y.vs):=Q0 ((g3.block B5 IU.out.lt (fun e=>by have e:=Option.some.inj e;have:=Ue PS.out;have:=NN.out;omega)).trans IU.out);have SS:Hid (Cl x2 B8 45 [.bool kh,.string kn,.int .i64 kc,.string kt]):=Q0 ((g3.block B8 JU.out.lt (fun e=>by have e:=Option.some.inj e;have:=Ue PS.out;have:=eQ.out;omega)).trans JU.out);clear O3;clear hH;refine hK.out _ _ ?_ fun hH=>?_
     · exact ⟨QS.out,SS.out⟩
     clear hK K
     try simp only [qq]
     refine lr (i:=5) (o:=⟨some 57,.buildSlice 36 1 #[(0,.tmp 56)],36,_,_,none⟩) rfl J3 I1 fun K hK=>?_;go_simp;obtain ⟨x3,hx3⟩:∃ x:World,x=x2.alloc (.cells #[.bool kh,.string kn,.int .i64 kc,.string kt] 45):=⟨_,rfl⟩;rw [<- hx3];have fQ:Below x2.heap.size x2 x3:=by rw [hx3];exact bA
     have a2t:Hid (Cl x3 x2.heap.size 45 [.bool kh,.string kn,.int .i64 kc,.string kt]):=by show Cl _ _ _ _;rw [hx3];exact F3 x2 _ 45
     have TS:Hid (Cl x3 B5 102 y.vs):=Q0 ((fQ.block B5 QS.out.lt).trans QS.out);have VS:Hid (Cl x3 B8 45 [.bool kh,.string kn,.int .i64 kc,.string kt]):=Q0 ((fQ.block B8 SS.out.lt).trans SS.out);have bM:=bT XL fQ;have bP:=Q0 (ownsRow_below a2s.out fQ);have a4c:w.heap.size<=x2.heap.size:=XL.size;have a3f:Hid (∀ k,k<x2.heap.size->k≠x2.heap.size):=fun k h=>O0;have Gx3:=a2t;clear hx3;clear hH;refine hK.out _ _ ?_ fun hH=>?_
     · exact ⟨TS.out,VS.out⟩
     clear hK K
     try simp only [qq]
     refine lr (i:=6) (o:=⟨some 58,.call ⟨.builtin .append,#[.tmp 55,.tmp 57],#[36,36]⟩,36,_,_,none⟩) rfl J3 I1 fun K hK=>?_;refine V9 rfl _ _ 36 rfl w.heap.size 45 4 underlying36 Oh J3 v3 y.ls.length (I4 y.ls) rfl bP.out (.slice (some ⟨x2.heap.size,0,none⟩) 1 1) 1 [.bool kh,.string kn,.int .i64 kc,.string kt] rfl (.inr ⟨⟨x2.heap.size,0,none⟩,1,rfl,rfl,r_ Gx3.out⟩) (by intro u hu;simp at hu;rcases hu with rfl | rfl | rfl | rfl <;> rfl) O0 bM.size ?_;intro v6 x4 O6 g6 at6;have hge:∀ k,v3.ownBlock=some k->w.heap.size<=k:=fun k e=>(bP.out.lt k e).1;have jN:Below w.heap.size w x4:=⟨g6.os.trans bM.os,g6.tape.trans bM.tape,g6.output.trans bM.output,Nat.le_trans bM.size g6.size,fun k hk=>(g6.block k (by have:=bM.size;omega) (fun e=>by have:=hge k e.symm;omega)).trans (bM.block k hk)⟩;have gQ:Hid (Cl x4 B5 102 y.vs):=Q0 ((g6.block B5 TS.out.lt (fun e=>by have:=hge _ e.symm;have:=NN.out;omega)).trans TS.out);have Fx4:Hid (Cl x4 B8 45 [.bool kh,.string kn,.int .i64 kc,.string kt]):=Q0 ((g6.block B8 VS.out.lt (fun e=>by have:=hge _ e.symm;have:=eQ.out;omega)).trans VS.out);have R6:Hid (x4.ownsRow w.heap.size 45 4 v6 (y.ls++[(⟨kh,kn,kc,kt⟩:M.L4)]).length (I4 (y.ls++[⟨kh,kn,kc,kt⟩]))):=by show World.ownsRow _ _ _ _ _ _ _;rw [Rc,List.length_append];exact O6
     clear O6 hge;clear hH;refine hK.out _ _ ?_ fun hH=>?_
     · exact ⟨gQ.out,Fx4.out⟩
     clear hK K
     try simp only [qq]
     refine lq 7 hH ?_
     try simp only [qq]
     refine lz (o:=⟨none,.store 36 (.tmp 59) (.tmp 58),0,_,_,none⟩) rfl I1 fun K hK=>?_;have z3:x4.cell? ⟨B5,3,none⟩=some y.lv:=gQ.out.cell 3;have zf:=gQ.out.opn 3;obtain ⟨a6,WL,e6,k6⟩:=Zb R6.out;subst e6;go_simp;clear hH;refine hK.out _ _ ?_;clear hK K
     try simp only [qq]
     refine F9 I1 ?_ _;refine uM _ _ _ _ _ _ _ _ (.slice a6 (y.ls.length+1) WL) _ (gQ.out.set 3 _) ⟨a6,WL,U0,M.Oo k6 (fun b off e hne=>?_),fun k e=>?_⟩ (fun k e=>?_) ?_
     · subst e
       have hge:=(R6.out.lt b rfl).1;have:=NN.out;show B5≠b;omega
     · cases a6 with
       | none=>cases e
       | some ad=>have:=(R6.out.lt k e).2;simpa using this
     · cases a6 with
       | none=>cases e
       | some ad=>exact (R6.out.lt k e).1
     exact ⟨jN.os,jN.tape,jN.output,by simpa using jN.size,fun k hk hn=>(heap_setCell_other _ _ _ _ hn).trans (jN.block k hk)⟩
   go_simp;obtain ⟨x2,hx2⟩:∃ x:World,x=x1.alloc (.cells #[.bool kh,.string kn,.int .i64 kc,.string kt] 45):=⟨_,rfl⟩;rw [<- hx2];have NM:Below x1.heap.size x1 x2:=by rw [hx2];exact bA
   have a2u:Hid (Cl x2 x1.heap.size 45 [.bool kh,.string kn,.int .i64 kc,.string kt]):=by show Cl _ _ _ _;rw [hx2];exact F3 x1 _ 45
   have QS:Hid (Cl x2 B5 102 y.vs):=Q0 ((NM.block B5 IU.out.lt).trans IU.out);have SS:Hid (Cl x2 B8 45 [.bool kh,.string kn,.int .i64 kc,.string kt]):=Q0 ((NM.block B8 JU.out.lt).trans JU.out);have XL:=bT vM NM;have xO:=Q0 (ownsRow_below PS.out NM);have a4d:w.heap.size<=x1.heap.size:=vM.size;have a3g:Hid (∀ k,k<x1.heap.size->k≠x1.heap.size):=fun k h=>O0;have Gx2:=a2u;clear hx2;clear hH;refine hK.out _ _ ?_ fun hH=>?_
   · exact ⟨QS.out,SS.out⟩
   clear hK K
   try simp only [qq]
   refine lr (i:=3) (o:=⟨some 55,.call ⟨.builtin .append,#[.tmp 52,.tmp 54],#[36,36]⟩,36,_,_,none⟩) rfl J3 I1 fun K hK=>?_;refine V9 rfl _ _ 36 rfl w.heap.size 45 4 underlying36 Oh J3 (.slice (some ⟨x0.heap.size,0,none⟩) 0 0) 0 [] rfl xO.out y.lv y.ls.length (I4 y.ls) rfl (LV.out.src XL) (Ec _) O0 XL.size ?_;intro v3 x3 O3 (g3:x2.grownBy x3 (some x0.heap.size)) at3;have bP:Hid (x3.ownsRow w.heap.size 45 4 v3 y.ls.length (I4 y.ls)):=by have:=O3;rw [Nat.zero_add,List.nil_append] at this;exact this
   have bM:Below w.heap.size w x3:=⟨g3.os.trans XL.os,g3.tape.trans XL.tape,g3.output.trans XL.output,Nat.le_trans XL.size g3.size,fun k hk=>(g3.block k (by have:=XL.size;omega) (fun e=>by have e:=Option.some.inj e;have:=Ue xO.out;omega)).trans (XL.block k hk)⟩;have TS:Hid (Cl x3 B5 102 y.vs):=Q0 ((g3.block B5 QS.out.lt (fun e=>by have e:=Option.some.inj e;have:=Ue xO.out;have:=NN.out;omega)).trans QS.out);have VS:Hid (Cl x3 B8 45 [.bool kh,.string kn,.int .i64 kc,.string kt]):=Q0 ((g3.block B8 SS.out.lt (fun e=>by have e:=Option.some.inj e;have:=Ue xO.out;have:=eQ.out;omega)).trans SS.out);have Gx3:Hid (Cl x3 x1.heap.size 45 [.bool kh,.string kn,.int .i64 kc,.string kt]):=Q0 ((g3.block x1.heap.size Gx2.out.lt (fun e=>by have e:=Option.some.inj e;have:=a2r.out;omega)).trans Gx2.out);clear O3;clear hH;refine hK.out _ _ ?_ fun hH=>?_
   · exact ⟨TS.out,VS.out⟩
   clear hK K
   try simp only [qq]
   refine lr (i:=6) (o:=⟨some 58,.call ⟨.builtin .append,#[.tmp 55,.tmp 57],#[36,36]⟩,36,_,_,none⟩) rfl J3 I1 fun K hK=>?_;refine V9 rfl _ _ 36 rfl w.heap.size 45 4 underlying36 Oh J3 v3 y.ls.length (I4 y.ls) rfl bP.out (.slice (some ⟨x1.heap.size,0,none⟩) 1 1) 1 [.bool kh,.string kn,.int .i64 kc,.string kt] rfl (.inr ⟨⟨x1.heap.size,0,none⟩,1,rfl,rfl,r_ Gx3.out⟩) (by intro u hu;simp at hu;rcases hu with rfl | rfl | rfl | rfl <;> rfl) O0 bM.size ?_;intro v6 x4 O6 g6 at6;have hge:∀ k,v3.ownBlock=some k->w.heap.size<=k:=fun k e=>(bP.out.lt k e).1;have jN:Below w.heap.size w x4:=⟨g6.os.trans bM.os,g6.tape.trans bM.tape,g6.output.trans bM.output,Nat.le_trans bM.size g6.size,fun k hk=>(g6.block k (by have:=bM.size;omega) (fun e=>by have:=hge k e.symm;omega)).trans (bM.block k hk)⟩;have gQ:Hid (Cl x4 B5 102 y.vs):=Q0 ((g6.block B5 TS.out.lt (fun e=>by have:=hge _ e.symm;have:=NN.out;omega)).trans TS.out);have Fx4:Hid (Cl x4 B8 45 [.bool kh,.string kn,.int .i64 kc,.string kt]):=Q0 ((g6.block B8 VS.out.lt (fun e=>by have:=hge _ e.symm;have:=eQ.out;omega)).trans VS.out);have R6:Hid (x4.ownsRow w.heap.size 45 4 v6 (y.ls++[(⟨kh,kn,kc,kt⟩:M.L4)]).length (I4 (y.ls++[⟨kh,kn,kc,kt⟩]))):=by show World.ownsRow _ _ _ _ _ _ _;rw [Rc,List.length_append];exact O6
   clear O6 hge;clear hH;refine hK.out _ _ ?_ fun hH=>?_
   · exact ⟨gQ.out,Fx4.out⟩
   clear hK K
   try simp only [qq]
   refine lq 7 hH ?_
   try simp only [qq]
   refine lz (o:=⟨none,.store 36 (.tmp 59) (.tmp 58),0,_,_,none⟩) rfl I1 fun K hK=>?_;have z3:x4.cell? ⟨B5,3,none⟩=some y.lv:=gQ.out.cell 3;have zf:=gQ.out.opn 3;obtain ⟨a6,WL,e6,k6⟩:=Zb R6.out;subst e6;go_simp;clear hH;refine hK.out _ _ ?_;clear hK K
   try simp only [qq]
   refine F9 I1 ?_ _;refine uM _ _ _ _ _ _ _ _ (.slice a6 (y.ls.length+1) WL) _ (gQ.out.set 3 _) ⟨a6,WL,U0,M.Oo k6 (fun b off e hne=>?_),fun k e=>?_⟩ (fun k e=>?_) ?_
   · subst e
     have hge:=(R6.out.lt b rfl).1;have:=NN.out;show B5≠b;omega
   · cases a6 with
     | none=>cases e
     | some ad=>have:=(R6.out.lt k e).2;simpa using this
   · cases a6 with
     | none=>cases e
     | some ad=>exact (R6.out.lt k e).1
   exact ⟨jN.os,jN.tape,jN.output,by simpa using jN.size,fun k hk hn=>(heap_setCell_other _ _ _ _ hn).trans (jN.block k hk)⟩
 go_simp;obtain ⟨x1,hx1⟩:∃ x:World,x=x0.alloc (.cells #[.bool kh,.string kn,.int .i64 kc,.string kt] 45):=⟨_,rfl⟩;rw [<- hx1];have vN:Below x0.heap.size x0 x1:=by rw [hx1];exact bA
 have a2v:Hid (Cl x1 x0.heap.size 45 [.bool kh,.string kn,.int .i64 kc,.string kt]):=by show Cl _ _ _ _;rw [hx1];exact F3 x0 _ 45
 have IU:Hid (Cl x1 B5 102 y.vs):=Q0 ((vN.block B5 Dx0.out.lt).trans Dx0.out);have JU:Hid (Cl x1 B8 45 [.bool kh,.string kn,.int .i64 kc,.string kt]):=Q0 ((vN.block B8 Fx0.out.lt).trans Fx0.out);have vM:=bT KO vN;have a4e:w.heap.size<=x0.heap.size:=KO.size;have a3h:Hid (∀ k,k<x0.heap.size->k≠x0.heap.size):=fun k h=>O0;have Gx1:=a2v;clear hx1;clear hH;refine hK.out _ _ ?_ fun hH=>?_
 · exact ⟨IU.out,JU.out⟩
 clear hK K
 try simp only [qq]
 refine lr (i:=0) (o:=⟨some 52,.buildSlice 36 0 #[],36,_,_,none⟩) rfl J3 I1 fun K hK=>?_;go_simp;obtain ⟨x2,hx2⟩:∃ x:World,x=x1.alloc (.cells #[] 45):=⟨_,rfl⟩;rw [<- hx2];have NM:Below x1.heap.size x1 x2:=by rw [hx2];exact bA
 have xO:Hid (x2.ownsRow w.heap.size 45 4 (.slice (some ⟨x1.heap.size,0,none⟩) 0 0) 0 []):=by show World.ownsRow _ _ _ _ _ _ _;rw [hx2];exact World.ownsRow_made x1 #[] 0 vM.size (Nat.zero_le _) rfl
 have QS:Hid (Cl x2 B5 102 y.vs):=Q0 ((NM.block B5 IU.out.lt).trans IU.out);have SS:Hid (Cl x2 B8 45 [.bool kh,.string kn,.int .i64 kc,.string kt]):=Q0 ((NM.block B8 JU.out.lt).trans JU.out);have XL:=bT vM NM;have a4f:Hid (x1.heap.size<x2.heap.size):=by show _<_;rw [hx2];simp
 have Gx2:Hid (Cl x2 x0.heap.size 45 [.bool kh,.string kn,.int .i64 kc,.string kt]):=Q0 ((NM.block _ Gx1.out.lt).trans Gx1.out);clear hx2;clear hH;refine hK.out _ _ ?_ fun hH=>?_
 · exact ⟨QS.out,SS.out⟩
 clear hK K
 try simp only [qq]
 refine lr (i:=3) (o:=⟨some 55,.call ⟨.builtin .append,#[.tmp 52,.tmp 54],#[36,36]⟩,36,_,_,none⟩) rfl J3 I1 fun K hK=>?_;refine V9 rfl _ _ 36 rfl w.heap.size 45 4 underlying36 Oh J3 (.slice (some ⟨x1.heap.size,0,none⟩) 0 0) 0 [] rfl xO.out y.lv y.ls.length (I4 y.ls) rfl (LV.out.src XL) (Ec _) O0 XL.size ?_;intro v3 x3 O3 (g3:x2.grownBy x3 (some x1.heap.size)) at3;have bP:Hid (x3.ownsRow w.heap.size 45 4 v3 y.ls.length (I4 y.ls)):=by have:=O3;rw [Nat.zero_add,List.nil_append] at this;exact this
 have bM:Below w.heap.size w x3:=⟨g3.os.trans XL.os,g3.tape.trans XL.tape,g3.output.trans XL.output,Nat.le_trans XL.size g3.size,fun k hk=>(g3.block k (by have:=XL.size;omega) (fun e=>by have e:=Option.some.inj e;have:=Ue xO.out;omega)).trans (XL.block k hk)⟩;have TS:Hid (Cl x3 B5 102 y.vs):=Q0 ((g3.block B5 QS.out.lt (fun e=>by have e:=Option.some.inj e;have:=Ue xO.out;have:=NN.out;omega)).trans QS.out);have VS:Hid (Cl x3 B8 45 [.bool kh,.string kn,.int .i64 kc,.string kt]):=Q0 ((g3.block B8 SS.out.lt (fun e=>by have e:=Option.some.inj e;have:=Ue xO.out;have:=eQ.out;omega)).trans SS.out);have Gx3:Hid (Cl x3 x0.heap.size 45 [.bool kh,.string kn,.int .i64 kc,.string kt]):=Q0 ((g3.block x0.heap.size Gx2.out.lt (fun e=>by have e:=Option.some.inj e;have:=Gx1.out.lt;omega)).trans Gx2.out);clear O3;clear hH;refine hK.out _ _ ?_ fun hH=>?_
 · exact ⟨TS.out,VS.out⟩
 clear hK K
 try simp only [qq]
 refine lr (i:=6) (o:=⟨some 58,.call ⟨.builtin .append,#[.tmp 55,.tmp 57],#[36,36]⟩,36,_,_,none⟩) rfl J3 I1 fun K hK=>?_;refine V9 rfl _ _ 36 rfl w.heap.size 45 4 underlying36 Oh J3 v3 y.ls.length (I4 y.ls) rfl bP.out (.slice (some ⟨x0.heap.size,0,none⟩) 1 1) 1 [.bool kh,.string kn,.int .i64 kc,.string kt] rfl (.inr ⟨⟨x0.heap.size,0,none⟩,1,rfl,rfl,r_ Gx3.out⟩) (by intro u hu;simp at hu;rcases hu with rfl | rfl | rfl | rfl <;> rfl) O0 bM.size ?_;intro v6 x4 O6 g6 at6;have hge:∀ k,v3.ownBlock=some k->w.heap.size<=k:=fun k e=>(bP.out.lt k e).1;have jN:Below w.heap.size w x4:=⟨g6.os.trans bM.os,g6.tape.trans bM.tape,g6.output.trans bM.output,Nat.le_trans bM.size g6.size,fun k hk=>(g6.block k (by have:=bM.size;omega) (fun e=>by have:=hge k e.symm;omega)).trans (bM.block k hk)⟩;have gQ:Hid (Cl x4 B5 102 y.vs):=Q0 ((g6.block B5 TS.out.lt (fun e=>by have:=hge _ e.symm;have:=NN.out;omega)).trans TS.out);have Fx4:Hid (Cl x4 B8 45 [.bool kh,.string kn,.int .i64 kc,.string kt]):=Q0 ((g6.block B8 VS.out.lt (fun e=>by have:=hge _ e.symm;have:=eQ.out;omega)).trans VS.out);have R6:Hid (x4.ownsRow w.heap.size 45 4 v6 (y.ls++[(⟨kh,kn,kc,kt⟩:M.L4)]).length (I4 (y.ls++[⟨kh,kn,kc,kt⟩]))):=by show World.ownsRow _ _ _ _ _ _ _;rw [Rc,List.length_append];exact O6
 clear O6 hge;clear hH;refine hK.out _ _ ?_ fun hH=>?_
 · exact ⟨gQ.out,Fx4.out⟩
 clear hK K
 try simp only [qq]
 refine lq 7 hH ?_
 try simp only [qq]
 refine lz (o:=⟨none,.store 36 (.tmp 59) (.tmp 58),0,_,_,none⟩) rfl I1 fun K hK=>?_;have z3:x4.cell? ⟨B5,3,none⟩=some y.lv:=gQ.out.cell 3;have zf:=gQ.out.opn 3;obtain ⟨a6,WL,e6,k6⟩:=Zb R6.out;subst e6;go_simp;clear hH;refine hK.out _ _ ?_;clear hK K
 try simp only [qq]
 refine F9 I1 ?_ _;refine uM _ _ _ _ _ _ _ _ (.slice a6 (y.ls.length+1) WL) _ (gQ.out.set 3 _) ⟨a6,WL,U0,M.Oo k6 (fun b off e hne=>?_),fun k e=>?_⟩ (fun k e=>?_) ?_
 · subst e
   have hge:=(R6.out.lt b rfl).1;have:=NN.out;show B5≠b;omega
 · cases a6 with
   | none=>cases e
   | some ad=>have:=(R6.out.lt k e).2;simpa using this
 · cases a6 with
   | none=>cases e
   | some ad=>exact (R6.out.lt k e).1
 exact ⟨jN.os,jN.tape,jN.output,by simpa using jN.size,fun k hk hn=>(heap_setCell_other _ _ _ _ hn).trans (jN.block k hk)⟩
theorem au (b:ByteArray):b.data.toList.length=b.size:=rfl
theorem z_ {b:ByteArray} (h:Y1 b.data.toList=true):b.size<=20:=by
 unfold Y1 at h;simp only [Bool.and_eq_true,decide_eq_true_eq] at h;have:=h.1.2
 rwa [au] at this
theorem Ih {x:M.L4} (h:M.Gf x):x.le 1048576:=by
 refine ⟨by have:=z_ h.1;omega,?_⟩;rcases h.2 with ⟨_,⟨_,h'⟩ | ⟨_,h'⟩⟩ | ⟨_,h'⟩
 · rw [h'];exact Nat.zero_le _
 · rw [h'];have:=z_ h.1;omega
 have:=Pf h';rw [au] at this;omega
theorem Rn {m:M3} (h:Z9 m=true):m.le 1048576:=by
 obtain ⟨h1,h2,h3⟩:=Ej h;exact ⟨by have:=z_ h1;omega,by have:=z_ h2;omega,O0⟩
theorem gD {E:Env} (hE:l8 E) {m:M3} {L:List M.L4} (hm:Z9 m=true) (h:V8 E m L):∀ i,(L.getD i M.A_).le 1048576:=fun i=>by
 rcases Nat.lt_or_ge i L.length with hi | hi
 · have e:L.getD i M.A_=L[i]:=by simp [List.getD,List.getElem?_eq_getElem hi]
   rw [e];exact Ih ((M_ hE hm h).2 _ (List.getElem_mem hi))
 have e:L.getD i M.A_=M.A_:=by simp [List.getD,List.getElem?_eq_none hi]
 rw [e];exact ⟨Nat.zero_le _,Nat.zero_le _⟩
theorem Bh {fs:List F2} (ht:Y3 fs):∀ i,(fs.getD i L6).le 1048576:=fun i=>by
 rcases Nat.lt_or_ge i fs.length with hi | hi
 · have:=ht.2 i hi
   unfold G.T.f_ G.T.a_ at this;simp only [Bool.and_eq_true,decide_eq_true_eq] at this;have h1:=z_ this.1.1;exact ⟨O0,by have:=this.1.2;omega⟩
 have e:fs.getD i L6=L6:=by simp [List.getD,List.getElem?_eq_none hi]
 rw [e];exact ⟨Nat.zero_le _,Nat.zero_le _⟩
structure iG (w:World) (tv:Value) (y:W8) (u:World):Prop where
 c3:Cl u w.heap.size 25 [tv]
 c9:Cl u (w.heap.size+1) 102 y.vs
 WL:Cl u (w.heap.size+2) 102 z8
 lv:Nc u y
 nb:y.ls≠[]->∀ k,y.lv.ownBlock=some k->k≠w.heap.size+1/\k≠w.heap.size+2
 bl:Below w.heap.size w u
theorem iG.below {w:World} {tv:Value} {y:W8} {u u':World} (h:iG w tv y u) (hb:Below u.heap.size u u'):iG w tv y u':=
 ⟨h.c3.below hb h.c3.lt,h.c9.below hb h.c9.lt,h.WL.below hb h.WL.lt,h.lv.below hb,h.nb,h.bl.trans (hb.mono h.bl.size)⟩
theorem Hm.trans {B:Nat} {a b c:World} (h:Hm B a b) (k:Hm B b c):Hm B a c:=⟨k.os.trans h.os,k.tape.trans h.tape,k.output.trans h.output,k.size.trans h.size,fun i hi=>(k.block i hi).trans (h.block i hi)⟩
theorem Nc.aC {u u':World} {y y':W8} {B:Nat} (h:Nc u y) (ho:Hm B u u') (hn:y.ls≠[]->∀ k,y.lv.ownBlock=some k->k≠B) (e1:y'.lv=y.lv) (e2:y'.ls=y.ls):Nc u' y':=by
 obtain ⟨a,c,h1,h2,h3⟩:=h;refine ⟨a,c,by rw [e1,e2];exact h1,?_,fun k e=>by rw [e1] at e;rw [ho.size];exact h3 k e⟩;rw [e2];rcases h2 with h2 | ⟨b,off,ha,hb,hc⟩
 · exact .inl h2
 by_cases hne:y.ls=[]
 · exact .inl hne
 have hB:=hn hne b (by rw [h1,ha];rfl);have e:∀ j,u'.cell? ⟨b,j,none⟩=u.cell? ⟨b,j,none⟩:=fun j=>World.cell?_of_block (ho.block b hB);refine .inr ⟨b,off,ha,by rw [ho.size];exact hb,fun i hi=>?_⟩;rw [e,e,e,e];exact hc i hi
theorem Qe {ws:List W8} {nm:ByteArray} {z:W8} (h:g_ ws nm=some z):z.m.nm=nm/\∃ i,i<ws.length/\ws.getD i I8=z:=by
 unfold g_ at h;have h1:=List.find?_some h;have h2:=List.mem_of_find?_eq_some h;obtain ⟨i,hi,rfl⟩:=List.getElem_of_mem h2;exact ⟨by simpa using h1,i,hi,by simp [List.getD,List.getElem?_eq_getElem hi]⟩
theorem tF {E:Env} {fs:List F2} {ms:List M3} (hE:E=o7 fs ms) (yM:l8 E) (hp:Q6 fs ms) {ws:List W8} (hW:∀ i,i<ws.length->Tt E (ws.getD i I8)) {c s:Int} {t n:ByteArray} {r:R2} (h:Sg fs ms ws n=(r,true)):Ro E ⟨false,c,t,false,n,s⟩ r:=by
 refine .inr ⟨rfl,?_⟩;unfold Sg at h
 cases hpl:Ke fs ms n with
 | some p=>
  rw [hpl] at h;have e:=congrArg Prod.fst h;refine .inl ?_;rw [hE];show (Ke fs ms n).map Wt=some r;have e':Wt p=r:=e;rw [hpl,<- e'];rfl
 | none=>
  rw [hpl] at h
  cases hf:g_ ws n with
  | none=>rw [hf] at h;cases congrArg Prod.snd h
  | some z=>
   rw [hf] at h;have e1:(⟨z.cd,z.tx⟩:R2)=r:=congrArg Prod.fst h;have e2:z.ov=true:=congrArg Prod.snd h;obtain ⟨hn,i,hi,hz⟩:=Qe hf;have hw:=hW i hi;rw [hz] at hw;obtain ⟨h1,h2⟩:=hw.ov e2;refine .inr ⟨by rw [hE];exact Oi.2 hpl,z.m,z.ls,hw.mem,hn,hw.his,h1,?_⟩;rw [<- e1,h2]
theorem gK (E:Env) (a:Option Addr) (cap:Nat) (fs:List F2) (ms:List M3) (hE:E=o7 fs ms) (wa:Option Addr) (wc:Nat) (ws:List W8) (x:W8) (w:World) (hat:U3 w a fs) (ht:Y3 fs) (hp:Q6 fs ms) (yQ:ws.length<=300) (hws:Uf w wa ws) (hwo:∀ i,i<ws.length->Tt E (ws.getD i I8)) (hx:Tt E x) (hlv:Nc w x):
 Calls prog 48 #[.agg #[.slice a fs.length cap],.slice wa ws.length wc,.agg x.vs.toArray] w fun e w'=>∃ y:W8,e=.returned (.agg y.vs.toArray)/\aj E (Sg fs ms ws) x y/\Nc w' y/\Nw w x.lv y.lv/\Below w.heap.size w w':=by
 have HX:=Q0 hx;have HW:=Q0 hwo;have HAT:=Q0 hat;have QP:=Q0 hws;have wM:Hid (l8 E):=by unfold Hid;rw [hE];exact qc ht hp
 have HT:=Q0 ht;have HP:=Q0 hp;have hfl:fs.length<=1048576:=by have:=ht.1;omega
 have HF:=Q0 (Bh ht);have HE:=Q0 hE;have HU:Hid (iG w (.slice a fs.length cap) x (((w.alloc (.cells #[.slice a fs.length cap] 25)).alloc (.cells #[.string x.m.nm,.string x.m.tl,.string x.m.ar,x.lv,.bool x.ov,.int .i64 x.cd,.string x.tx,.string x.wt] 102)).alloc (.cells #[.string ⟨#[]⟩,.string ⟨#[]⟩,.string ⟨#[]⟩,.slice none 0 0,.bool false,.int .i64 0,.string ⟨#[]⟩,.string ⟨#[]⟩] 102))):=by
  have hb:=(((Below.refl w.heap.size w).alloc Q8 (.cells #[.slice a fs.length cap] 25)).alloc U0 (.cells #[.string x.m.nm,.string x.m.tl,.string x.m.ar,x.lv,.bool x.ov,.int .i64 x.cd,.string x.tx,.string x.wt] 102)).alloc X3 (.cells #[.string ⟨#[]⟩,.string ⟨#[]⟩,.string ⟨#[]⟩,.slice none 0 0,.bool false,.int .i64 0,.string ⟨#[]⟩,.string ⟨#[]⟩] 102);have h5:=F3 (w.alloc (.cells #[.slice a fs.length cap] 25)) x.vs 102;have h6:=F3 ((w.alloc (.cells #[.slice a fs.length cap] 25)).alloc (.cells #[.string x.m.nm,.string x.m.tl,.string x.m.ar,x.lv,.bool x.ov,.int .i64 x.cd,.string x.tx,.string x.wt] 102)) z8 102;simp only [World.size_alloc] at h5 h6;exact ⟨B_ (B_ (F3 w [.slice a fs.length cap] 25) _) _,B_ h5 _,h6,hlv.below hb,fun hne k e=>(by
   obtain ⟨a',c',h1,h2,_⟩:=hlv;rcases h2 with h2 | ⟨b,off,h3,h4,_⟩
   · exact absurd h2 hne
   rw [h1,h3] at e;have e':b=k:=Option.some.inj e;omega),hb⟩
 clear hx hlv hwo hat hws ht hp hE;go_enter func48,ntmps48;rw [show (Value.agg x.vs.toArray)=.agg #[.string x.m.nm,.string x.m.tl,.string x.m.ar,x.lv,.bool x.ov,.int .i64 x.cd,.string x.tx,.string x.wt] from rfl]
 go_wp2_with fail
 go_loopg [] (16 - x.ls.length) (fun k wr=>∃ y:W8,Hid (y.m=x.m/\Tt E y/\x.ls <+:y.ls/\(y.ov=true->y=x)/\(x.ov=true->y=x)/\Nw w x.lv y.lv)/\Hid (iG w (.slice a fs.length cap) y wr)/\k=16 - y.ls.length)
 case atStart=>exact ⟨x,⟨rfl,HX.out,List.prefix_refl _,fun _=>rfl,fun _=>rfl,jf _ _⟩,HU.out,rfl⟩
 obtain ⟨y,HY,HB,rfl⟩:=hrel;have hmk:=wM.out.ms _ HY.out.2.1.mem;have hyl:=(M_ wM.out hmk HY.out.2.1.his).1;have HLE:=Q0 (gD wM.out hmk HY.out.2.1.his);have kW:=Q0 (Rn hmk);have HGT:=Q0 (AA wM.out hmk HY.out.2.1.his);obtain ⟨la,lc,hla,hlk,_⟩:=HB.out.lv;have yN:=Q0 hlk;have hz:w.heap.size+2<wr.heap.size:=HB.out.WL.lt;have k0:wr.cell? ⟨w.heap.size+1,0,none⟩=some (.string y.m.nm):=HB.out.c9.cell 0;have k1:wr.cell? ⟨w.heap.size+1,1,none⟩=some (.string y.m.tl):=HB.out.c9.cell 1;have k2:wr.cell? ⟨w.heap.size+1,2,none⟩=some (.string y.m.ar):=HB.out.c9.cell 2;have k3:wr.cell? ⟨w.heap.size+1,3,none⟩=some (.slice la y.ls.length lc):=hla▸HB.out.c9.cell 3;have k4:wr.cell? ⟨w.heap.size+1,4,none⟩=some (.bool y.ov):=HB.out.c9.cell 4;have HNL:Hid (y.ls≠[]->∀ k,y.lv.ownBlock=some k->k<wr.heap.size):=fun hne k e=>by
  rcases hlk with h | ⟨b,off,h3,h4,_⟩
  · exact absurd h hne
  rw [hla,h3] at e;have e':b=k:=Option.some.inj e;omega
 clear hla hlk hmk;cases aO:y.ov
 · rw [aO] at k4
   go_wp2_with fail
   refine (c85 y.m la lc y.ls wr kW.out O0 HLE.out yN.out).mono ?_;rintro e w1 ⟨rfl,hb1⟩;obtain ⟨t,SQ⟩:∃ t,Hid (tn y.m y.ls=t):=⟨_,rfl⟩;rw [HGT.out,SQ.out];have HB1:=Q0 (HB.out.below hb1);have hz1:=Nat.lt_of_lt_of_le hz hb1.size;have a4g:wr.heap.size<=w1.heap.size:=hb1.size;obtain ⟨o,tc,tt,th,IL,ts⟩:=t;rw [show (TN.v ⟨o,tc,tt,th,IL,ts⟩)=.agg #[.bool o,.int .i64 tc,.string tt,.bool th,.string IL,.int .i64 ts] from rfl];clear k0 k1 k2 k3 k4 hb1 yN HGT
   go_upto_region 3 with fail
   obtain ⟨w2,hw2⟩:∃ u:World,u=w1.alloc (.cells #[.bool o,.int .i64 tc,.string tt,.bool th,.string IL,.int .i64 ts] 42):=⟨_,rfl⟩;rw [<- hw2];have hb2:Below w1.heap.size w1 w2:=by rw [hw2];exact bA
   have HB2:=Q0 (HB1.out.below hb2);have H7:Hid (Cl w2 w1.heap.size 42 [.bool o,.int .i64 tc,.string tt,.bool th,.string IL,.int .i64 ts]):=by show Cl _ _ _ _;rw [hw2];exact F3 w1 _ 42
   have hz2:=H7.out.lt;have j0:w2.cell? ⟨w1.heap.size,0,none⟩=some (.bool o):=H7.out.cell 0;have j1:w2.cell? ⟨w1.heap.size,1,none⟩=some (.int .i64 tc):=H7.out.cell 1;have j2:w2.cell? ⟨w1.heap.size,2,none⟩=some (.string tt):=H7.out.cell 2;have j3:w2.cell? ⟨w1.heap.size,3,none⟩=some (.bool th):=H7.out.cell 3;have j4:w2.cell? ⟨w1.heap.size,4,none⟩=some (.string IL):=H7.out.cell 4;clear hw2 hb2 HB1;cases o;rotate_left
   · have HR:Hid (aj E (Sg fs ms ws) x ⟨y.m,y.lv,y.ls,true,tc,tt,⟨#[]⟩⟩):=
      ⟨HY.out.1,⟨HY.out.2.1.mem,HY.out.2.1.his,(fun _=>by show (tn y.m y.ls).over=true/\(⟨tc,tt⟩:R2)=jg (tn y.m y.ls);rw [SQ.out];exact ⟨rfl,rfl⟩),fun _=>rfl⟩,HY.out.2.2.1,(fun h=>by have:=HY.out.2.2.2.2.1 h;rw [<- this,aO] at h;cases h),(fun h=>by cases h)⟩
     have q4:w2.cell? ⟨w.heap.size+1,4,none⟩=some (.bool y.ov):=HB2.out.c9.cell 4;have q5:w2.cell? ⟨w.heap.size+1,5,none⟩=some (.int .i64 y.cd):=HB2.out.c9.cell 5;have q6:w2.cell? ⟨w.heap.size+1,6,none⟩=some (.string y.tx):=HB2.out.c9.cell 6;have q7:w2.cell? ⟨w.heap.size+1,7,none⟩=some (.string y.wt):=HB2.out.c9.cell 7;have f4:=HB2.out.c9.opn 4;have f5:=HB2.out.c9.opn 5;have f6:=HB2.out.c9.opn 6;have f7:=HB2.out.c9.opn 7;clear aO
     go_upto_region 7 with fail
     have hon:=((((F8 w2 (w.heap.size+1) 4 (.bool true)).trans (F8 _ _ 5 (.int .i64 tc))).trans (F8 _ _ 6 (.string tt))).trans (F8 _ _ 7 (.string ⟨#[]⟩)));have nP:=Q0 ((((HB2.out.c9.set 4 (.bool true)).set 5 (.int .i64 tc)).set 6 (.string tt)).set 7 (.string ⟨#[]⟩));generalize ((((w2.setCell ⟨w.heap.size+1,4,none⟩ (.bool true)).setCell ⟨w.heap.size+1,5,none⟩ (.int .i64 tc)).setCell ⟨w.heap.size+1,6,none⟩ (.string tt)).setCell ⟨w.heap.size+1,7,none⟩ (.string ⟨#[]⟩))=w3 at*;have wR:=Q0 (HB2.out.WL.on hon O0);have RN:=Q0 (HB2.out.lv.aC (y':=⟨y.m,y.lv,y.ls,true,tc,tt,⟨#[]⟩⟩) hon (fun hne k e=>(HB2.out.nb hne k e).1) rfl rfl);have hB3:=HB2.out.bl.trans (hon.below O0);clear q4 q5 q6 q7 f4 f5 f6 f7 j0 j1 j2 j3 j4;have dV:Hid (y.ls≠[]->∀ k,y.lv.ownBlock=some k->k≠w.heap.size+2):=fun hne k e=>(HB2.out.nb hne k e).2;have h1c:=Q0 (lh ⟨y.m,y.lv,y.ls,true,tc,tt,⟨#[]⟩⟩ (by obtain ⟨a',c',h1,_⟩:=RN.out;show y.lv.oneCell'=true;rw [show y.lv=_ from h1];rfl))
     go_wp2_with (first | (refine Ep rfl _ rfl (w.heap.size+1) rfl _ nP.out rfl ?_) | (refine Ju rfl _ _ rfl (w.heap.size+2) rfl _ _ rfl wR.out rfl rfl h1c.out rfl ?_;intro w4 hc4 GM))
     refine bodyPost_ret (v:=.agg (⟨y.m,y.lv,y.ls,true,tc,tt,⟨#[]⟩⟩:W8).vs.toArray) (M.O8 (P:=prog) (ty:=102) rfl _ _ (w.heap.size+2) _ _ rfl hc4.blk underlying102 rfl I1) rfl ⟨⟨y.m,y.lv,y.ls,true,tc,tt,⟨#[]⟩⟩,rfl,HR.out,RN.out.aC GM dV.out rfl rfl,HY.out.2.2.2.2.2,hB3.trans (GM.below O0)⟩
   have t0:w2.cell? ⟨w.heap.size,0,none⟩=some (.slice a fs.length cap):=HB2.out.c3.cell 0
   go_wp2_with fail
   refine (LK a cap fs ms IL w2 hfl HF.out (G.T.X0 HAT.out HB2.out.bl) HP.out).mono ?_;rintro e w3 ⟨rfl,hb3⟩;obtain ⟨sh,JN⟩:∃ s,Hid (Ii fs ms IL=s):=⟨_,rfl⟩;rw [JN.out];obtain ⟨sc,st⟩:=sh;dsimp only;have HB3:=Q0 (HB2.out.below hb3);have H7a:=Q0 (H7.out.below hb3 H7.out.lt);have hz3:=Nat.lt_of_lt_of_le hz2 hb3.size;clear j0 j1 j2 j3 j4 hb3 t0
   go_upto_region 9 with fail
   obtain ⟨w4,hw4⟩:∃ u:World,u=w3.alloc (.cells #[.bool true,.string IL,.int .i64 sc,.string st] 45):=⟨_,rfl⟩;rw [<- hw4];have hb4:Below w3.heap.size w3 w4:=by rw [hw4];exact bA
   have mM:=Q0 (HB3.out.below hb4);have H7b:=Q0 (H7a.out.below hb4 H7a.out.lt);have H8:Hid (Cl w4 w3.heap.size 45 [.bool true,.string IL,.int .i64 sc,.string st]):=by show Cl _ _ _ _;rw [hw4];exact F3 w3 _ 45
   have zN:=H8.out.lt;have j3:w4.cell? ⟨w1.heap.size,3,none⟩=some (.bool th):=H7b.out.cell 3;have j4:w4.cell? ⟨w1.heap.size,4,none⟩=some (.string IL):=H7b.out.cell 4;have t0:w4.cell? ⟨w.heap.size,0,none⟩=some (.slice a fs.length cap):=mM.out.c3.cell 0;have hls:=((Y_ wM.out HY.out.2.1.his (wM.out.ms _ HY.out.2.1.mem)).name (by rw [SQ.out])).2;have TT:Hid (∀ (UM:Value) (wt:ByteArray) (r:R2),Nw w x.lv UM->Ro E (⟨false,tc,tt,th,IL,ts⟩:TN) r->(y.m=x.m/\Tt E ⟨y.m,UM,y.ls++[⟨th,IL,r.code,r.tx⟩],y.ov,y.cd,y.tx,wt⟩/\x.ls <+:y.ls++[(⟨th,IL,r.code,r.tx⟩:M.L4)]/\(y.ov=true->(⟨y.m,UM,y.ls++[⟨th,IL,r.code,r.tx⟩],y.ov,y.cd,y.tx,wt⟩:W8)=x)/\(x.ov=true->(⟨y.m,UM,y.ls++[⟨th,IL,r.code,r.tx⟩],y.ov,y.cd,y.tx,wt⟩:W8)=x)/\Nw w x.lv UM)):=fun UM wt r hnw ha=>by
    have h1:=Kl HY.out.2.1.his (by rw [SQ.out]) (by rw [SQ.out];exact ha);rw [SQ.out] at h1;exact ⟨HY.out.1,⟨HY.out.2.1.mem,h1,(fun h=>by rw [show (W8.ov _)=y.ov from rfl,aO] at h;cases h),fun h=>by rw [show (W8.ov _)=y.ov from rfl,aO] at h;cases h⟩,HY.out.2.2.1.trans (List.prefix_append _ _),(fun h=>by rw [aO] at h;cases h),(fun h=>by have:=HY.out.2.2.2.2.1 h;rw [<- this,aO] at h;cases h),hnw⟩
   clear hw4 hb4 HB3 H7 H7a HB2;cases th;rotate_left
   · have NW:Hid (Ro E (⟨false,tc,tt,true,IL,ts⟩:TN) ⟨sc,st⟩):=by
      refine .inl ⟨rfl,?_⟩;rw [HE.out];show _=Wt (Ii fs ms IL);rw [JN.out];rfl
     have nO:=Q0 mM.out.c3;have YX:Hid (Cl w4 (w.heap.size+1) 102 (⟨y.m,y.lv,y.ls,y.ov,y.cd,y.tx,y.wt⟩:W8).vs):=Q0 mM.out.c9;have KP:=Q0 mM.out.WL;have ZX:Hid (Nc w4 ⟨y.m,y.lv,y.ls,y.ov,y.cd,y.tx,y.wt⟩):=Q0 mM.out.lv;have eQ:=mM.out.bl
     go_upto_region 15 with fail
     try simp only [qq]
     refine WJ (w.heap.size+1) w3.heap.size ⟨y.m,y.lv,y.ls,y.ov,y.cd,y.tx,y.wt⟩ true IL sc st w4 _ _ _ _ _ _ _ _ _ _ _ _ _ _ _ _ _ _ _ _ _ _ _ _ _ _ _ _ _ _ _ _ _ _ _ _ _ _ _ _ _ _ _ _ _ _ _ _ _ _ _ _ _ _ _ _ _ _ _ ?hq2 YX H8 ZX (by show y.ls.length<=15;omega) ?kk2
     case hq2=>exact fun _ _ d _ _ h=>by cases d <;> exact h
     intro t52 t53 t54 t55 t56 t57 t58 t59 UM w9 KU YS LP yO;have aY:=Q0 (TT.out UM y.wt ⟨sc,st⟩ (fun k e=>.inr (by have:=LP k e;have:=eQ.size;omega)) NW.out);have HB9:Hid (iG w (.slice a fs.length cap) ⟨y.m,UM,y.ls++[⟨true,IL,sc,st⟩],y.ov,y.cd,y.tx,y.wt⟩ w9):=
      ⟨(yO.block _ (Cl.lt nO.out) O0).trans nO.out,KU,(yO.block _ (Cl.lt KP.out) O0).trans KP.out,YS,fun _ k e=>by have:=LP k e;have:=(Cl.lt KP.out);omega,eQ.trans (yO.below (N:=w.heap.size) (fun k e=>O0) eQ.size)⟩
     clear KU YS LP yO;go_wp2
     go_roundg (16 - (y.ls.length+1))
     case measure=>omega
     case rel=>exact ⟨⟨y.m,UM,y.ls++[(⟨true,IL,sc,st⟩:M.L4)],y.ov,y.cd,y.tx,y.wt⟩,aY.out,HB9.out,U0⟩
   go_wp2_with fail
   refine (c46 a cap fs ms wa wc ws IL w4 hfl HF.out (G.T.X0 HAT.out mM.out.bl) HT.out HP.out yQ (Gb QP.out mM.out.bl)).mono ?_;rintro e w5 ⟨QY,hb5⟩;obtain ⟨rr,HKN⟩:∃ r,Hid (Sg fs ms ws IL=r):=⟨_,rfl⟩;rw [HKN.out] at QY;obtain ⟨⟨rc,rt⟩,rb⟩:=rr;have he:e=.returned (.tuple #[.agg #[.int .i64 rc,.string rt],.bool rb]):=QY;subst he;have dM:=Q0 (mM.out.below hb5);have H7c:=Q0 (H7b.out.below hb5 H7b.out.lt);have H8c:=Q0 (H8.out.below hb5 H8.out.lt);have IQ:=Nat.lt_of_lt_of_le zN hb5.size;clear QY hb5 H7b H8 mM t0 j3 j4
   go_upto_region 11 with fail
   obtain ⟨w6,XP⟩:∃ u:World,u=w5.alloc (.cells #[.int .i64 rc,.string rt] 31):=⟨_,rfl⟩;rw [<- XP];have hb6:Below w5.heap.size w5 w6:=by rw [XP];exact bA
   have QL:=Q0 (dM.out.below hb6);have H7d:=Q0 (H7c.out.below hb6 H7c.out.lt);have H8d:=Q0 (H8c.out.below hb6 H8c.out.lt);have H9:Hid (Cl w6 w5.heap.size 31 [.int .i64 rc,.string rt]):=by show Cl _ _ _ _;rw [XP];exact F3 w5 _ 31
   have j4:w6.cell? ⟨w1.heap.size,4,none⟩=some (.string IL):=H7d.out.cell 4;have q7:w6.cell? ⟨w.heap.size+1,7,none⟩=some (.string y.wt):=QL.out.c9.cell 7;have f7:=QL.out.c9.opn 7;clear XP hb6 H7c H8c dM
   go_upto_region 12 with fail
   have hon:=F8 w6 (w.heap.size+1) 7 (.string IL);have nP:=Q0 (QL.out.c9.set 7 (.string IL));generalize (w6.setCell ⟨w.heap.size+1,7,none⟩ (.string IL))=w7 at*;have wR:=Q0 (QL.out.WL.on hon O0);have RN:=Q0 (QL.out.lv.aC (y':=⟨y.m,y.lv,y.ls,y.ov,y.cd,y.tx,IL⟩) hon (fun hne k e=>(QL.out.nb hne k e).1) rfl rfl);have hB3:=QL.out.bl.trans (hon.below O0);have dV:Hid (y.ls≠[]->∀ k,y.lv.ownBlock=some k->k≠w.heap.size+2):=fun hne k e=>(QL.out.nb hne k e).2;have hne5:w.heap.size+1<w1.heap.size:=O0;have dY:w.heap.size+1≠w3.heap.size:=O0;have a2w:w.heap.size+1≠w5.heap.size:=O0;have H7e:=Q0 (H7d.out.on hon O0);have H8e:=Q0 (H8d.out.on hon dY.symm);have H9e:=Q0 (H9.out.on hon a2w.symm);have dN:=Q0 (QL.out.c3.on hon O0);clear j4 q7 f7 H7d H8d H9;cases rb
   · have HR:Hid (aj E (Sg fs ms ws) x ⟨y.m,y.lv,y.ls,y.ov,y.cd,y.tx,IL⟩):=
      ⟨HY.out.1,⟨HY.out.2.1.mem,HY.out.2.1.his,(fun h=>by rw [show (W8.ov _)=y.ov from rfl,aO] at h;cases h),fun h=>by rw [show (W8.ov _)=y.ov from rfl,aO] at h;cases h⟩,HY.out.2.2.1,(fun h=>by have:=HY.out.2.2.2.2.1 h;rw [<- this,aO] at h;cases h),(fun _=>by show (tn y.m y.ls).over=false/\(tn y.m y.ls).has=false/\(Sg fs ms ws (tn y.m y.ls).name).2=false/\IL=(tn y.m y.ls).name;rw [SQ.out];exact ⟨rfl,rfl,by rw [HKN.out],rfl⟩)⟩
     clear aO
     go_upto_region 13 with fail
     have h1c:=Q0 (lh ⟨y.m,y.lv,y.ls,y.ov,y.cd,y.tx,IL⟩ (by obtain ⟨a',c',h1,_⟩:=RN.out;show y.lv.oneCell'=true;rw [show y.lv=_ from h1];rfl))
     go_wp2_with (first | (refine Ep rfl _ rfl (w.heap.size+1) rfl _ nP.out rfl ?_) | (refine Ju rfl _ _ rfl (w.heap.size+2) rfl _ _ rfl wR.out rfl rfl h1c.out rfl ?_;intro w4 hc4 GM))
     refine bodyPost_ret (v:=.agg (⟨y.m,y.lv,y.ls,y.ov,y.cd,y.tx,IL⟩:W8).vs.toArray) (M.O8 (P:=prog) (ty:=102) rfl _ _ (w.heap.size+2) _ _ rfl hc4.blk underlying102 rfl I1) rfl ⟨⟨y.m,y.lv,y.ls,y.ov,y.cd,y.tx,IL⟩,rfl,HR.out,RN.out.aC GM dV.out rfl rfl,HY.out.2.2.2.2.2,hB3.trans (GM.below O0)⟩
   have j4:w7.cell? ⟨w1.heap.size,4,none⟩=some (.string IL):=H7e.out.cell 4;have r0:w7.cell? ⟨w5.heap.size,0,none⟩=some (.int .i64 rc):=H9e.out.cell 0;have r1:w7.cell? ⟨w5.heap.size,1,none⟩=some (.string rt):=H9e.out.cell 1;have NW:Hid (Ro E (⟨false,tc,tt,false,IL,ts⟩:TN) ⟨rc,rt⟩):=tF HE.out wM.out HP.out HW.out HKN.out
   go_wp2_with (refine Ye rfl 45 _ _ rfl (B:=w3.heap.size) (j:=0) rfl (vs:=[.bool false,.string IL,.int .i64 rc,.string rt]) rfl H8e.out U0 (by intro v hv;simp at hv;rcases hv with rfl | rfl | rfl | rfl <;> rfl) I1 ?_;intro w8 hc8 JQ)
   have a4h:w.heap.size+1≠w3.heap.size:=dY;have YX:=Q0 (nP.out.on JQ dY);have nO:=Q0 (dN.out.on JQ O0);have KP:=Q0 (wR.out.on JQ O0);have ZX:=Q0 (RN.out.aC (y':=⟨y.m,y.lv,y.ls,y.ov,y.cd,y.tx,IL⟩) JQ (fun hne k e=>by have:=HNL.out hne k e;omega) rfl rfl);have eQ:=hB3.trans (JQ.below O0);have H8f:Hid (Cl w8 w3.heap.size 45 [.bool false,.string IL,.int .i64 rc,.string rt]):=Q0 hc8;clear hc8 JQ r0 r1 j4
   try simp only [qq]
   refine WJ (w.heap.size+1) w3.heap.size ⟨y.m,y.lv,y.ls,y.ov,y.cd,y.tx,IL⟩ false IL rc rt w8 _ _ _ _ _ _ _ _ _ _ _ _ _ _ _ _ _ _ _ _ _ _ _ _ _ _ _ _ _ _ _ _ _ _ _ _ _ _ _ _ _ _ _ _ _ _ _ _ _ _ _ _ _ _ _ _ _ _ _ ?hq1 YX H8f ZX (by show y.ls.length<=15;omega) ?vZ
   case hq1=>exact fun _ _ d _ _ h=>by cases d <;> exact h
   intro t52 t53 t54 t55 t56 t57 t58 t59 UM w9 KU YS LP yO;have aY:=Q0 (TT.out UM IL ⟨rc,rt⟩ (fun k e=>.inr (by have:=LP k e;have:=eQ.size;omega)) NW.out);have HB9:Hid (iG w (.slice a fs.length cap) ⟨y.m,UM,y.ls++[⟨false,IL,rc,rt⟩],y.ov,y.cd,y.tx,IL⟩ w9):=
    ⟨(yO.block _ (Cl.lt nO.out) O0).trans nO.out,KU,(yO.block _ (Cl.lt KP.out) O0).trans KP.out,YS,fun _ k e=>by have:=LP k e;have:=(Cl.lt KP.out);omega,eQ.trans (yO.below (N:=w.heap.size) (fun k e=>O0) eQ.size)⟩
   clear KU YS LP yO;go_wp2
   go_roundg (16 - (y.ls.length+1))
   case measure=>omega
   case rel=>exact ⟨⟨y.m,UM,y.ls++[(⟨false,IL,rc,rt⟩:M.L4)],y.ov,y.cd,y.tx,IL⟩,aY.out,HB9.out,U0⟩
 have hxy:=HY.out.2.2.2.1 aO;have HR:Hid (aj E (Sg fs ms ws) x y):=⟨HY.out.1,HY.out.2.1,HY.out.2.2.1,fun _=>hxy,fun h=>by rw [aO] at h;cases h⟩;have nP:=Q0 HB.out.c9;have wR:=Q0 HB.out.WL;have RN:=Q0 HB.out.lv;have hB3:=HB.out.bl;have dV:Hid (y.ls≠[]->∀ k,y.lv.ownBlock=some k->k≠w.heap.size+2):=fun hne k e=>(HB.out.nb hne k e).2;rw [aO] at k4;clear aO hxy
 go_upto_region 16 with fail
 have h1c:=Q0 (lh y (by obtain ⟨a',c',h1,_⟩:=RN.out;show y.lv.oneCell'=true;rw [show y.lv=_ from h1];rfl))
 go_wp2_with (first | (refine Ep rfl _ rfl (w.heap.size+1) rfl _ nP.out rfl ?_) | (refine Ju rfl _ _ rfl (w.heap.size+2) rfl _ _ rfl wR.out rfl rfl h1c.out rfl ?_;intro w4 hc4 GM))
 refine bodyPost_ret (v:=.agg (y:W8).vs.toArray) (M.O8 (P:=prog) (ty:=102) rfl _ _ (w.heap.size+2) _ _ rfl hc4.blk underlying102 rfl I1) rfl ⟨y,rfl,HR.out,RN.out.aC GM dV.out rfl rfl,HY.out.2.2.2.2.2,hB3.trans (GM.below O0)⟩
end Go.Proofs.YtdpoaadafcaffaaGreatDoor
