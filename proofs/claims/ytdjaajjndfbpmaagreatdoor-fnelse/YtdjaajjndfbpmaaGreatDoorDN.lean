import Derived.Test.YtdjaajjndfbpmaaGreatDoorDL
set_option linter.unusedVariables false
set_option maxHeartbeats 8000000
set_option maxRecDepth 100000
namespace Go.Proofs.YtdjaajjndfbpmaaGreatDoor
open Proofs.Tryz
open Go.RowKit
def Ue (ls:List M.L4) (k:Nat):List ByteArray:=((ls.take k).filter fun x=>!x.has).map (·.nm)
theorem EC {ls:List M.L4} {k:Nat} (h:k<ls.length):Ue ls (k+1)=Ue ls k++if (ls.getD k M.Ga).has then [] else [(ls.getD k M.Ga).nm]:=by
 unfold Ue;rw [Rh h,Qz,mf]
 congr 1
 simp only [List.getD,F8 h,xA];cases hh:ls[k].has <;> simp [hh]
theorem kH (ls:List M.L4) (k:Nat):(Ue ls k).length<=ls.length:=by
 unfold Ue;rw [qc];have h1:=List.length_filter_le (fun x:M.L4=>!x.has) (ls.take k);have h2:=Tv k ls;have h3:=List.length_take_le' k ls;omega
theorem Nu (l:List ByteArray) (s:ByteArray):We (l++[s])=We l++[.string s]:=by simp [We]
theorem mR (d:Dd) (la:Option Addr) (g:Nat) (w:World) (hl:d.ls.length<=15) (U:M.Ac w la d.ls):
 Calls prog 74 #[.agg (De.vs ⟨d,.slice la d.ls.length g⟩).toArray,.string d.wt] w fun e w'=>(∃ v,e=.returned v/\w'.ownsRow w.heap.size 9 1 v (qa d.ls d.wt).length (We (qa d.ls d.wt)))/\Below w.heap.size w w':=by
 obtain ⟨B,A,S⟩:=M.Py U;have Z:=Q0 S;obtain ⟨n,md,⟨z,t,s⟩,ls,⟨rc,rt⟩,wt⟩:=d;dsimp only at Z hl ⊢;clear U S;obtain ⟨u0,D⟩:∃ u:World,u=w.alloc (.cells #[.string n,.bool md,.string z,.string t,.string s,.slice la ls.length g,.int .i64 rc,.string rt] 50):=⟨_,rfl⟩;have W:=Q0 D;have B0:Hid (Below w.heap.size w u0):=by show Below _ _ _;rw [D];exact bA
 have C2:Hid (Cl u0 w.heap.size 50 [.string n,.bool md,.string z,.string t,.string s,.slice la ls.length g,.int .i64 rc,.string rt]):=by show Cl _ _ _ _;rw [D];exact U1 w _ 50
 clear D;go_enter func74,ntmps74;rw [show (De.vs ⟨⟨n,md,⟨z,t,s⟩,ls,⟨rc,rt⟩,wt⟩,.slice la ls.length g⟩).toArray=#[.string n,.bool md,.string z,.string t,.string s,.slice la ls.length g,.int .i64 rc,.string rt] from rfl]
 go_upto_region 2 with fail
 rw [<- W.out];clear W;have d5:u0.cell? ⟨w.heap.size,5,none⟩=some (.slice la ls.length g):=C2.out.cell 5
 go_wp2_with fail
 go_loopw [5,11] (fun v5 K wr=>∃ (k:Nat) (va:Option Addr) (f:Nat),k<=ls.length/\v5=.slice va (Ue ls k).length f/\K=.int .i64 k/\Hid (wr.ownsRow w.heap.size 9 1 (.slice va (Ue ls k).length f) (Ue ls k).length (We (Ue ls k)))/\Hid (Below w.heap.size w wr)) (fun _ K _=>ls.length - (intOf K).toNat)
 case atStart=>exact ⟨0,none,0,I5 _,rfl,rfl,F9 _ _ _ _,B0.out⟩
 obtain ⟨k,va,f,hk,rfl,rfl,N,b⟩:=hrel;have hak:=kH ls k;by_cases c:k<ls.length;rotate_left
 · obtain rfl:k=ls.length:=O0
   have HAK:Hid (∀ x,qa ls x=Ue ls ls.length++if x=⟨#[]⟩ then [] else [x]):=fun x=>by unfold qa Ue;rw [List.take_length]
   cases hw0:wt.toList.isEmpty
   rotate_left
   · have hwe:wt=⟨#[]⟩:=by
      have:wt.toList=[]:=by simpa using hw0
      rw [I7] at this;exact Hd (ag.1 this)
     have Q:Hid (qa ls wt=Ue ls ls.length):=by show _=_;rw [HAK.out,Y3 hwe,Xj]
     go_wp2;go_ret;exact ⟨⟨_,rfl,by rw [Q.out];exact N.out⟩,b.out⟩
   have hwn:wt≠⟨#[]⟩:=fun e=>by rw [e] at hw0;simp [I7] at hw0
   have Q:Hid (qa ls wt=Ue ls ls.length++[wt]):=by show _=_;rw [HAK.out,R3 hwn]
   have h:Below wr.heap.size wr (wr.alloc (.cells #[.string wt] 9)):=bA;have i:=Q0 (ownsRow_below N.out h);have J:Hid (Cl (wr.alloc (.cells #[.string wt] 9)) wr.heap.size 9 [.string wt]):=Q0 (U1 wr _ 9);have l:w.heap.size<=(wr.alloc (.cells #[.string wt] 9)).heap.size:=by have:=b.out.size;simp;omega
   go_wp2_with (refine Ve rfl _ _ 79 rfl w.heap.size 9 1 underlying79 Tw K3 (.slice va (Ue ls ls.length).length f) (Ue ls ls.length).length (We (Ue ls ls.length)) rfl i.out _ 1 [.string wt] rfl (.inr ⟨⟨wr.heap.size,0,none⟩,1,rfl,rfl,za J.out⟩) (by intro v hv;simp at hv;subst hv;rfl) O0 l ?_;intro v' R o m L;have H:=Q0 o;have I:=Q0 m;clear o m L)
   have O:=Q0 (Na (bT b.out h) I.out l (fun k e=>(i.out.lt k e).1));go_ret;exact ⟨⟨_,rfl,by rw [Q.out,Nu,Q7];exact H.out⟩,O.out⟩
 rcases Z.out with hss | ⟨ha,E,j⟩
 · rw [hss] at c;exact absurd c (F5 _)
 subst ha;have g0:=(b.out.cell (p:=⟨B,A+k*4,none⟩) E).trans (j k c).1;have g1:=(b.out.cell (p:=⟨B,A+k*4+1,none⟩) E).trans (j k c).2.1;have g2:=(b.out.cell (p:=⟨B,A+k*4+2,none⟩) E).trans (j k c).2.2.1;have g3:=(b.out.cell (p:=⟨B,A+k*4+3,none⟩) E).trans (j k c).2.2.2;have q:=Q0 (EC c);generalize ls.getD k M.Ga=y at*;obtain ⟨r,a,yc,yt⟩:=y;dsimp only at g0 g1 g2 g3 q;clear j;obtain ⟨w1,C⟩:∃ u:World,u=wr.alloc (.cells #[.bool r,.string a,.int .i64 yc,.string yt] 52):=⟨_,rfl⟩;have V:=Q0 C;have b1:Below wr.heap.size wr w1:=by rw [C];exact bA
 have C7:Hid (Cl w1 wr.heap.size 52 [.bool r,.string a,.int .i64 yc,.string yt]):=by show Cl _ _ _ _;rw [C];exact U1 wr _ 52
 have Y:=Q0 (ownsRow_below N.out b1);have P:=Q0 (bT b.out b1);clear C b1
 go_upto_region 5 with fail
 rw [<- V.out];clear V g0 g1 g2 g3;have h0:w1.cell? ⟨wr.heap.size,0,none⟩=some (.bool r):=C7.out.cell 0;have h1:w1.cell? ⟨wr.heap.size,1,none⟩=some (.string a):=C7.out.cell 1;cases r;rotate_left
 · have F:Hid (Ue ls (k+1)=Ue ls k):=by show _=_;rw [q.out];simp
   clear q;go_wp2;go_roundw
   case rel=>exact ⟨k+1,va,f,O0,by rw [F.out],by go_num,by rw [F.out];exact Y.out,P.out⟩
   case measure=>simp [intOf];omega
 have F:Hid (Ue ls (k+1)=Ue ls k++[a]):=by show _=_;rw [q.out];simp
 have h:Below w1.heap.size w1 (w1.alloc (.cells #[.string a] 9)):=bA;have i:=Q0 (ownsRow_below Y.out h);have J:Hid (Cl (w1.alloc (.cells #[.string a] 9)) w1.heap.size 9 [.string a]):=Q0 (U1 w1 _ 9);have l:w.heap.size<=(w1.alloc (.cells #[.string a] 9)).heap.size:=by have:=P.out.size;simp;omega
 clear q
 go_wp2_with (refine Ve rfl _ _ 79 rfl w.heap.size 9 1 underlying79 Tw K3 (.slice va (Ue ls k).length f) (Ue ls k).length (We (Ue ls k)) rfl i.out _ 1 [.string a] rfl (.inr ⟨⟨w1.heap.size,0,none⟩,1,rfl,rfl,za J.out⟩) (by intro v hv;simp at hv;subst hv;rfl) O0 l ?_;intro v' R o m L;have H:=Q0 o;have I:=Q0 m;clear o m L)
 have X:Hid (R.ownsRow w.heap.size 9 1 v' (Ue ls (k+1)).length (We (Ue ls (k+1)))):=by show World.ownsRow _ _ _ _ _ _ _;rw [F.out,Nu,Q7];exact H.out
 have O:=Q0 (Na (bT P.out h) I.out l (fun k e=>(i.out.lt k e).1));obtain ⟨vf,vg,hvf⟩:=b_ X.out;subst hvf;clear H I i J h h0 h1;go_wp2;go_roundw
 case rel=>exact ⟨k+1,vf,vg,O0,rfl,by go_num,X.out,O.out⟩
 case measure=>simp [intOf];omega
theorem c105 (a:Option Addr) (cap:Nat) (l:List ByteArray) (s:ByteArray) (w:World) (hl:l.length<=1000) (p:Nr w a l):
 Calls prog 105 #[.slice a l.length cap,.string s] w fun e w'=>(∃ r:Int,e=.returned (.int .i64 r)/\(0<=r↔s∈l))/\w'=w:=by
 obtain ⟨b,off,o⟩:=Sq p;have A:=Q0 o;clear p o;go_enter func105,ntmps105
 go_wp2_with fail
 go_loopw [8] (fun f wr=>∃ k:Nat,k<=l.length/\f=.int .i64 k/\wr=w/\Hid (∀ j,j<k->l.getD j ⟨#[]⟩≠s)) (fun f _=>l.length - (intOf f).toNat)
 case atStart=>exact ⟨0,I5 _,rfl,rfl,fun j h=>absurd h (F5 _)⟩
 obtain ⟨k,hk,rfl,rfl,c⟩:=hrel;by_cases d:k<l.length;rotate_left
 · have y:Hid (s∉l):=fun u=>by
    obtain ⟨j,m,rfl⟩:=Lb u;exact c.out j O0 (by simp [List.getD,F8 m])
   clear c;go_wp2;go_ret;exact ⟨⟨-1,rfl,⟨fun h=>O0,fun h=>absurd h y.out⟩⟩,rfl⟩
 rcases A.out with t | ⟨v,hbw,n⟩
 · rw [t] at d;exact absurd d (F5 _)
 subst v;have g0:=n k d;have q:Hid (l.getD k ⟨#[]⟩∈l):=by show _∈_;simp [List.getD,F8 d]
 have i:Hid (l.getD k ⟨#[]⟩≠s->∀ j,j<k+1->l.getD j ⟨#[]⟩≠s):=fun h j m=>by
  rcases U5 j k with h1 | h1
  · exact c.out j h1
  obtain rfl:j=k:=O0;exact h
 generalize l.getD k ⟨#[]⟩=x at*;clear n;cases hq:(s.toList==x.toList);rotate_left
 · have g:s=x:=by
    have:=Vf.1 hq;rw [I7,I7] at this;exact Hd (ag.1 this)
   subst g;clear i c;go_wp2;go_ret;exact ⟨⟨k,rfl,⟨fun _=>q.out,fun _=>O0⟩⟩,rfl⟩
 have g:x≠s:=fun e=>by rw [e] at hq;simp at hq
 have z:=Q0 (i.out g);clear i c q;go_wp2;go_roundw
 case rel=>exact ⟨k+1,O0,by go_num,trivial,z⟩
 case measure=>simp [intOf];omega
theorem c75 (a:Option Addr) (cap:Nat) (l:List ByteArray) (s:ByteArray) (w:World) (f:l.length<=1000) (d:Nr w a l):
 Calls prog 75 #[.slice a l.length cap,.string s] w fun e w'=>e=.returned (.bool (Ox l s))/\w'=w:=by
 have h:=c105 a cap l s w f d;clear d;go_enter func75,ntmps75
 go_wp2_with fail
 refine h.mono ?_;rintro e w1 ⟨⟨r,rfl,b⟩,rfl⟩;clear h;by_cases h0:0<=r
 · have c:=Q0 (Ke.2 (b.1 h0))
   clear b;go_wp2;go_ret;exact ⟨by rw [c.out];rfl,rfl⟩
 have c:Hid (Ox l s=false):=by show _=_;rw [<- Bool.not_eq_true,Ke];exact fun h=>h0 (b.2 h)
 clear b;go_wp2;go_ret;have g:decide (0<=r)=false:=by simpa using h0
 exact ⟨by rw [c.out,g];rfl,rfl⟩
variable {f:Fx} {E:Env} {B6 Z b2 j:Nat} {pre:List De} {x:De} {A N N':List ByteArray} {v va:Value} {g:Gh} {W W':World} {nm s:ByteArray}
structure jK (f:Fx) (J:List De->Gh->World->Prop) (b2:Nat) (pre:List De) (x:De) (B6 Z:Nat) (A:List ByteArray) (va:Value) (N:List ByteArray) (v:Value) (g:Gh) (W:World):Prop where
 i:bz f J b2 pre N v g W
 rR:Cl W B6 50 x.vs
 o6:g.ow B6=none
 lk:W.ownsRow Z 52 4 x.lv x.d.ls.length (R4 x.d.ls)
 ol:∀ k,x.lv.ownBlock=some k->g.ow k=none
 ra:W.ownsRow f.base 9 1 va A.length (We A)
 ne:∀ k,va.ownBlock=some k->v.ownBlock≠some k
theorem jK.grow {J:List De->Gh->World->Prop} (b:gM f E J) (h:jK f J b2 pre x B6 Z A va N v g W) (a:Below W.heap.size W W'):jK f J b2 pre x B6 Z A va N v { g with ow:=U8 g.ow W.heap.size } W':=
 ⟨h.i.grow b a,h.rR.below a h.rR.lt,(Q5 h.rR.lt).trans h.o6,ownsRow_below h.lk a,fun k e=>(Q5 (h.lk.lt k e).2).trans (h.ol k e),ownsRow_below h.ra a,h.ne⟩
theorem jK.app {J:List De->Gh->World->Prop} (w:gM f E J) {v':Value} (h:jK f J b2 pre x B6 Z A va N v g W) (B:W'.ownsRow f.base 9 1 v' (N.length+1) (We N++[.string s])) (b:W.grownBy W' v.ownBlock) (u:v'.ownBlock=v.ownBlock\/v'.ownBlock=some W.heap.size):jK f J b2 pre x B6 Z A va (N++[s]) v' { g with ow:=U8 g.ow W.heap.size } W':=by
 obtain ⟨m,a,q⟩:=w.st _ _ _ h.i.j;have r:=Na (F4 _ _) b m.sz (fun k e=>(h.i.rn.lt k e).1);have p:∀ (k:Nat) cur fz t,W.heap[k]?=some (.cells cur t fz)->t≠9->W'.heap[k]?=W.heap[k]?:=fun k cur fz t e y=>b.block k (Q4 e) (fun c=>by
  obtain ⟨_,cu,n⟩:=Y2 h.i.rn c.symm;exact J6 e n y rfl)
 have z:Ab f { g with ow:=U8 g.ow W.heap.size } W':=(m.U8 _ P9).same q (m.bl.trans r) (fun k o e=>by
  by_cases d:k<W.heap.size
  · have l:=(Q5 d).symm.trans e
    exact b.block k d (fun c=>by rw [h.i.on k c.symm] at l;cases l)
  have l:=(Q9 O0).symm.trans e;cases l)
 refine ⟨⟨w.mv _ _ _ _ _ h.i.j z ⟨a.mem,a.inj,a.his,a.fin,a.non,a.act,a.yR,a.bS,a.nS,a.sS,a.vR,a.WR⟩ q b.size r (fun k d e h9=>b.block k d (fun c=>by obtain ⟨_,cur,n⟩:=Y2 h.i.rn c.symm;exact h9 _ _ n)) (fun k d e=>(Q5 d).trans e),(p _ _ _ _ h.i.c2 K3).trans h.i.c2,(Q5 h.i.c2.lt).trans h.i.o2,by rw [Nu,Q7];exact B,fun k e=>?_⟩,(p _ _ _ _ h.rR K3).trans h.rR,(Q5 h.rR.lt).trans h.o6,Nn h.lk h.i.rn K3 b,fun k e=>(Q5 (h.lk.lt k e).2).trans (h.ol k e),Z0 h.ra fun k e=>b.block k (h.ra.lt k e).2 (fun c=>h.ne k e c.symm),fun k e c=>?_⟩
 · show U8 g.ow W.heap.size k=none
   rcases u with h1 | h1
   · rw [h1] at e
     exact (Q5 (h.i.rn.lt k e).2).trans (h.i.on k e)
   rw [h1] at e;cases e;exact Q9 P9
 rcases u with h1 | h1
 · rw [h1] at c
   exact h.ne k e c
 rw [h1] at c;cases c;exact absurd (h.ra.lt _ e).2 (Nat.lt_irrefl _)
structure Bf (E:Env) (nm:ByteArray) (pre:List De) (N:List ByteArray):Prop where
 nd:N.Nodup
 rc:∀ k∈N,Js E nm k
 nm:nm∈N
 tk:pre.map (·.d.nm)=N.take pre.length
 le:pre.length<=N.length
 ok:∀ x∈pre,Xc E x.d.nm x.d/\∀ k∈qa x.d.ls x.d.wt,k∈N
structure Bg (E:Env) (nm:ByteArray) (N A:List ByteArray) (j:Nat) (N':List ByteArray):Prop where
 nd:N'.Nodup
 rc:∀ k∈N',Js E nm k
 px:N <+:N'
 ak:∀ k∈A.take j,k∈N'
structure Vt (E:Env) (nm:ByteArray) (xs:List De):Prop where
 nd:(xs.map (·.d.nm)).Nodup
 ok:∀ x∈xs,Xc E x.d.nm x.d
 mem:∀ k,k∈xs.map (·.d.nm)↔Js E nm k
theorem Bf.done (hE:Y7 E) (h:Bf E nm pre N) (b:N.length<=pre.length):Vt E nm pre:=by
 have e:pre.map (·.d.nm)=N:=by rw [h.tk,E_ b]
 refine ⟨by rw [e];exact h.nd,fun x hx=>(h.ok x hx).1,fun k=>?_⟩;rw [e];refine ⟨h.rc k,fun a=>?_⟩
 induction a with
 | base=>exact h.nm
 | @step n k _ ha ih=>
  obtain ⟨d,h1,h2⟩:=ha;rw [<- e] at ih;obtain ⟨x,hx,rfl⟩:=D9.1 ih;obtain ⟨h3,c⟩:=h.ok x hx;rw [Ki hE h1 h3] at h2;exact c k h2
theorem Bf.next (h:Bf E nm pre N) (f:pre.length<N.length) (hx:Xc E (N.getD pre.length ⟨#[]⟩) x.d) (a:Bg E nm N (qa x.d.ls x.d.wt) (qa x.d.ls x.d.wt).length N'):Bf E nm (pre++[x]) N':=by
 have e:=Lp hx;refine ⟨a.nd,a.rc,a.px.subset h.nm,?_,?_,fun y b=>?_⟩
 · rw [mf,h.tk,Q7]
   obtain ⟨r,rfl⟩:=a.px;rw [Sz J4,Fu,Rh f];simp [e,List.getD,F8 f]
 · have:=a.px.length_le
   simp;omega
 rcases P8.1 b with b | b
 · exact ⟨(h.ok y b).1,fun k c=>a.px.subset ((h.ok y b).2 k c)⟩
 rw [R9.1 b];exact ⟨by rw [e];exact hx,fun k c=>a.ak k (by rw [Fv];exact c)⟩
theorem Bg.skip (h:Bg E nm N A j N') (b:j<A.length) (c:A.getD j ⟨#[]⟩∈N'):Bg E nm N A (j+1) N':=
 ⟨h.nd,h.rc,h.px,fun k a=>by
  rw [Rh b] at a;rcases P8.1 a with a | a
  · exact h.ak k a
  rw [R9.1 a];simpa [List.getD,F8 b] using c⟩
theorem Bg.add (h:Bg E nm N A j N') (g:j<A.length) (f:A.getD j ⟨#[]⟩∉N') (d:Js E nm (A.getD j ⟨#[]⟩)):Bg E nm N A (j+1) (N'++[A.getD j ⟨#[]⟩]):=by
 refine Bg.skip ⟨?_,fun k c=>?_,h.px.trans ⟨_,rfl⟩,fun k c=>XA _ (h.ak k c)⟩ g (List.mem_append_right _ (R9.2 rfl))
 · rw [Kv]
   exact ⟨h.nd,X0,fun a l b i e=>f (by rw [R9.1 i] at e;rw [<- e];exact l)⟩
 rcases P8.1 c with c | c
 · exact h.rc k c
 rw [R9.1 c];exact d
def Yd (J:List De->Gh->World->Prop) (pre:List De) (x:De) (g:Gh) (W W':World):Prop:=∃ g',J (pre++[x]) g' W'/\W.heap.size<=W'.heap.size/\(∀ k,k<W.heap.size->g.ow k=none->g'.ow k=none)/\∀ (k:Nat) cur t fz,W.heap[k]?=some (.cells cur t fz)->t=9\/t=87->W'.heap[k]?=W.heap[k]?
theorem bz.next {J:List De->Gh->World->Prop} (h:bz f J b2 pre N v g W) (b:Yd J pre x g W W'):∃ g',bz f J b2 (pre++[x]) N v g' W':=by
 obtain ⟨g',h1,h2,h3,a⟩:=b;exact ⟨g',h1,(a _ _ _ _ h.c2 (.inr rfl)).trans h.c2,h3 _ h.c2.lt h.o2,Z0 h.rn (fun k e=>by
  obtain ⟨_,cur,c⟩:=Y2 h.rn e;exact a _ _ _ _ c (.inl rfl)),fun k e=>h3 k (h.rn.lt k e).2 (h.on k e)⟩
end Go.Proofs.YtdjaajjndfbpmaaGreatDoor
namespace Go.Proofs.YtdjaajjndfbpmaaGreatDoor
open Proofs.Tryz
open Go.RowKit
theorem pQ (f:Fx) (E:Env) (U:BD f E) (hms:E.ms.length<=30) (J:List De->Gh->World->Prop) (z:gM f E J) (l m b1 b2:Nat) (nm:ByteArray) (g:Gh) (w:World) (h0:J [] g w) (hc1:Cl w b1 9 [.string nm]) (V:Cl w b2 87 [.func (.func 22) #[.pointer (some ⟨f.kb,0,none⟩)] #[]]) (ho2:g.ow b2=none) (hok:J2 nm.data.toList=true)
 (hY:∀ pre x g W,J pre g W->pre.length<481->(∃ g0 W0,J pre g0 W0/\W.ownsRow W0.heap.size 52 4 x.lv x.d.ls.length (R4 x.d.ls))->(∀ k,x.lv.ownBlock=some k->g.ow k=none)->YieldAt Fence.wide m prog l #[.agg x.vs.toArray] W fun e W'=>e=.returned (.bool true)/\Yd J pre x g W W'):
 Calls prog 73 #[.func (.yield l) #[] #[],.pointer (some ⟨b1,0,none⟩),.pointer (some ⟨b2,0,none⟩)] w fun e W'=>(∃ v,e=.returned v)/\∃ xs g',J xs g' W'/\Vt E nm xs:=by
 have Y:Y7 E:=by rw [U.hE];exact zb U.tr U.pt
 have xS:=Q0 Y;have HY:=Q0 hY;have HLEN:Hid (∀ N:List ByteArray,N.Nodup->(∀ k∈N,Js E nm k)->N.length<=481):=fun N h1 h2=>El Y hms h1 h2;have AV:Hid (∀ k,Js E nm k->J2 k.data.toList=true):=fun k h=>VA Y hok h;obtain ⟨S,o,hq⟩:=z.st _ _ _ h0;have d1:w.cell? ⟨b1,0,none⟩=some (.string nm):=hc1.cell 0;obtain ⟨u0,R⟩:∃ u:World,u=w.alloc (.cells #[.string nm] 9):=⟨_,rfl⟩;have EW:=Q0 R;have K:Below w.heap.size w u0:=by rw [R];exact bA
 have I0:Hid (bz f J b2 [] [nm] (.slice (some ⟨w.heap.size,0,none⟩) 1 1) { g with ow:=U8 g.ow w.heap.size } u0):=by
  refine Q0 ⟨z.mv _ _ _ _ _ h0 ((S.U8 _ P9).grow K) ⟨o.mem,o.inj,o.his,o.fin,o.non,o.act,o.yR,o.bS,o.nS,o.sS,o.vR,o.WR⟩ hq K.size (K.mono S.sz) (fun k F _ _=>K.block k F) (fun k F e=>(Q5 F).trans e),V.below K V.lt,(Q5 V.lt).trans ho2,?_,fun k e=>by cases e;exact Q9 P9⟩;rw [R];exact ⟨rfl,.inr ⟨w.heap.size,1,#[.string nm],rfl,S.sz,World.alloc_heap_new w _,Q6 _,K3,rfl,rfl⟩⟩
 have F0:Hid (Bf E nm [] [nm]):=Q0 ⟨X0,fun k F=>by rw [R9.1 F];exact .base,R9.2 rfl,rfl,I5 _,fun x hx=>by cases hx⟩;clear h0 hc1 V ho2 hok hY Y S o hq R K hms;go_enter func73,ntmps73
 go_upto_region 1 with fail
 rw [<- EW.out];clear EW d1
 go_wp2_with fail
 go_loopw [4,5] (fun v4 v5 wr=>∃ (pre:List De) (N:List ByteArray) (va:Option Addr) (y:Nat) (g:Gh),v4=.slice va N.length y/\v5=.int .i64 pre.length/\Hid (bz f J b2 pre N (.slice va N.length y) g wr)/\Hid (Bf E nm pre N)) (fun _ v5 _=>481 - (intOf v5).toNat)
 case atStart=>exact ⟨[],[nm],_,_,_,rfl,rfl,I0.out,F0.out⟩
 clear I0 F0;obtain ⟨pre,N,va,y,g1,rfl,rfl,HI,C⟩:=hrel;obtain ⟨Q,rfl⟩:∃ x,x=wr:=⟨_,rfl⟩;have a3s:=HLEN.out N C.out.nd C.out.rc;have hpl:=C.out.le;by_cases I:pre.length<N.length;rotate_left
 · have HFin:=Q0 (C.out.done xS.out O0)
   go_wp2
   go_end0
   exact ⟨⟨_,rfl⟩,pre,g1,HI.out.j,HFin.out⟩
 obtain ⟨nb,H,rfl⟩:∃ nb H,va=some ⟨nb,H,none⟩:=by
  obtain ⟨a,c,e,hn⟩:=xe HI.out.rn;injection e with e _ _;subst e;rcases hn with h | ⟨b,off,h,_⟩
  · rw [h] at I;cases I
  exact ⟨b,off,h⟩
 obtain ⟨n,PU⟩:∃ n,Hid (N.getD pre.length ⟨#[]⟩=n):=⟨_,rfl⟩;have KW:Hid (Js E nm n):=by show Js _ _ _;rw [<- PU.out];exact C.out.rc _ (by rw [List.getD,F8 I];exact Ea I)
 go_upto_region 4 with fail
 try simp only [qq]
 refine aQ f E U J z b2 pre N nb H y pre.length n g1 Q _ _ _ _ _ _ _ _ _ _ _ _ _ _ _ _ _ _ _ _ _ _ _ _ _ _ _ _ _ _ _ _ _ _ _ _ _ _ _ _ _ _ _ _ _ ?hq1 HI I O0 PU (AV.out n KW.out) ?kk1
 case hq1=>exact fun _ _ d _ _ h=>by cases d <;> exact h
 intro t18 t19 t20 t21 t22 t23 t24 t25 t26 d la c B6 g2 w2 hI hd hlk hol hc6 ho6 hz hb;have hdl:=Vl xS.out hd;have hdn:=hdl.1;have h61:=mR d la c w2 hdl.1 (by
  obtain ⟨a,c',e,h⟩:=yf hlk;injection e with e _ _;rw [e];exact h)
 rw [show (De.vs ⟨d,.slice la d.ls.length c⟩).toArray=#[.string d.nm,.bool d.md,.string d.m.nm,.string d.m.tl,.string d.m.ar,.slice la d.ls.length c,.int .i64 d.r.code,.string d.r.tx] from rfl] at h61;have Z:=Q0 hI;have HD:=Q0 hd;have VR:=Q0 hlk;have HOL:=Q0 hol;have P:=Q0 hc6;have mY:=Q0 ho6;clear hI hd hlk hol hc6 ho6 hb hdl
 go_wp2_with (refine Bh rfl (yg 50 _ rfl (B:=B6) (j:=0) (cs:=[.string d.nm,.bool d.md,.string d.m.nm,.string d.m.tl,.string d.m.ar,.slice la d.ls.length c,.int .i64 d.r.code,.string d.r.tx]) rfl (fun q v e=>by rw [R7];exact (P.out.cell q).trans e) underlying50 rfl U2) ?_)
 refine h61.mono ?_;rintro e w3 ⟨⟨v29,rfl,L⟩,X⟩;obtain ⟨A,HA⟩:∃ A,Hid (qa d.ls d.wt=A):=⟨_,rfl⟩;have hAl:=Qy d.ls d.wt;rw [HA.out] at L hAl;obtain ⟨aa,ac,rfl,hat⟩:=xe L;have HB0:Hid (jK f J b2 pre ⟨d,.slice la d.ls.length c⟩ B6 Q.heap.size A (.slice aa A.length ac) N (.slice (some ⟨nb,H,none⟩) N.length y) { g2 with ow:=U8 g2.ow w2.heap.size } w3):=Q0 ⟨Z.out.grow z X,P.out.below X P.out.lt,(Q5 P.out.lt).trans mY.out,ownsRow_below VR.out X,fun k e=>(Q5 (VR.out.lt k e).2).trans (HOL.out k e),D5 L ((z.st _ _ _ Z.out.j).1.sz),fun k e c=>by
  have h1:=(L.lt k e).1;have h2:=(Z.out.rn.lt k c).2;omega⟩
 have HG0:Hid (Bg E nm N A 0 N):=Q0 ⟨C.out.nd,C.out.rc,⟨[],X0⟩,fun k F=>by simp at F⟩;have a3I:A.length<=16:=O0;clear h61 L hat X Z P mY HOL VR hAl
 go_wp2_with fail
 go_loopw [4,31] (fun v4 v31 wr=>∃ (j:Nat) (N':List ByteArray) (va:Option Addr) (y:Nat) (g:Gh),j<=A.length/\v4=.slice va N'.length y/\v31=.int .i64 j/\Hid (jK f J b2 pre ⟨d,.slice la d.ls.length c⟩ B6 Q.heap.size A (.slice aa A.length ac) N' (.slice va N'.length y) g wr)/\Hid (Bg E nm N A j N')) (fun _ v31 _=>A.length - (intOf v31).toNat)
 case atStart=>exact ⟨0,N,_,_,_,I5 _,rfl,rfl,HB0.out,HG0.out⟩
 clear HB0 HG0;obtain ⟨j,N',MX,OX,g3,hj,rfl,rfl,p,O⟩:=hrel;have hN':=HLEN.out N' O.out.nd O.out.rc;by_cases t:j<A.length;rotate_left
 · have hje:j=A.length:=O0
   subst hje;have HY1:=HY.out pre ⟨d,.slice la d.ls.length c⟩ g3 wr p.out.i.j O0 ⟨g1,Q,HI.out.j,p.out.lk⟩ p.out.ol;have HBf:Hid (Bf E nm (pre++[⟨d,.slice la d.ls.length c⟩]) N'):=Q0 (C.out.next I (by rw [PU.out];exact HD.out) (by show Bg E nm N (qa d.ls d.wt) (qa d.ls d.wt).length N';rw [HA.out];exact O.out))
   go_upto_region 11 with fail
   try simp only [qq]
   refine LQ ⟨d,.slice la d.ls.length c⟩ B6 l m wr _ _ _ _ _ _ _ _ _ _ _ _ _ _ _ _ _ _ _ _ _ _ _ _ _ _ _ _ _ _ _ _ _ _ _ _ _ _ _ _ _ _ _ _ _ _ p.out.rR HY1 ?_;intro t44 t45 t46 w5 hyd;obtain ⟨g5,hI5⟩:=p.out.i.next hyd;have HI5:=Q0 hI5;clear hyd hI5 HY1;go_wp2;go_roundw
   case rel=>exact ⟨_,N',_,_,g5,rfl,by rw [Q7];go_num,HI5.out,HBf.out⟩
   case measure=>simp [intOf];omega
 obtain ⟨ab,ao,rfl⟩:∃ nb H,aa=some ⟨nb,H,none⟩:=by
  obtain ⟨a,c,e,hn⟩:=xe p.out.ra;injection e with e _ _;subst e;rcases hn with h | ⟨b,off,h,_⟩
  · rw [h] at t;cases t
  exact ⟨b,off,h⟩
 have gA:=(Yc p.out.ra t).1;have HRA:Hid (Js E nm (A.getD j ⟨#[]⟩)):=Q0 (.step KW.out ⟨d,HD.out,by rw [HA.out,List.getD,F8 t];exact Ea t⟩);have HGS:=Q0 (fun h=>O.out.skip t h);have PW:=Q0 (fun h=>O.out.add t h HRA.out);generalize A.getD j ⟨#[]⟩=s at*;have h62:=c75 MX OX N' s wr O0 (by
  obtain ⟨a,c',e,h⟩:=xe p.out.i.rn;injection e with e _ _;rw [e];exact h)
 go_wp2_with fail
 refine h62.mono ?_;rintro e D ⟨rfl,rfl⟩;clear h62;cases hmb:Ox N' s;rotate_left
 · have HG':=Q0 (HGS.out (Ke.1 hmb))
   clear HGS PW;go_wp2;go_roundw
   case rel=>exact ⟨j+1,N',_,_,_,t,rfl,by go_num,p.out,HG'.out⟩
   case measure=>simp [intOf];omega
 have HG':=Q0 (PW.out (fun h=>by rw [Ke.2 h] at hmb;cases hmb));clear HGS PW;have hal:Below D.heap.size D (D.alloc (.cells #[.string s] 9)):=bA;have BV:=Q0 (p.out.grow z hal);have G4:Hid (Cl (D.alloc (.cells #[.string s] 9)) D.heap.size 9 [.string s]):=Q0 (U1 D _ 9);have hbs:=(z.st _ _ _ BV.out.i.j).1.sz;clear gA
 go_wp2_with (refine Ve rfl _ _ 79 rfl f.base 9 1 underlying79 Tw K3 (.slice MX N'.length OX) N'.length (We N') rfl BV.out.i.rn _ 1 [.string s] rfl (.inr ⟨⟨D.heap.size,0,none⟩,1,rfl,rfl,za G4.out⟩) (by intro v hv;simp at hv;subst hv;rfl) O0 hbs ?_;intro v' w9 O9 g9 at9;have JW:=Q0 O9;have HG9:=Q0 g9;have HA9:=Q0 at9;clear O9 g9 at9)
 have JZ:=Q0 (BV.out.app z JW.out HG9.out HA9.out);obtain ⟨vf,vg,hvf⟩:=b_ JZ.out.i.rn;subst hvf;clear JW HG9 HA9 BV G4 hal p hbs;go_wp2;go_roundw
 case rel=>exact ⟨j+1,_,_,_,_,t,rfl,by go_num,JZ.out,HG'.out⟩
 case measure=>simp [intOf];omega
end Go.Proofs.YtdjaajjndfbpmaaGreatDoor
