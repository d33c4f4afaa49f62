import Derived.Test.YtkdbheidpdjimaaGreatDoorMD
import Derived.Test.YtkdbheidpdjimaaGreatDooreEA
set_option linter.unusedVariables false
set_option linter.unusedSimpArgs false
set_option maxRecDepth 100000
set_option maxHeartbeats 8000000
namespace Go.Proofs.YtkdbheidpdjimaaGreatDoor
open Go.RowKit Go.Maps
variable {W W' w w':World} {B base e g n size:Nat} {ts:LB} {rs:List R3} {rv tv:Value} {xs:List Value} {ss:List (List UInt8)}
theorem Xq (h:Jd W base ts rs tv rv) (a:∀ q t,Gf W q t->t=9\/t=113\/t=178->W'.heap[q]?=W.heap[q]?):Jd W' base ts rs tv rv:=by
 obtain ⟨h1,vs,h2⟩:=h;exact ⟨I7 h1 (fun q b=>a q 9 (Q8 h1 b) (.inl rfl)),vs,h2.keep (fun q t hT ht _=>a q t hT (.inr ht))⟩
theorem yw (h:Jd W base ts rs tv rv) (a:Bw W W'):Jd W' base ts rs tv rv:=
 Xq h (fun q t hT _=>a.block q (je hT))
theorem Ut {base':Nat} (h:Jd W base ts rs tv rv) (a:base'<=base):Jd W base' ts rs tv rv:=by
 obtain ⟨h1,vs,h⟩:=h;exact ⟨H9 h1 a,vs,h.len,H9 h.row a,fun i b=>by
  obtain ⟨d,c3,e,c⟩:=h.gl i b;exact ⟨d,c3,e,H9 c a⟩,h.apart⟩
open Proofs.Tryz
theorem flat3 {α:Type} (f:α->List Value) (hf:∀ a,(f a).length=3):∀ (l:List α) (k:Nat) (b:k<l.length) (j:Nat),j<3->(l.flatMap f)[k*3+j]?=(f (l[k]))[j]?
 | [],k,b,_,_=>absurd b (o9 _)
 | x::r,0,_,j,hj=>by
  rw [Pg,I_ (by rw [hf];omega)];simp
 | x::r,k+1,b,j,hj=>by
  have c:=flat3 f hf r k (by simpa using b) j hj;rw [Pg,Cf (by rw [hf];omega),hf];have e:(k+1)*3+j - 3=k*3+j:=O0;rw [e,c];simp
theorem IW (rs:List R3) (vs:List Value) (k:Nat) (a:k<rs.length):(rC rs vs)[k*3]?=some (.string (rs.getD k g_).key)/\(rC rs vs)[k*3+1]?=some (vs.getD k undef)/\(rC rs vs)[k*3+2]?=some (.string (rs.getD k g_).out):=by
 have h:=flat3 (fun i=>[Value.string (rs.getD i g_).key,vs.getD i undef,Value.string (rs.getD i g_).out]) (fun _=>rfl) (List.range rs.length) k (by simpa using a);have h0:=h 0 O0;have h1:=h 1 O0;have h2:=h 2 O0;simp only [List.getElem_range] at h0 h1 h2;exact ⟨h0,h1,h2⟩
theorem vz {a2:OA} {c2:Nat} {vs:List Value} (h:Gg W base (.slice a2 rs.length c2) rs vs):Jg W a2 rs:=by
 have b:=h.row;rcases h.row.2 with ⟨hv,h0⟩ | ⟨g,cap,cur,hv,hg,f,_⟩
 · exact .inl (Ya.1 h0)
 · simp only [Gy] at hv;obtain ⟨rfl,_,rfl⟩:=hv;refine .inr ⟨g,0,rfl,(D_.1 f).1,fun k d=>?_⟩;obtain ⟨l,j,a2⟩:=IW rs vs k d;obtain ⟨a,c,e,i⟩:=h.gl k d;refine ⟨a,c,?_,?_,?_,TD i⟩
   · rw [E8,b.cellAt (k*3) O0];exact l
   · rw [E8,b.cellAt (k*3+1) O0,j,e]
   · rw [E8,b.cellAt (k*3+2) O0];exact a2
open Go.RowKit
theorem Vu {v:Value} (h:w.ownsRow B e size v n xs) (c:Bw w w'):w'.ownsRow B e size v n xs:=by
 refine ⟨h.1,?_⟩;rcases h.2 with h0 | ⟨g,d,cur,hv,b,a,r⟩
 · exact .inl h0
 · refine .inr ⟨g,d,cur,hv,b,?_,r⟩;rw [c.block g (h.lt g (by rw [hv];rfl)).2];exact a
theorem VK {m a:Nat} (h:w.ownsRow B e size (.slice (some ⟨g,0,none⟩) m a) n xs):n<=a:=by
 rcases h.2 with ⟨h0,_⟩ | ⟨g',cap,cur,hv,_,_,hc,_⟩
 · cases h0
 · cases hv;exact hc
def Ri (w:World) (g o:Nat) (ss:List (List UInt8)):Prop:=g<w.heap.size/\∀ i,i<ss.length->w.cell? ⟨g,o+i,none⟩=some (.string (Y2 (ss.getD i [])))
theorem Hq {o:Nat} (h:Ri w g o ss) (a:Bw w w'):Ri w' g o ss:=
 ⟨m_ h.1 a.size,fun i b=>by rw [a.cell (by exact h.1)];exact h.2 i b⟩
theorem a0c (w:World) (x y z q:Value) (t:TypeId):∀ j u,[x,y,z,q][j]?=some u->(w.alloc (.cells #[x,y,z,q] t)).cell? ((⟨w.heap.size,0,none⟩:Addr).add j)=some u:=by
 intro j u h
 match j,h with
 | 0,h=>simp at h;subst h;simp [Addr.add]
 | 1,h=>simp at h;subst h;simp [Addr.add]
 | 2,h=>simp at h;subst h;simp [Addr.add]
 | 3,h=>simp at h;subst h;simp [Addr.add]
theorem KW (a:g=w.heap.size) (x y z q:Value) (t:TypeId):∀ j u,[x,y,z,q][j]?=some u->(w.alloc (.cells #[x,y,z,q] t)).cell? ((⟨g,0,none⟩:Addr).add j)=some u:=by
 subst a;exact a0c w x y z q t
theorem iH (is:List L4) (x:L4):FH (is++[x])=FH is++[.bool x.has,.string x.nm,.int .i64 x.cd,.string x.tx]:=by simp [FH]
def VQ (ss:List (List UInt8)) (k:Nat) (xs:List L4):Prop:=xs.length=k/\∀ i,i<k->Zl (ss.getD i []) (xs.getD i O_) true/\(xs.getD i O_).le 1048576
theorem jM {k:Nat} {xs:List L4} {x:L4} (h:VQ ss k xs) (hr:Zl (ss.getD k []) x true) (hx:x.le 1048576):VQ ss (k+1) (xs++[x]):=by
 obtain ⟨h1,h2⟩:=h;refine ⟨by simp [h1],fun i hi=>?_⟩;rcases o8 i k with a | a
 · have e:(xs++[x]).getD i O_=xs.getD i O_:=by
    simp only [Pj];rw [I_ O0]
   rw [e];exact h2 i a
 · obtain rfl:i=k:=O0;have e:(xs++[x]).getD i O_=x:=by
    simp only [Pj];rw [Cf O0,h1];simp
   rw [e];exact ⟨hr,hx⟩
theorem TF {xs:List L4} (h:VQ ss ss.length xs):Em ss xs true/\∀ i,(xs.getD i O_).le 1048576:=by
 refine ⟨jH h.1 fun i a=>(h.2 i a).1,fun i=>?_⟩;rcases o8 i ss.length with a | a
 · exact (h.2 i a).2
 · have:xs.getD i O_=O_:=by
    simp only [Pj];rw [Ec (by have:=h.1;omega)];rfl
   rw [this];exact ⟨D5 _,D5 _⟩
def SV (w w':World) (ss:List (List UInt8)) (e:Ending):Prop:=∃ (xs:List L4) (ok:Bool) (ao:OA) (c:Nat),e=.returned (.tuple #[.slice ao xs.length c,.bool ok])/\Em ss xs ok/\(∀ i,(xs.getD i O_).le 1048576)/\xs.length<=ss.length/\Eg w' w.heap.size ao xs
theorem a1x (C o Q:Nat) (ss:List (List UInt8)) (w:World) (A:Tc w) (hc:Ri w C o ss) (y:∀ i,i<ss.length->(ss.getD i []).length<=16000) (hl:ss.length<=16001):
 Calls prog 215 #[.slice (some ⟨C,o,none⟩) ss.length Q] w fun e w'=>SV w w' ss e/\Bw w w':=by
 obtain ⟨D,B,H,F,E⟩:=info_parts EJ;have V:=U0 hc;have U:=U0 A;have R:=U0 y;have O:=hc.1;clear hc y A;go_enter func215,ntmps215
 go_wp2_with fail
 go_loopw [4,11] (fun v i wr=>∃ (k:Nat) (xs:List L4),k<=ss.length/\i=.int .i64 k/\wr.ownsRow w.heap.size 167 4 v k (FH xs)/\Hid (VQ ss k xs)/\Below w.heap.size w wr) (fun _ i _=>ss.length - (intOf i).toNat)
 case atStart=>exact ⟨0,[],D5 _,rfl,⟨rfl,.inl ⟨rfl,rfl⟩⟩,⟨rfl,fun i B=>O0⟩,Z4 _ _⟩
 case round=>
  obtain ⟨k,xs,hk,rfl,g,ha,b⟩:=hrel;by_cases l:k<ss.length
  · have hcell:=(b.cell (by exact O)).trans (V.out.2 k l);have hr:=R.out k l;have J:=G9 U.out b;have p:Hid (∀ x,Zl (ss.getD k []) x false->Em ss [] false):=fun x h=>GI l h [];have n:Hid (∀ x:L4,Zl (ss.getD k []) x true->x.le 1048576->VQ ss (k+1) (xs++[x])):=fun x h1 h2=>jM ha.out h1 h2;have hz0':=b.size;generalize ss.getD k []=t at*
    go_wp2_with fail
    refine (a1C t _ hr (G9 J ?drw)).mono ?_
    case drw=>first | exact Z4 _ _ | exact (Z4 _ _).drew | exact (Z4 _ _).drew.drew
    rintro e r ⟨⟨x,ok,rfl,d,hx⟩,m⟩;have q:Hid (Bw wr r):=by first | exact m | exact ((Z4 _ _).drew).trans m
    have z:=Vu g q.out;have hz1':=q.out.size;have f:=G7 b q.out;clear m g;unfold L4.v;cases ok
    · have S:Hid (∀ u,SV w u ss (.returned (.tuple #[vN,.bool false]))):=fun u=>⟨[],false,none,0,rfl,p.out x d,fun i=>⟨D5 _,D5 _⟩,D5 _,.inl rfl,.inl rfl⟩;clear p n d;go_wp2;go_ret2;exact ⟨S.out _,f.alloc f.size _⟩
    · have a:=U0 (n.out x d hx);clear p n d
      go_wp2_with (at_builtin;refine wpList_append_own _ rfl _ _ 102 rfl w.heap.size 167 D (.agg #[.bool false,.string ⟨#[]⟩,.int .i64 0,.string ⟨#[]⟩]) 4 48 underlying102 B H F E rfl O6 _ _ _ rfl ((z.alloc _).alloc _) ⟨r.heap.size+1,0,none⟩ 1 1 [_,_,_,_] rfl rfl (KW I4 _ _ _ _ _) (by intro u s;simp at s;rcases s with rfl | rfl | rfl | rfl <;> rfl) (by unfold maxLen;omega) O0 U7 ?_;intro v' w2 I N _)
      go_roundw
      case rel=>
       have P:=((f.alloc f.size _).alloc U7 _).grown N U7 (fun j L=>(z.lt j L).1);refine ⟨k+1,xs++[x],O0,by go_num,?_,a,P⟩;rw [iH];exact I
      case measure=>simp [intOf];omega
  · have a:Hid (Em ss xs true/\(∀ i,(xs.getD i O_).le 1048576)/\xs.length=ss.length):=by
     obtain rfl:k=ss.length:=O0;exact ⟨(TF ha.out).1,(TF ha.out).2,ha.out.1⟩
    obtain rfl:k=ss.length:=O0;obtain ⟨ao,c,hv,K⟩:=kK g a.out.2.2.symm;subst hv;go_wp2;go_ret2;exact ⟨⟨xs,true,ao,c,by rw [a.out.2.2];rfl,a.out.1,a.out.2.1,by rw [a.out.2.2];exact Y9 _,K⟩,b⟩
def zU (x:p_) (ai:OA) (ci:Nat):Value:=if x.kd=1 then .iface 200 (.int .i64 x.ep) else if x.kd=2 then .iface 201 (.agg #[.string x.fn,.string x.ft]) else if x.kd=3 then .iface 202 (.string x.fn) else if x.kd=4 then .iface 204 (.agg #[.string x.km.nm,.string x.km.tl,.string x.km.ar,.slice ai x.ls.length ci,.int .i64 x.cd,.string x.tx]) else .iface 207 (.agg #[])
def ShE (x:p_):Prop:=(∃ n,x=r_ n)\/(∃ a b,x=Vb a b)\/(∃ a,x=Xb a)\/(∃ m ls c t,x=Ag m ls c t)\/x=U_
theorem Eg.bel {ao:OA} {is:List L4} (h:Eg w B ao is) (a:Bw w w'):Eg w' B ao is:=
 ⟨N7 h.at' a,h.own.imp id fun ⟨g,h1,h2,b⟩=>⟨g,h1,h2,b.below a⟩⟩
def yY (L:List (List UInt8)) (w w':World) (e:Ending):Prop:=(∃ v,e=.returned (.tuple #[v,.bool false])/\∀ z,aC L z false)\/(∃ (x:p_) (ai:OA) (ci:Nat),e=.returned (.tuple #[zU x ai ci,.bool true])/\aC L x true/\ShE x/\x.le 1048576/\Eg w' w.heap.size ai x.ls)
theorem Sm {L:List (List UInt8)} (h:∀ z,aC L z false) (w w':World):yY L w w' (.returned (.tuple #[.nilIface,.bool false])):=.inl ⟨_,rfl,h⟩
theorem a1c (f p:List UInt8) (b:List (List UInt8)) (g o F:Nat) (w:World) (U:Y1 f=p) (hw:O1 f=jk) (hs:p.length<=16000) (E:Tc w) (hb:b.length<=16001) (hcp:b.length<=F) (B:Ri w g o b) (K:∀ i,i<b.length->(b.getD i []).length<=16000):
 Calls prog 172 #[.string (Y2 p),.slice (some ⟨g,o,none⟩) b.length F] w fun e w'=>yY (f::b) w w' e/\Bw w w':=by
 rcases qC b with q | ⟨j,last,q⟩
 · subst q;have n:Hid (∀ z,aC [f] z false):=fun z=>MP hw z;go_enter func172,ntmps172;go_wp2;go_ret2;exact ⟨Sm n.out _ _,Z4 _ _⟩
 · rw [zB] at q;have HL:=U0 B;have hlen:b.length=j.length+1:=by rw [q];simp
   have a5j:Ri w g o j:=⟨B.1,fun i J=>(B.2 i O0).trans (by rw [q];simp only [Pj];rw [I_ J])⟩;have cl:w.cell? (aA g (o+j.length))=some (vS (Y2 last)):=(B.2 j.length O0).trans (by rw [q];simp only [Pj];rw [Cf x9];simp);have a6p:∀ i,i<j.length->(j.getD i []).length<=16000:=fun i J=>by
    have h:=K i O0;rw [q] at h;simp only [Pj] at h ⊢;rw [I_ J] at h;exact h
   have hll:last.length<=16000:=by
    have h:=K j.length O0;rw [q] at h;simp only [Pj] at h;rw [Cf x9] at h;simpa using h
   have hg:=B.1;clear B K;have hne:¬ (b.length=0):=O0;have hbl:j.length<=16000:=O0;have hcp2:j.length+1<=F:=O0;rw [hlen];go_enter func172,ntmps172;have hwr:wrap64 (j.length:Int)=(j.length:Int):=IntWalk.wrap64_in _ O0;have N:=fun (m:M3) (ls:List L4) (c:Int) (t:BY) (o1 o2 o3:Bool) hm hl hr=>kU (f:=f) (g:=last) (b:=j) (m:=m) (ls:=ls) (c:=c) (t:=t) (o1:=o1) (o2:=o2) (o3:=o3) hw hm hl hr;rw [U,<- q] at N;clear q U hw
   go_wp2_with fail
   refine (c193 p _ hs E).mono ?_;rintro e d ⟨⟨m,o1,rfl,hm⟩,L⟩;have hm1:=G9 E L;have hz1:=L.size;unfold M3.v;have H:=fun I=>L.alloc hz1 I;have cl1:=fun I=>((H I).cell (p:=(aA g (o+j.length))) hg).trans cl;have hcc:¬ F<j.length:=O0
   go_wp2_with fail
   refine (a1x g o F j _ (G9 E (H _)) (Hq a5j (H _)) a6p O0).mono ?_;rintro e D ⟨⟨ls,o2,ao,ac,rfl,S,a6q,hlc,X⟩,A⟩;have s:(d.alloc (.cells #[vS m.nm,vS m.tl,vS m.ar] 101)).heap.size=d.heap.size+1:=I4;have hz2:d.heap.size+1<=D.heap.size:=by have h:=A.size;rw [s] at h;exact h
   have hB2:=(H _).trans (A.mono (by rw [s];omega));have cl2:=(A.cell (p:=(aA g (o+j.length))) (by rw [s];show g<_;omega)).trans (cl1 _);have m0:D.cell? (aW d 0)=some (vS m.nm):=(A.cell (p:=(aW d 0)) (by rw [s];exact Bv _)).trans (by simp [go_sem]);have Q:D.cell? (aW d 1)=some (vS m.tl):=(A.cell (p:=(aW d 1)) (by rw [s];exact Bv _)).trans (by simp [go_sem]);have P:D.cell? (aW d 2)=some (vS m.ar):=(A.cell (p:=(aW d 2)) (by rw [s];exact Bv _)).trans (by simp [go_sem]);have W:Eg D w.heap.size ao ls:=X.mono (by rw [s];omega);have hm2:=G9 E hB2;have hrs:=X7 last;clear A cl1 X hm1
   go_wp2_with fail
   refine (YJ last _ O0 hm2).mono ?_;rintro e w3 ⟨⟨y,rfl⟩,x⟩;have Z:=G7 hB2 x;have hm3:=G9 E Z;have V:=Eg.bel W x;have O:=(x.cell (p:=(aW d 0)) (by show d.heap.size<_;omega)).trans m0;have n1:=(x.cell (p:=(aW d 1)) (by show d.heap.size<_;omega)).trans Q;have n2:=(x.cell (p:=(aW d 2)) (by show d.heap.size<_;omega)).trans P;have hz3:=x.size;clear x m0 Q P cl2 W
   go_wp2_with fail
   refine (a0A (Y1 last) _ O0 hm3).mono ?_;rintro e w4 ⟨⟨c,t,o3,rfl,R,hts⟩,u⟩;have l:=G7 Z u;have a6r:=Eg.bel V u;have p0:=(u.cell (p:=(aW d 0)) (by show d.heap.size<_;omega)).trans O;have p1:=(u.cell (p:=(aW d 1)) (by show d.heap.size<_;omega)).trans n1;have p2:=(u.cell (p:=(aW d 2)) (by show d.heap.size<_;omega)).trans n2;have hz4:=u.size;have hR:=N m ls c t o1 o2 o3 hm S R;have Y:o1=true->m.le 1048576:=fun h=>by
    have a:=ND (hm.1 h).1;simp only [Xt,ByteArray.size_data] at a;exact ⟨O0,O0,O0⟩
   have hgv:((Y2 (O1 last)).toList==[103,97,118,101])=decide (O1 last=Hf):=by
    rw [ByteArray.toList_eq,O9];by_cases h:O1 last=Hf
    · rw [y_ h,h];rfl
    · rw [P9 h];exact n_.2 h
   have r:(o1=false\/o2=false\/decide (O1 last=Hf)=false\/o3=false)->Hid (∀ z,aC (f::b) z false):=fun h=>hR.2 (fun k=>by
    rcases h with h | h | h | h
    · rw [h] at k;cases k.1
    · rw [h] at k;cases k.2.1
    · rw [Xr] at h;exact h k.2.2.1
    · rw [h] at k;cases k.2.2.2)
   have C:o1=true->o2=true->decide (O1 last=Hf)=true->o3=true->Hid (aC (f::b) (Ag m ls c t) true):=fun h1 h2 h3 h4=>hR.1 h1 h2 (lI h3) h4;clear u N hR hm S R O n1 n2 V;generalize decide (O1 last=Hf)=gv at*;generalize Y2 (O1 last)=wl at*;cases o1
   · have n:=r (.inl rfl);clear r C;go_wp2
     all_goals go_ret2
     all_goals exact ⟨Sm n.out _ _,by first | exact l | exact l.alloc l.size _⟩
   · cases o2
     · have n:=r (.inr (.inl rfl));clear r C;go_wp2
       all_goals go_ret2
       all_goals exact ⟨Sm n.out _ _,by first | exact l | exact l.alloc l.size _⟩
     · cases gv
       · have n:=r (.inr (.inr (.inl rfl)));clear r C;go_wp2
         all_goals go_ret2
         all_goals exact ⟨Sm n.out _ _,by first | exact l | exact l.alloc l.size _⟩
       · cases o3
         · have n:=r (.inr (.inr (.inr rfl)));clear r C;go_wp2
           all_goals go_ret2
           all_goals exact ⟨Sm n.out _ _,by first | exact l | exact l.alloc l.size _⟩
         · have n:=C rfl rfl rfl rfl;have HKS:=Y rfl;clear r C Y;have q0:=past (p:=(aW d 0)) (by show d.heap.size<_;omega) p0;have q1:=past (p:=(aW d 1)) (by show d.heap.size<_;omega) p1;have q2:=past (p:=(aW d 2)) (by show d.heap.size<_;omega) p2;go_wp2;go_ret2;exact ⟨.inr ⟨Ag m ls c t,ao,ac,rfl,n.out,.inr (.inr (.inr (.inl ⟨m,ls,c,t,rfl⟩))),⟨D5 _,D5 _,HKS,⟨by show ls.length<=1048576;omega,a6q⟩,hts⟩,a6r.bel o7⟩,l.alloc l.size _⟩
theorem kD (x:p_) (h1:x.fn.size<=1048576) (h2:x.ft.size<=1048576) (c:x.km=H_) (b:x.ls=[]) (a:x.tx=⟨#[]⟩):x.le 1048576:=by
 refine ⟨h1,h2,?_,?_,?_⟩
 · rw [c];exact ⟨D5 _,D5 _,D5 _⟩
 · rw [b];exact ⟨D5 _,fun _=>⟨D5 _,D5 _⟩⟩
 · rw [a];exact D5 _
theorem qo (l w:List UInt8):((Y2 (O1 l)).toList==w)=decide (O1 l=w):=by
 rw [ByteArray.toList_eq,O9];by_cases h:O1 l=w
 · rw [y_ h,h];simp
 · rw [P9 h];exact n_.2 h
theorem xW (l:List UInt8) (w:World) (hs:l.length<=1048700) (hm:Tc w):
 Calls prog 167 #[.string (Y2 l),.string ⟨#[32]⟩] w fun e w'=>e=.returned (.tuple #[.string (Y2 (O1 l)),.string (Y2 (Y1 l)),.bool (decide ((32:UInt8)∈l))])/\Bw w w':=by
 obtain ⟨_,m,hm⟩:=hm;refine (Tryz.strings_Cut (Y2 l) ⟨#[32]⟩ m w (by rw [J5];omega) hm).mono ?_;rintro e w' ⟨rfl,n,rfl⟩;refine ⟨?_,below_drewN n⟩;have b:(Lib.cut l [32]).2.2=decide ((32:UInt8)∈l):=by
  unfold Lib.cut;rcases Jr l with ⟨h,a⟩ | ⟨i,h,hm,_,_⟩
  · rw [h,A8 O0,P9 a]
  · rw [h,G8 O0,y_ hm]
 rw [<- YI,<- YD,<- b];rfl
theorem a1j (f:List UInt8) (b:List (List UInt8)) (g:Nat) (w:World) (hs:f.length<=16000) (I:Tc w) (hb:b.length<=16001) (s:Ri w g 0 (f::b)) (P:∀ i,i<b.length->(b.getD i []).length<=16000):
 Calls prog 115 #[.slice (some ⟨g,0,none⟩) (b.length+1) (b.length+1)] w fun e w'=>yY (f::b) w w' e/\Bw w w':=by
 have c0:w.cell? (aA g 0)=some (vS (Y2 f)):=s.2 0 I4;have L:Ri w g 1 b:=⟨s.1,fun i O=>by
  have h:=s.2 (i+1) U7;rw [E8] at h;rw [Nat.add_comm 1 i,h];rfl⟩
 have hg:=s.1;obtain ⟨o1,ho1,K⟩:∃ o1,(if b=[] then some (aA g 0) else some (aA g 1))=some (aA g o1)/\Ri w g o1 b:=by
  by_cases H:b=[]
  · exact ⟨0,by rw [G8 H],hg,fun i O=>by subst H;cases O⟩
  · exact ⟨1,by rw [A8 H],L⟩
 have hrs:=X7 f;have Y:=U0 P;clear s L P;go_enter func115,ntmps115
 go_wp2_with fail
 refine (xW f _ O0 I).mono ?_;rintro e w1 ⟨rfl,c⟩;have J:=G9 I c;have N:=Hq K c;have V:=qo f [114,97,110];have C:=qo f [101,112,111,99,104];have A:=qo f [102,105,108,101];have o:=qo f [100,114,111,112];have m:=qo f [99,108,101,97,114];by_cases d:O1 f=jk
 · rw [show (decide (O1 f=[114,97,110]))=true from y_ d] at V;have h44:=fun u=>a1c f (Y1 f) b g o1 b.length u rfl d O0;clear C A o m;generalize Y2 (O1 f)=wd at*;have hif:¬ ((b.length:Int)+1<1):=O0
   go_wp2_with fail
   refine (h44 _ J hb x9 N Y.out).mono ?_;rintro e D ⟨hr,F⟩;have R:=G7 c F;rcases hr with ⟨v,rfl,r⟩ | ⟨x,W,ci,rfl,h1,h2,U,S⟩
   · have a:=U0 r;clear r;go_wp2;go_ret2;exact ⟨.inl ⟨v,rfl,a.out⟩,R⟩
   · have a:Hid (aC (f::b) x true/\ShE x/\x.le 1048576/\Eg D w.heap.size W x.ls):=⟨h1,h2,U,S.mono c.size⟩;clear h1 h2 U S;go_wp2;go_ret2;exact ⟨.inr ⟨x,W,ci,rfl,a.out.1,a.out.2.1,a.out.2.2.1,a.out.2.2.2⟩,R⟩
 · rw [show (decide (O1 f=[114,97,110]))=false from P9 d] at V;by_cases E:b=[]
   · subst E;clear N K ho1 Y;by_cases j:O1 f=Le
     · rw [show (decide (O1 f=[101,112,111,99,104]))=true from y_ j] at C;have a:=U0 (OM j);clear A o m d j;generalize Y2 (O1 f)=wd at*
       go_wp2_with fail
       refine (vW 200 (Y2 (Y1 f)) _ (by rw [J5];omega) O0 O0).mono ?_;rintro e D ⟨rfl,rfl⟩;rw [O9];cases r:Qh 200 (Y1 f)
       · rw [r] at a;go_wp2;go_ret2;exact ⟨.inl ⟨_,rfl,fun z=>⟨fun y p e=>absurd (a.out.1 y p e).1 O6,(fun h=>by cases h)⟩⟩,c⟩
       · rw [r] at a;go_wp2;go_ret2;exact ⟨.inr ⟨r_ (GH 200 (Y1 f)),none,0,rfl,a.out,.inl ⟨_,rfl⟩,kD _ (D5 _) (D5 _) rfl rfl rfl,⟨.inl rfl,.inl rfl⟩⟩,c⟩
     · rw [show (decide (O1 f=[101,112,111,99,104]))=false from P9 j] at C;by_cases k:O1 f=Jh
       · rw [show (decide (O1 f=[102,105,108,101]))=true from y_ k] at A;have X:=fun t ok q=>oP (f:=f) (t:=t) (ok:=ok) k q;have a4F:=X7 (Y1 f);clear o m d j k;generalize Y2 (O1 f)=wd at*
         go_wp2_with fail
         refine (xW (Y1 f) _ O0 J).mono ?_;rintro e D ⟨rfl,F⟩
         go_wp2_with fail
         refine (kQ (Y1 (Y1 f)) _ O0).mono ?_;rintro e w3 ⟨⟨t,ok,rfl,q⟩,hb3⟩;have a:=U0 (X t ok q);have Z:ok=true->t.length<=16000:=fun h=>by
          have:=Yo t;rw [<- q.1 h] at this;omega
         have Q:=c.trans ((G7 F hb3).mono c.size);clear q X;cases ok
         · go_wp2;go_ret2;exact ⟨.inl ⟨_,rfl,fun z=>⟨fun y p e=>absurd (a.out.1 y p e).1 O6,(fun h=>by cases h)⟩⟩,Q⟩
         · have a6V:=Z rfl;go_wp2;go_ret2;exact ⟨.inr ⟨Vb (Y2 (O1 (Y1 f))) (Y2 t),none,0,rfl,a.out,.inr (.inl ⟨_,_,rfl⟩),kD _ (by show (Y2 (O1 (Y1 f))).size<=1048576;rw [J5];omega) (by show (Y2 t).size<=1048576;rw [J5];omega) rfl rfl rfl,⟨.inl rfl,.inl rfl⟩⟩,Q⟩
       · rw [show (decide (O1 f=[102,105,108,101]))=false from P9 k] at A;by_cases l:O1 f=Lh
         · rw [show (decide (O1 f=[100,114,111,112]))=true from y_ l] at o;have a:=U0 (aQ l);clear m d j k l;generalize Y2 (O1 f)=wd at*;go_wp2;go_ret2;exact ⟨.inr ⟨Xb (Y2 (Y1 f)),none,0,rfl,a.out,.inr (.inr (.inl ⟨_,rfl⟩)),kD _ (by show (Y2 (Y1 f)).size<=1048576;rw [J5];omega) (D5 _) rfl rfl rfl,⟨.inl rfl,.inl rfl⟩⟩,c⟩
         · rw [show (decide (O1 f=[100,114,111,112]))=false from P9 l] at o;by_cases n:O1 f=Ug
           · rw [show (decide (O1 f=[99,108,101,97,114]))=true from y_ n] at m;have a:=U0 (WL n);clear d j k l n;generalize Y2 (O1 f)=wd at*;by_cases B:(32:UInt8)∈f
             · rw [show decide ((32:UInt8)∉f)=false from P9 (fun h=>h B)] at a;rw [y_ B];go_wp2;go_ret2;exact ⟨.inl ⟨_,rfl,fun z=>⟨fun y p e=>absurd (a.out.1 y p e).1 O6,(fun h=>by cases h)⟩⟩,c⟩
             · rw [show decide ((32:UInt8)∉f)=true from y_ B] at a;rw [P9 B];go_wp2;go_ret2;exact ⟨.inr ⟨U_,none,0,rfl,a.out,.inr (.inr (.inr (.inr rfl))),kD _ (D5 _) (D5 _) rfl rfl rfl,⟨.inl rfl,.inl rfl⟩⟩,c⟩
           · rw [show (decide (O1 f=[99,108,101,97,114]))=false from P9 n] at m;have a:Hid (∀ z,aC [f] z false):=fun z=>mQ d j k l n z;clear d j k l n;generalize Y2 (O1 f)=wd at*;go_wp2;go_ret2;exact ⟨Sm a.out _ _,c⟩
   · have a:Hid (∀ z,aC (f::b) z false):=fun z=>dO d E z;have hbl:1<=b.length:=Gt.2 E;have hb1':decide (1<(b.length:Int)+1)=true:=U7;clear d C A o m;generalize Y2 (O1 f)=wd at*;go_wp2;go_ret2;exact ⟨Sm a.out _ _,c⟩
theorem JH:Inf prog 9 1:=Wy J3
theorem rX:Inf prog 113 3:=Wy J3
theorem GY:Inf prog 178 3:=Wy J3
variable {w u u':World} {base size n A k:Nat} {e t:TypeId} {v tv rv:Value} {xs vs:List Value}
theorem Nv {B:Nat} (h:B=w.heap.size):Cl (w.alloc (.cells xs.toArray t)) B t xs:=h▸G6 w xs t
theorem Za (h:w.ownsRow base e size v n xs):∃ a c,v=.slice a n c:=by
 rcases h.2 with ⟨rfl,rfl⟩ | ⟨g,cap,cur,rfl,_⟩
 · exact ⟨_,_,rfl⟩
 exact ⟨_,_,rfl⟩
theorem DI (h:w.ownsRow base e size v n xs) (a:v.ownBlock≠none):∃ g c,v=.slice (some ⟨g,0,none⟩) n c:=by
 rcases h.2 with ⟨rfl,rfl⟩ | ⟨g,cap,cur,rfl,_⟩
 · exact absurd rfl a
 exact ⟨_,_,rfl⟩
theorem qi {B:Nat} (h:Below B w u) (g:u.grownBy u' v.ownBlock) (hz:B<=u.heap.size) (hv:∀ k,v.ownBlock=some k->B<=k):Below B w u':=
 ⟨g.os.trans h.os,g.tape.trans h.tape,g.output.trans h.output,Q7 h.size g.size,fun k a=>(g.block k O0 (fun e=>by have:=hv k e.symm;omega)).trans (h.block k a)⟩
theorem row0 (w:World) (e:TypeId) (size:Nat) {B:Nat} (hB:B=w.heap.size) (a:base<=B):(w.alloc (.cells #[] e)).ownsRow base e size (.slice (some ⟨B,0,none⟩) 0 0) 0 []:=by
 subst hB;exact ⟨I4,.inr ⟨w.heap.size,0,#[],rfl,a,heap_alloc_new w _,Y9 _,O6,I4,I4⟩⟩
theorem xJ (h:w.ownsRow base e size v n xs) (a:∀ g,v.ownBlock=some g->u.heap[g]?=w.heap[g]?):Src u v size n xs:=by
 have hl:=h.1;rcases h.2 with ⟨rfl,rfl⟩ | ⟨g,d,cur,rfl,hb,c,hnc,hcm,hcs,b⟩
 · exact .inl ⟨⟨_,rfl⟩,rfl,Ya.1 (by rw [hl,Wq])⟩
 refine .inr ⟨⟨g,0,none⟩,d,rfl,hl,fun j x e=>?_⟩;rw [<- b,uz] at e;split at e;rotate_left
 · cases e
 rw [Vt,Lib.cell_of_heap ((a g rfl).trans c)];simpa using e
theorem Hz (h:w.ownsRow base e size v n xs) {j:Nat} {x:Value} (hx:xs[j]?=some x):∃ g c,v=.slice (some ⟨g,0,none⟩) n c/\g<w.heap.size/\w.cell? ⟨g,j,none⟩=some x:=by
 have hl:=h.1;rcases h.2 with ⟨rfl,rfl⟩ | ⟨g,d,cur,rfl,hb,a,hnc,hcm,hcs,b⟩
 · rw [Ya.1 (show xs.length=0 by rw [hl,Wq])] at hx;cases hx
 refine ⟨g,d,rfl,(D_.1 a).1,?_⟩;rw [<- b,uz] at hx;split at hx;rotate_left
 · cases hx
 rw [Lib.cell_of_heap a];simpa using hx
theorem mX {rs:List R3} (h:Gg w base v rs vs) (f:k<rs.length):∃ g c a d,v=.slice (some ⟨g,0,none⟩) rs.length c/\g<w.heap.size/\vs.getD k undef=.slice a (rs.getD k g_).gs.length d/\w.cell? ⟨g,k*3,none⟩=some (.string (rs.getD k g_).key)/\w.cell? ⟨g,k*3+1,none⟩=some (.slice a (rs.getD k g_).gs.length d)/\w.cell? ⟨g,k*3+2,none⟩=some (.string (rs.getD k g_).out)/\w.ownsRow base 178 3 (.slice a (rs.getD k g_).gs.length d) (rs.getD k g_).gs.length (gC (rs.getD k g_).gs):=by
 obtain ⟨m,i,a2⟩:=IW rs vs k f;obtain ⟨a,d,hv,hr⟩:=h.gl k f;rw [hv] at i;obtain ⟨g,c,rfl,j,e0⟩:=Hz h.row m;obtain ⟨_,_,e,_,e1⟩:=Hz h.row i;obtain ⟨_,_,b,_,l⟩:=Hz h.row a2;injection e with e;injection e with e;injection e with e;injection b with b;injection b with b;injection b with b;subst e b;exact ⟨g,c,a,d,rfl,j,hv,e0,e1,l,hr⟩
structure C7 (w:World) (A:Nat) (s:St) (tv rv tv' v2:Value) (P:List R3) (vs:List Value) (u:World):Prop where
 b:Below w.heap.size w u
 h0:Cl u w.heap.size 44 [.int .i64 s.wd,tv,rv]
 h1:Cl u (w.heap.size+1) 44 [.int .i64 0,.slice none 0 0,.slice none 0 0]
 ha:Cl u A 44 [.int .i64 s.wd,tv',v2]
 hA:w.heap.size+2<=A
 ht:u.ownsRow (w.heap.size+2) 9 1 tv' s.ts.length (s.ts.map .string)
 hr:Gg u (w.heap.size+2) v2 P vs
theorem C7.below {s:St} {tv' v2:Value} {P:List R3} (h:C7 w A s tv rv tv' v2 P vs u) (a:Below u.heap.size u u'):C7 w A s tv rv tv' v2 P vs u':=
 ⟨h.b.trans (a.mono h.b.size),h.h0.below a h.h0.lt,h.h1.below a h.h1.lt,h.ha.below a h.ha.lt,h.hA,own_below h.ht a,h.hr.keep (fun q t hT _ _=>a.block q (je hT))⟩
theorem Qb {B:Nat} (h:Cl w B t xs):Gf w B t:=⟨_,_,h⟩
theorem C7.make {s:St} {tv':Value} {W y z:World} (f:Below w.heap.size w W) (h0:Cl W w.heap.size 44 [.int .i64 s.wd,tv,rv]) (h1:Cl W (w.heap.size+1) 44 [.int .i64 0,.slice none 0 0,.slice none 0 0]) (a:W.heap.size=w.heap.size+2) (d:Below W.heap.size W y) (hA:w.heap.size+2<=A) (ht:y.ownsRow (w.heap.size+2) 9 1 tv' s.ts.length (s.ts.map .string)) (ho:vF A y z) (hc:Cl y A 44 xs) (c:Cl z A 44 [.int .i64 s.wd,tv',.slice none 0 0]):C7 w A s tv rv tv' (.slice none 0 0) [] [] z:=
 have hB:Below (w.heap.size+2) W z:=(a▸d).trans (ho.below hA)
 ⟨f.trans (hB.mono O0),h0.below hB O0,h1.below hB O0,c,hA,I7 ht (fun q b=>ho.block q (fun e=>absurd (X8 (Qb hc) (e▸Q8 ht b)) O6)),⟨rfl,ng _ _ _ _,fun i h=>absurd h (o9 _),fun i j h=>absurd h (o9 _)⟩⟩
theorem C7.app {s:St} {tv' v2 f:Value} {P:List R3} {y:R3} {g Z d:World} {v:OA} {o:Nat} (h:C7 w A s tv rv tv' v2 P vs u) (D:Below u.heap.size u g) (k:g.ownsRow (u.heap.size+1) 178 3 (.slice v y.gs.length o) y.gs.length (gC y.gs)) (n:Below g.heap.size g Z) (z:d.ownsRow (w.heap.size+2) 113 3 f (P.length+1) (rC P vs++[.string y.key,.slice v y.gs.length o,.string y.out])) (x:Z.grownBy d v2.ownBlock):
 C7 w A s tv rv tv' f (P++[y]) (vs++[.slice v y.gs.length o]) (d.setCell ⟨A,2,none⟩ f)/\Cl d A 44 [.int .i64 s.wd,tv',v2]:=by
 have i:=G7 D n;have c:=h.below i;have hu:=h.b.size;have ha:=h.ha.lt;have hA:=h.hA;have C:=qi (Z4 (w.heap.size+2) Z) x (by have:=i.size;omega) (fun j e=>P6 h.hr.row e);have kp:∀ q t,Gf Z q t->t≠113->d.heap[q]?=Z.heap[q]?:=fun q t hT ht=>x.block q (je hT) (fun e=>ht (X8 hT (Q8 c.hr.row e.symm)));have p:Cl d A 44 [.int .i64 s.wd,tv',v2]:=(kp A 44 (Qb c.ha) O6).trans c.ha;have m:=uh d A 2 f;have r:=C.trans (m.below hA);have l:∀ q t,Gf Z q t->t≠113->t≠44->(d.setCell ⟨A,2,none⟩ f).heap[q]?=Z.heap[q]?:=fun q t hT h1 h2=>(m.block q (fun e=>h2 (X8 (e▸hT) (Qb c.ha)))).trans (kp q t hT h1);refine ⟨⟨c.b.trans (r.mono O0),c.h0.below r O0,c.h1.below r O0,p.set 2 f,hA,I7 c.ht (fun q a=>l q 9 (Q8 c.ht a) O6 O6),?_⟩,p⟩;have B:=I7 z (fun q a=>m.block q (fun e=>absurd (X8 (Qb p) (e▸Q8 z a)) O6));have r7:=I7 (own_below k n) (fun q a=>l q 178 (Q8 (own_below k n) a) O6 O6);exact eG h.hr (H9 r7 O0) B (fun q a=>(l q 178 (a.below i (je a)) O6 O6).trans (i.block q (je a))) (fun q a=>by have:=P6 k a;omega)
theorem gm (ts:LB):∀ v∈ts.map Value.string,v.oneCell'=true:=fun v hv=>by
 obtain ⟨x,_,rfl⟩:=Jl.1 hv;rfl
theorem own_ne {v:Value} {q n c k:Nat} (h:v.ownBlock=(Value.slice (some ⟨q,0,none⟩) n c).ownBlock\/v.ownBlock=some k):v.ownBlock≠none:=by
 rcases h with h | h <;> rw [h] <;> exact fun e=>nomatch e
theorem jL {X j:Nat} {y:Value} (h:w.ownsRow base e size v n xs) (hv:v.ownBlock≠some X):(w.setCell ⟨X,j,none⟩ y).ownsRow base e size v n xs:=I7 h (fun q a=>(uh w X j y).block q (fun e=>hv (e▸a)))
theorem a0C {base':Nat} {rs:List R3} (h:Gg w base v rs vs) (a:base'<=base):Gg w base' v rs vs:=⟨h.len,H9 h.row a,fun i b=>(by obtain ⟨d,c3,e,c⟩:=h.gl i b;exact ⟨d,c3,e,H9 c a⟩),h.apart⟩
theorem xO {P rs:List R3} (h:P <+:rs) (hl:P.length<rs.length):P++[rs.getD P.length g_] <+:rs:=by
 obtain ⟨t,rfl⟩:=h
 cases t with
 | nil=>simp at hl
 | cons x r=>exact ⟨r,by simp [List.getD]⟩
theorem c160 (s:St) (b0:Nat) (tv rv:Value) (w:World) (htl:s.ts.length<=1000) (hrl:s.rs.length<=1000) (hgl:∀ i,(s.rs.getD i g_).gs.length<=1000) (hst:Jd w b0 s.ts s.rs tv rv):
 Calls prog 160 #[.agg #[.int .i64 s.wd,tv,rv]] w fun e w'=>(∃ g c ra rc,e=.returned (.agg #[.int .i64 s.wd,.slice (some ⟨g,0,none⟩) s.ts.length c,.slice ra s.rs.length rc])/\Jd w' w.heap.size s.ts s.rs (.slice (some ⟨g,0,none⟩) s.ts.length c) (.slice ra s.rs.length rc))/\Below w.heap.size w w':=by
 have HST:=U0 hst;obtain ⟨ta,tc,rfl⟩:=Za hst.1;obtain ⟨_,vs0,V⟩:=hst;obtain ⟨ra,rc,rfl⟩:=Za V.row;clear V;have HGL:=U0 hgl;clear hgl;go_enter func160,ntmps160
 go_upto_region 1 with fail
 obtain ⟨W,O⟩:∃ W:World,W=(w.alloc (.cells #[.int .i64 s.wd,.slice ta s.ts.length tc,.slice ra s.rs.length rc] 44)).alloc (.cells #[.int .i64 0,.slice none 0 0,.slice none 0 0] 44):=⟨_,rfl⟩;rw [<- O];have bW:Below w.heap.size w W:=by rw [O];exact o7.alloc I4 _
 have H0:Hid (Cl W w.heap.size 44 [.int .i64 s.wd,.slice ta s.ts.length tc,.slice ra s.rs.length rc]):=by show Cl _ _ _ _;rw [O];exact Oa (G6 w [_,_,_] 44) _
 have H1:Hid (Cl W (w.heap.size+1) 44 [.int .i64 0,.slice none 0 0,.slice none 0 0]):=by show Cl _ _ _ _;rw [O];exact Nv (xs:=[_,_,_]) I4
 have C:Hid (W.heap.size=w.heap.size+2):=by show _=_;rw [O];simp
 have n:Hid (∀ y,Below W.heap.size W y->y.cell? ⟨w.heap.size,0,none⟩=some (.int .i64 s.wd)/\y.cell? ⟨w.heap.size,1,none⟩=some (.slice ta s.ts.length tc)):=fun y d=>have h:=H0.out.below d H0.out.lt;⟨h.cell 0,h.cell 1⟩
 have HR:Hid (∀ y,Below W.heap.size W y->Src y (.slice ta s.ts.length tc) 1 s.ts.length (s.ts.map .string)):=fun y d=>xJ HST.out.1 (fun g hg=>(G7 bW d).block g (Ef HST.out.1 hg));clear O
 go_cut [3] from 3 (fun s3 wx=>∃ A g c,s3=.pointer (some ⟨A,0,none⟩)/\Hid (C7 w A s (.slice ta s.ts.length tc) (.slice ra s.rs.length rc) (.slice (some ⟨g,0,none⟩) s.ts.length c) (.slice none 0 0) [] [] wx))
 case first=>
  have hbd:Below W.heap.size W W.drew:=(Z4 _ _).drew;have HM:Hid (∀ (A:Nat) (tv':Value) (y z:World),Below W.heap.size W y->w.heap.size+2<=A->y.ownsRow (w.heap.size+2) 9 1 tv' s.ts.length (s.ts.map .string)->vF A y z->Cl y A 44 [.int .i64 0,.slice none 0 0,.slice none 0 0]->Cl z A 44 [.int .i64 s.wd,tv',.slice none 0 0]->C7 w A s (.slice ta s.ts.length tc) (.slice ra s.rs.length rc) tv' (.slice none 0 0) [] [] z):=fun A tv' y z h1 h2 h3 h4 h5 I=>C7.make bW H0.out H1.out C.out h1 h2 h3 h4 h5 I;refine wp_region_held_drew (S:=fun u=>u.cell? ⟨w.heap.size,0,none⟩=some (.int .i64 s.wd)/\u.cell? ⟨w.heap.size,1,none⟩=some (.slice ta s.ts.length tc)) J3 (n.out _ hbd) fun hH=>?_;refine tq 0 hH ?_;refine tq 1 hH ?_;refine tq 3 hH ?_;refine Y0 4 ?_;have hz2:=jq C.out.symm;refine wpAnyH_ready (rs:=[2,7]) J3 I4 (AllReadyH.cons (o:=⟨some 8,.buildSlice 22 0 #[],22,_,_,none⟩) rfl (fun K a=>?_) (AllReadyH.cons (o:=⟨some 3,.alloc 44,0,_,_,none⟩) rfl (fun K a=>?_) AllReadyH.nil))
  · go_simp;obtain ⟨y,d⟩:∃ q:World,q=(W.alloc (.cells #[] 9)).drew:=⟨_,rfl⟩;rw [<- d];have k:Below W.heap.size W y:=by rw [d];exact o7.drew
    have R1:Hid (y.ownsRow (w.heap.size+2) 9 1 (.slice (some ⟨W.heap.size,0,none⟩) 0 0) 0 []):=by show World.ownsRow _ _ _ _ _ _ _;rw [d];exact row0 W 9 1 rfl hz2
    clear d;refine J8 a (n.out _ k) fun hH=>?_;clear a K;refine wpAnyH_ready (rs:=[5,7]) J3 I4 (AllReadyH.cons (o:=⟨some 11,.call ⟨.builtin .append,#[.tmp 8,.tmp 10],#[22,22]⟩,22,_,_,none⟩) rfl (fun K a=>?_) (AllReadyH.cons (o:=⟨some 3,.alloc 44,0,_,_,none⟩) rfl (fun K a=>?_) AllReadyH.nil))
    · refine Pm rfl _ _ 22 rfl (w.heap.size+2) 9 1 underlying22 JH O6 (.slice (some ⟨W.heap.size,0,none⟩) 0 0) 0 [] rfl R1.out _ s.ts.length (s.ts.map .string) rfl (HR.out _ k) (gm _) O0 (by have:=k.size;omega) ?_;intro v F l r E;rw [E8,M_] at l;obtain ⟨g,c,rfl⟩:=DI l (own_ne E);have bg:=qi (Z4 (w.heap.size+2) _) r (by have:=k.size;omega) (fun j e=>P6 R1.out e);have f:=k.trans (C.out.symm▸bg);have OV:=U0 l;have gq:=r;clear l r E;refine J8 a (n.out _ f) fun hH=>?_;clear a K;refine Y0 6 ?_;refine rq 7 fun K a=>?_;go_simp;obtain ⟨y3,d⟩:∃ q:World,q=F.alloc (.cells #[.int .i64 0,.slice none 0 0,.slice none 0 0] 44):=⟨_,rfl⟩;have b3:Below W.heap.size W y3:=by rw [d];exact f.alloc f.size _
      have m:Hid (Cl y3 F.heap.size 44 [.int .i64 0,.slice none 0 0,.slice none 0 0]):=by show Cl _ _ _ _;rw [d];exact G6 _ [_,_,_] 44
      rw [<- d];have O3:=U0 (own_below OV.out (u':=y3) (by rw [d];exact o7));clear d;refine J8 a (n.out _ b3) fun hH=>?_;clear a K;refine rq 8 fun K a=>?_;refine Ik rfl 44 _ _ rfl (B:=F.heap.size) (j:=0) rfl (vs:=[.int .i64 s.wd,.slice (some ⟨g,0,none⟩) s.ts.length c,.slice none 0 0]) rfl m.out x9 (by simp [Value.oneCell']) J3 ?_;intro z J p;have U:=U0 (HM.out _ _ _ _ b3 (by have:=f.size;omega) O3.out p m.out J);refine J8 a (n.out _ (b3.trans (p.below (by have:=k.size;have:=f.size;omega)))) fun hH=>?_;clear a K;refine wdn ?_
      go_wp2_with fail
      go_meet
      case rel=>exact ⟨_,_,_,rfl,U⟩
    go_simp;obtain ⟨N,d⟩:∃ q:World,q=y.alloc (.cells #[.int .i64 0,.slice none 0 0,.slice none 0 0] 44):=⟨_,rfl⟩;have x:Below W.heap.size W N:=by rw [d];exact k.alloc k.size _
    have m:Hid (Cl N y.heap.size 44 [.int .i64 0,.slice none 0 0,.slice none 0 0]):=by show Cl _ _ _ _;rw [d];exact G6 _ [_,_,_] 44
    rw [<- d];have L:=U0 (own_below R1.out (u':=N) (by rw [d];exact o7));clear d;refine J8 a (n.out _ x) fun hH=>?_;clear a K;refine rq 5 fun K a=>?_;refine Pm rfl _ _ 22 rfl (w.heap.size+2) 9 1 underlying22 JH O6 (.slice (some ⟨W.heap.size,0,none⟩) 0 0) 0 [] rfl L.out _ s.ts.length (s.ts.map .string) rfl (HR.out _ x) (gm _) O0 (by have:=x.size;omega) ?_;intro v F l r E;rw [E8,M_] at l;obtain ⟨g,c,rfl⟩:=DI l (own_ne E);have bg:=qi (Z4 (w.heap.size+2) _) r (by have:=x.size;omega) (fun j e=>P6 L.out e);have f:=x.trans (C.out.symm▸bg);have OV:=U0 l;have gq:=r;clear l r E;refine J8 a (n.out _ f) fun hH=>?_;clear a K;refine Y0 6 ?_;have CV:Hid (Cl F y.heap.size 44 [.int .i64 0,.slice none 0 0,.slice none 0 0]):=(gq.block _ m.out.lt (fun e=>absurd (X8 (Qb m.out) (Q8 L.out e.symm)) O6)).trans m.out;refine rq 8 fun K a=>?_;refine Ik rfl 44 _ _ rfl (B:=y.heap.size) (j:=0) rfl (vs:=[.int .i64 s.wd,.slice (some ⟨g,0,none⟩) s.ts.length c,.slice none 0 0]) rfl CV.out x9 (by simp [Value.oneCell']) J3 ?_;intro z J p;have U:=U0 (HM.out _ _ _ _ f (by have:=k.size;omega) OV.out p CV.out J);refine J8 a (n.out _ (f.trans (p.below (by have:=k.size;have:=f.size;omega)))) fun hH=>?_;clear a K;refine wdn ?_
    go_wp2_with fail
    go_meet
    case rel=>exact ⟨_,_,_,rfl,U⟩
  go_simp;obtain ⟨y,d⟩:∃ q:World,q=(W.alloc (.cells #[.int .i64 0,.slice none 0 0,.slice none 0 0] 44)).drew:=⟨_,rfl⟩;have k:Below W.heap.size W y:=by rw [d];exact o7.drew
  have m:Hid (Cl y W.heap.size 44 [.int .i64 0,.slice none 0 0,.slice none 0 0]):=by show Cl _ _ _ _;rw [d];exact G6 _ [_,_,_] 44
  rw [<- d];have hys:=m.out.lt;clear d;refine J8 a (n.out _ k) fun hH=>?_;clear a K;refine rq 2 fun K a=>?_;go_simp;obtain ⟨N,d⟩:∃ q:World,q=y.alloc (.cells #[] 9):=⟨_,rfl⟩;rw [<- d];have hbb:Below y.heap.size y N:=by rw [d];exact o7
  have x:=G7 k hbb;have L:Hid (N.ownsRow (w.heap.size+2) 9 1 (.slice (some ⟨y.heap.size,0,none⟩) 0 0) 0 []):=by show World.ownsRow _ _ _ _ _ _ _;rw [d];exact row0 y 9 1 rfl O0
  have m:=U0 (m.out.below hbb m.out.lt);clear d;refine J8 a (n.out _ x) fun hH=>?_;clear a K;refine rq 5 fun K a=>?_;refine Pm rfl _ _ 22 rfl (w.heap.size+2) 9 1 underlying22 JH O6 (.slice (some ⟨y.heap.size,0,none⟩) 0 0) 0 [] rfl L.out _ s.ts.length (s.ts.map .string) rfl (HR.out _ x) (gm _) O0 (by have:=x.size;omega) ?_;intro v F l r E;rw [E8,M_] at l;obtain ⟨g,c,rfl⟩:=DI l (own_ne E);have bg:=qi (Z4 (w.heap.size+2) _) r (by have:=x.size;omega) (fun j e=>P6 L.out e);have f:=x.trans (C.out.symm▸bg);have OV:=U0 l;have gq:=r;clear l r E;refine J8 a (n.out _ f) fun hH=>?_;clear a K;refine Y0 6 ?_;have CV:Hid (Cl F W.heap.size 44 [.int .i64 0,.slice none 0 0,.slice none 0 0]):=(gq.block _ m.out.lt (fun e=>absurd (X8 (Qb m.out) (Q8 L.out e.symm)) O6)).trans m.out;refine rq 8 fun K a=>?_;refine Ik rfl 44 _ _ rfl (B:=W.heap.size) (j:=0) rfl (vs:=[.int .i64 s.wd,.slice (some ⟨g,0,none⟩) s.ts.length c,.slice none 0 0]) rfl CV.out x9 (by simp [Value.oneCell']) J3 ?_;intro z J p;have U:=U0 (HM.out _ _ _ _ f hz2 OV.out p CV.out J);refine J8 a (n.out _ (f.trans (p.below (by have:=k.size;have:=f.size;omega)))) fun hH=>?_;clear a K;refine wdn ?_
  go_wp2_with fail
  go_meet
  case rel=>exact ⟨_,_,_,rfl,U⟩
 obtain ⟨A,g,c,rfl,HC⟩:=hcut;clear n HR H0 H1 C bW
 go_wp2_with fail
 go_loopw [4] (fun i wr=>∃ (P:List R3) (v2:Value) (vs:List Value),i=.int .i64 P.length/\P.length<=s.rs.length/\Hid (P <+:s.rs)/\Hid (C7 w A s (.slice ta s.ts.length tc) (.slice ra s.rs.length rc) (.slice (some ⟨g,0,none⟩) s.ts.length c) v2 P vs wr)) (fun i _=>s.rs.length - (intOf i).toNat)
 case atStart=>exact ⟨[],_,_,rfl,D5 _,List.nil_prefix,HC⟩
 obtain ⟨P,v2,vs,rfl,hk,hP,H⟩:=hrel;obtain ⟨a2,c2,rfl⟩:=Za H.out.hr.row;have d0:=H.out.h0.cell 2;have k0:=H.out.ha.cell 0;have k1:=H.out.ha.cell 1;have k2:=H.out.ha.cell 2;simp only [@gz Value] at d0 k0 k1 k2;by_cases hlt:P.length<s.rs.length;rotate_left
 · have hPe:=List.IsPrefix.eq_of_length hP.out O0;subst hPe
   go_wp2_with (refine Z8 rfl 44 _ _ rfl (B:=w.heap.size+1) (j:=0) rfl (vs:=[.int .i64 s.wd,.slice (some ⟨g,0,none⟩) s.ts.length c,.slice a2 s.rs.length c2]) rfl H.out.h1 x9 (by simp [Value.oneCell']) J3 ?_;intro z J p)
   have kz:∀ q t,Gf wr q t->t≠44->z.heap[q]?=wr.heap[q]?:=fun q t hT h=>p.block q (fun e=>h (X8 (e▸hT) (Qb H.out.h1)));exact P7 (v:=.agg #[.int .i64 s.wd,.slice (some ⟨g,0,none⟩) s.ts.length c,.slice a2 s.rs.length c2]) (b_ (P:=prog) (ty:=44) rfl _ z (w.heap.size+1) [.int .i64 s.wd,.slice (some ⟨g,0,none⟩) s.ts.length c,.slice a2 s.rs.length c2] _ rfl J.blk underlying44 rfl J3) rfl ⟨⟨_,_,_,_,rfl,H9 (I7 H.out.ht (fun q hq=>kz q 9 (Q8 H.out.ht hq) O6)) O0,vs,a0C (H.out.hr.keep (fun q t hT ht _=>kz q t hT (by rcases ht with rfl | rfl <;> decide))) O0⟩,H.out.b.trans (p.below O0)⟩
 obtain ⟨_,vs0,V⟩:=yw HST.out H.out.b;obtain ⟨g5,c18,ga,gd,hrv,hg5,_,e0,e1,e2,hgr⟩:=mX V hlt;obtain ⟨rfl,rfl⟩:ra=some ⟨g5,0,none⟩/\rc=c18:=by injection hrv with h1 _ h3;exact ⟨h1,h3⟩
 have hn:=HGL.out P.length;have HPY:=U0 (xO hP.out hlt);generalize s.rs.getD P.length g_=y at*;have HGR:=U0 hgr;clear V hgr hrv hP;obtain ⟨Y,X⟩:∃ Y:World,Y=(wr.alloc (.cells #[.string y.key,.slice ga y.gs.length gd,.string y.out] 113)).alloc (.cells #[] 178):=⟨_,rfl⟩;have bY:Below wr.heap.size wr Y:=by rw [X];exact o7.alloc I4 _
 have CX:Hid (Cl Y wr.heap.size 113 [.string y.key,.slice ga y.gs.length gd,.string y.out]):=by show Cl _ _ _ _;rw [X];exact Oa (G6 wr [_,_,_] 113) _
 have RX:Hid (Y.ownsRow (wr.heap.size+1) 178 3 (.slice (some ⟨wr.heap.size+1,0,none⟩) 0 0) 0 []):=by show World.ownsRow _ _ _ _ _ _ _;rw [X];exact row0 _ 178 3 I4 x9
 have SX:=U0 (xJ HGR.out (u:=Y) (fun q hq=>bY.block q (Ef HGR.out hq)));have hYs:=CX.out.lt
 go_upto_region 7 with (at_builtin;rw [<- X];refine dI rfl _ _ 111 rfl (wr.heap.size+1) 178 3 underlying111 GY O6 (.slice (some ⟨wr.heap.size+1,0,none⟩) 0 0) 0 [] rfl RX.out _ y.gs.length (gC y.gs) rfl SX.out (WR y.gs) O0 O0 ?_;intro v5 y5 O5 gw _;rw [E8,M_] at O5;obtain ⟨R,Q,rfl⟩:=Za O5;have b5:=qi (Z4 (wr.heap.size+1) Y) gw O0 (fun j e=>P6 RX.out e);have C5:=CX.out.below b5 O0;have n1:=C5.cell 1;have nf:=C5.opn 1;simp only [@gz Value] at n1;clear gw)
 obtain ⟨D,I⟩:∃ q:World,q=y5.setCell ⟨wr.heap.size,1,none⟩ (.slice R y.gs.length Q):=⟨_,rfl⟩;rw [<- I];have b6:Below wr.heap.size wr D:=by rw [I];exact (bY.trans (b5.mono O0)).setCell x9 _
 have C6:Hid (Cl D wr.heap.size 113 [.string y.key,.slice R y.gs.length Q,.string y.out]):=by show Cl _ _ _ _;rw [I];exact C5.set 1 _
 have R6:Hid (D.ownsRow (wr.heap.size+1) 178 3 (.slice R y.gs.length Q) y.gs.length (gC y.gs)):=by show World.ownsRow _ _ _ _ _ _ _;rw [I];exact jL O5 (fun e=>by have:=P6 O5 e;omega)
 have H6:=U0 (H.out.below b6);clear I n1 nf C5 O5 b5 SX RX CX hYs bY X d0 k0 k1 k2 e0 e1 e2;have k2:=H6.out.ha.cell 2;have x0:=C6.out.cell 0;have x1:=C6.out.cell 1;have x2:=C6.out.cell 2;simp only [@gz Value] at k2 x0 x1 x2;obtain ⟨Z,hZ⟩:∃ q:World,q=D.alloc (.cells #[.string y.key,.slice R y.gs.length Q,.string y.out] 113):=⟨_,rfl⟩;have bZ:Below D.heap.size D Z:=by rw [hZ];exact o7
 have CZ:Hid (Cl Z D.heap.size 113 [.string y.key,.slice R y.gs.length Q,.string y.out]):=by show Cl _ _ _ _;rw [hZ];exact G6 _ [_,_,_] 113
 have C:=U0 (H6.out.below bZ);have hb0:w.heap.size+2<=Z.heap.size:=by have:=C.out.ha.lt;have:=C.out.hA;omega
 go_wp2_with (at_builtin;rw [<- hZ];refine dI rfl _ _ 42 rfl (w.heap.size+2) 113 3 underlying42 rX O6 (.slice a2 P.length c2) P.length (rC P vs) rfl C.out.hr.row _ 1 [.string y.key,.slice R y.gs.length Q,.string y.out] rfl (.inr ⟨⟨D.heap.size,0,none⟩,1,rfl,rfl,pI CZ.out⟩) (by simp [Value.oneCell']) O0 hb0 ?_;intro v7 y7 O7 g7 _;obtain ⟨a7,c35,rfl⟩:=Za O7;obtain ⟨hN,hN2⟩:=H.out.app b6 R6.out bZ O7 g7;have m1:=hN2.cell 2;have m2:=hN2.opn 2;simp only [@gz Value] at m1;have HN:=U0 hN;clear O7 g7 hN hN2)
 go_roundw
 case rel=>exact ⟨P++[y],_,_,by rw [N9];go_num,by rw [N9];simp;omega,HPY,HN⟩
 case measure=>simp [intOf];omega
