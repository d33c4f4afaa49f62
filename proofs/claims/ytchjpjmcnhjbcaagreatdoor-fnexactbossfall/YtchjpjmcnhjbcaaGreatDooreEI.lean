import Derived.Test.YtchjpjmcnhjbcaaGreatDooreR9
set_option linter.unusedVariables false
set_option maxHeartbeats 8000000
set_option maxRecDepth 100000
set_option linter.unusedSimpArgs false
namespace Go.Proofs.YtchjpjmcnhjbcaaGreatDoor
open Proofs.Tryz Go.RowKit
variable {W W':World} {base:Nat} {ts:LB} {rs:List R3} {rv tv:Value}
def qU (x:g_) (ai:OA) (ci:Nat):Value:=if x.kd=1 then .iface 225 (.int .i64 x.ep) else if x.kd=2 then .iface 226 (.agg #[.string x.fn,.string x.ft]) else if x.kd=3 then .iface 227 (.string x.fn) else if x.kd=4 then .iface 229 (.agg #[.string x.km.nm,.string x.km.tl,.string x.km.ar,.slice ai x.ls.length ci,.int .i64 x.cd,.string x.tx]) else .iface 232 (.agg #[])
def ShE (x:g_):Prop:=(∃ n,x=h_ n)\/(∃ a b,x=Ib a b)\/(∃ a,x=Nb a)\/(∃ m ls c t,x=og m ls c t)\/x=P_
theorem Qg.bel {w w':World} {B:Nat} {ao:OA} {is:List L4} (h:Qg w B ao is) (a:Bw w w'):Qg w' B ao is:=
 ⟨l7 h.at' a,h.own.imp id fun ⟨g,h1,h2,b⟩=>⟨g,h1,h2,b.below a⟩⟩
def yZ (L:List (List UInt8)) (w w':World) (e:Ending):Prop:=(∃ v,e=.returned (.tuple #[v,.bool false])/\∀ z,yC L z false)\/(∃ (x:g_) (ai:OA) (ci:Nat),e=.returned (.tuple #[qU x ai ci,.bool true])/\yC L x true/\ShE x/\x.le 1048576/\Qg w' w.heap.size ai x.ls)
theorem Jm {L:List (List UInt8)} (h:∀ z,yC L z false) (w w':World):yZ L w w' (.returned (.tuple #[.nilIface,.bool false])):=.inl ⟨_,rfl,h⟩
theorem c206 (f p:List UInt8) (b:List (List UInt8)) (g o F:Nat) (w:World) (U:Y1 f=p) (hw:O1 f=Wj) (hs:p.length<=16000) (E:Dc w) (hb:b.length<=16001) (hcp:b.length<=F) (B:Ai w g o b) (K:∀ i,i<b.length->(b.getD i []).length<=16000):
 Calls prog 206 #[.string (J3 p),.slice (some ⟨g,o,none⟩) b.length F] w fun e w'=>yZ (f::b) w w' e/\Bw w w':=by
 rcases xC b with q | ⟨j,last,q⟩
 · subst q;have n:Hid (∀ z,yC [f] z false):=fun z=>yQ hw z;go_enter func206,ntmps206;go_wp2;go_ret2;exact ⟨Jm n.out _ _,Z4 _ _⟩
 · rw [xB] at q;have HL:=U0 B;have hlen:b.length=j.length+1:=by rw [q];simp
   have a4V:Ai w g o j:=⟨B.1,fun i J=>(B.2 i O0).trans (by rw [q];simp only [Fj];rw [S_ J])⟩;have cl:w.cell? (aA g (o+j.length))=some (vS (J3 last)):=(B.2 j.length O0).trans (by rw [q];simp only [Fj];rw [Ue H8];simp);have a5W:∀ i,i<j.length->(j.getD i []).length<=16000:=fun i J=>by
    have h:=K i O0;rw [q] at h;simp only [Fj] at h ⊢;rw [S_ J] at h;exact h
   have hll:last.length<=16000:=by
    have h:=K j.length O0;rw [q] at h;simp only [Fj] at h;rw [Ue H8] at h;simpa using h
   have hg:=B.1;clear B K;have hne:¬ (b.length=0):=O0;have hbl:j.length<=16000:=O0;have hcp2:j.length+1<=F:=O0;rw [hlen];go_enter func206,ntmps206;have hwr:wrap64 (j.length:Int)=(j.length:Int):=IntWalk.wrap64_in _ O0;have N:=fun (m:M3) (ls:List L4) (c:Int) (t:BY) (o1 o2 o3:Bool) hm hl hr=>gU (f:=f) (g:=last) (b:=j) (m:=m) (ls:=ls) (c:=c) (t:=t) (o1:=o1) (o2:=o2) (o3:=o3) hw hm hl hr;rw [U,<- q] at N;clear q U hw
   go_wp2_with fail
   refine (c226 p _ hs E).mono ?_;rintro e d ⟨⟨m,o1,rfl,hm⟩,L⟩;have hm1:=x9 E L;have hz1:=L.size;unfold M3.v;have H:=fun I=>L.alloc hz1 I;have cl1:=fun I=>((H I).cell (p:=(aA g (o+j.length))) hg).trans cl;have hcc:¬ F<j.length:=O0
   go_wp2_with fail
   refine (a3j g o F j _ (x9 E (H _)) (oq a4V (H _)) a5W O0).mono ?_;rintro e D ⟨⟨ls,o2,ao,ac,rfl,S,a5X,hlc,X⟩,A⟩;have s:(d.alloc (.cells #[vS m.nm,vS m.tl,vS m.ar] 135)).heap.size=d.heap.size+1:=X4;have hz2:d.heap.size+1<=D.heap.size:=by have h:=A.size;rw [s] at h;exact h
   have hB2:=(H _).trans (A.mono (by rw [s];omega));have cl2:=(A.cell (p:=(aA g (o+j.length))) (by rw [s];show g<_;omega)).trans (cl1 _);have m0:D.cell? (aW d 0)=some (vS m.nm):=(A.cell (p:=(aW d 0)) (by rw [s];exact yu _)).trans (by simp [go_sem]);have Q:D.cell? (aW d 1)=some (vS m.tl):=(A.cell (p:=(aW d 1)) (by rw [s];exact yu _)).trans (by simp [go_sem]);have P:D.cell? (aW d 2)=some (vS m.ar):=(A.cell (p:=(aW d 2)) (by rw [s];exact yu _)).trans (by simp [go_sem]);have W:Qg D w.heap.size ao ls:=X.mono (by rw [s];omega);have hm2:=x9 E hB2;have hrs:=D8 last;clear A cl1 X hm1
   go_wp2_with fail
   refine (yL last _ O0 hm2).mono ?_;rintro e w3 ⟨⟨y,rfl⟩,x⟩;have Z:=X5 hB2 x;have hm3:=x9 E Z;have V:=Qg.bel W x;have O:=(x.cell (p:=(aW d 0)) (by show d.heap.size<_;omega)).trans m0;have n1:=(x.cell (p:=(aW d 1)) (by show d.heap.size<_;omega)).trans Q;have n2:=(x.cell (p:=(aW d 2)) (by show d.heap.size<_;omega)).trans P;have hz3:=x.size;clear x m0 Q P cl2 W
   go_wp2_with fail
   refine (a0I (Y1 last) _ O0 hm3).mono ?_;rintro e w4 ⟨⟨c,t,o3,rfl,R,hts⟩,u⟩;have l:=X5 Z u;have a5Y:=Qg.bel V u;have p0:=(u.cell (p:=(aW d 0)) (by show d.heap.size<_;omega)).trans O;have p1:=(u.cell (p:=(aW d 1)) (by show d.heap.size<_;omega)).trans n1;have p2:=(u.cell (p:=(aW d 2)) (by show d.heap.size<_;omega)).trans n2;have hz4:=u.size;have hR:=N m ls c t o1 o2 o3 hm S R;have Y:o1=true->m.le 1048576:=fun h=>by
    have a:=UE (hm.1 h).1;simp only [wu,ByteArray.size_data] at a;exact ⟨O0,O0,O0⟩
   have hgv:((J3 (O1 last)).toList==[103,97,118,101])=decide (O1 last=Cf):=by
    rw [ByteArray.toList_eq,L9];by_cases h:O1 last=Cf
    · rw [C_ h,h];rfl
    · rw [S9 h];exact p_.2 h
   have r:(o1=false\/o2=false\/decide (O1 last=Cf)=false\/o3=false)->Hid (∀ z,yC (f::b) z false):=fun h=>hR.2 (fun k=>by
    rcases h with h | h | h | h
    · rw [h] at k;cases k.1
    · rw [h] at k;cases k.2.1
    · rw [Ar] at h;exact h k.2.2.1
    · rw [h] at k;cases k.2.2.2)
   have C:o1=true->o2=true->decide (O1 last=Cf)=true->o3=true->Hid (yC (f::b) (og m ls c t) true):=fun h1 h2 h3 h4=>hR.1 h1 h2 (TI h3) h4;clear u N hR hm S R O n1 n2 V;generalize decide (O1 last=Cf)=gv at*;generalize J3 (O1 last)=wl at*;cases o1
   · have n:=r (.inl rfl);clear r C;go_wp2
     all_goals go_ret2
     all_goals exact ⟨Jm n.out _ _,by first | exact l | exact l.alloc l.size _⟩
   · cases o2
     · have n:=r (.inr (.inl rfl));clear r C;go_wp2
       all_goals go_ret2
       all_goals exact ⟨Jm n.out _ _,by first | exact l | exact l.alloc l.size _⟩
     · cases gv
       · have n:=r (.inr (.inr (.inl rfl)));clear r C;go_wp2
         all_goals go_ret2
         all_goals exact ⟨Jm n.out _ _,by first | exact l | exact l.alloc l.size _⟩
       · cases o3
         · have n:=r (.inr (.inr (.inr rfl)));clear r C;go_wp2
           all_goals go_ret2
           all_goals exact ⟨Jm n.out _ _,by first | exact l | exact l.alloc l.size _⟩
         · have n:=C rfl rfl rfl rfl;have HKS:=Y rfl;clear r C Y;have q0:=past (p:=(aW d 0)) (by show d.heap.size<_;omega) p0;have q1:=past (p:=(aW d 1)) (by show d.heap.size<_;omega) p1;have q2:=past (p:=(aW d 2)) (by show d.heap.size<_;omega) p2;go_wp2;go_ret2;exact ⟨.inr ⟨og m ls c t,ao,ac,rfl,n.out,.inr (.inr (.inr (.inl ⟨m,ls,c,t,rfl⟩))),⟨J4 _,J4 _,HKS,⟨by show ls.length<=1048576;omega,a5X⟩,hts⟩,a5Y.bel P6⟩,l.alloc l.size _⟩
theorem kD (x:g_) (h1:x.fn.size<=1048576) (h2:x.ft.size<=1048576) (c:x.km=D_) (b:x.ls=[]) (a:x.tx=⟨#[]⟩):x.le 1048576:=by
 refine ⟨h1,h2,?_,?_,?_⟩
 · rw [c];exact ⟨J4 _,J4 _,J4 _⟩
 · rw [b];exact ⟨J4 _,fun _=>⟨J4 _,J4 _⟩⟩
 · rw [a];exact J4 _
theorem Oo (l w:List UInt8):((J3 (O1 l)).toList==w)=decide (O1 l=w):=by
 rw [ByteArray.toList_eq,L9];by_cases h:O1 l=w
 · rw [C_ h,h];simp
 · rw [S9 h];exact p_.2 h
theorem EX (l:List UInt8) (w:World) (hs:l.length<=1048700) (hm:Dc w):
 Calls prog 201 #[.string (J3 l),.string ⟨#[32]⟩] w fun e w'=>e=.returned (.tuple #[.string (J3 (O1 l)),.string (J3 (Y1 l)),.bool (decide ((32:UInt8)∈l))])/\Bw w w':=by
 obtain ⟨_,m,hm⟩:=hm;refine (Tryz.strings_Cut (J3 l) ⟨#[32]⟩ m w (by rw [I5];omega) hm).mono ?_;rintro e w' ⟨rfl,n,rfl⟩;refine ⟨?_,below_drewN n⟩;have b:(Lib.cut l [32]).2.2=decide ((32:UInt8)∈l):=by
  unfold Lib.cut;rcases Gs l with ⟨h,a⟩ | ⟨i,h,hm,_,_⟩
  · rw [h,I7 O0,S9 a]
  · rw [h,X7 O0,C_ hm]
 rw [<- MH,<- dD,<- b];rfl
theorem c154 (f:List UInt8) (b:List (List UInt8)) (g:Nat) (w:World) (hs:f.length<=16000) (I:Dc w) (hb:b.length<=16001) (s:Ai w g 0 (f::b)) (P:∀ i,i<b.length->(b.getD i []).length<=16000):
 Calls prog 154 #[.slice (some ⟨g,0,none⟩) (b.length+1) (b.length+1)] w fun e w'=>yZ (f::b) w w' e/\Bw w w':=by
 have c0:w.cell? (aA g 0)=some (vS (J3 f)):=s.2 0 X4;have L:Ai w g 1 b:=⟨s.1,fun i O=>by
  have h:=s.2 (i+1) U7;rw [L8] at h;rw [Nat.add_comm 1 i,h];rfl⟩
 have hg:=s.1;obtain ⟨o1,ho1,K⟩:∃ o1,(if b=[] then some (aA g 0) else some (aA g 1))=some (aA g o1)/\Ai w g o1 b:=by
  by_cases H:b=[]
  · exact ⟨0,by rw [X7 H],hg,fun i O=>by subst H;cases O⟩
  · exact ⟨1,by rw [I7 H],L⟩
 have hrs:=D8 f;have Y:=U0 P;clear s L P;go_enter func154,ntmps154
 go_wp2_with fail
 refine (EX f _ O0 I).mono ?_;rintro e w1 ⟨rfl,c⟩;have J:=x9 I c;have N:=oq K c;have V:=Oo f [114,97,110];have C:=Oo f [101,112,111,99,104];have A:=Oo f [102,105,108,101];have o:=Oo f [100,114,111,112];have m:=Oo f [99,108,101,97,114];by_cases d:O1 f=Wj
 · rw [show (decide (O1 f=[114,97,110]))=true from C_ d] at V;have h44:=fun u=>c206 f (Y1 f) b g o1 b.length u rfl d O0;clear C A o m;generalize J3 (O1 f)=wd at*;have hif:¬ ((b.length:Int)+1<1):=O0
   go_wp2_with fail
   refine (h44 _ J hb H8 N Y.out).mono ?_;rintro e D ⟨hr,F⟩;have R:=X5 c F;rcases hr with ⟨v,rfl,r⟩ | ⟨x,W,ci,rfl,h1,h2,U,S⟩
   · have a:=U0 r;clear r;go_wp2;go_ret2;exact ⟨.inl ⟨v,rfl,a.out⟩,R⟩
   · have a:Hid (yC (f::b) x true/\ShE x/\x.le 1048576/\Qg D w.heap.size W x.ls):=⟨h1,h2,U,S.mono c.size⟩;clear h1 h2 U S;go_wp2;go_ret2;exact ⟨.inr ⟨x,W,ci,rfl,a.out.1,a.out.2.1,a.out.2.2.1,a.out.2.2.2⟩,R⟩
 · rw [show (decide (O1 f=[114,97,110]))=false from S9 d] at V;by_cases E:b=[]
   · subst E;clear N K ho1 Y;by_cases j:O1 f=Bd
     · rw [show (decide (O1 f=[101,112,111,99,104]))=true from C_ j] at C;have a:=U0 (GN j);clear A o m d j;generalize J3 (O1 f)=wd at*
       go_wp2_with fail
       refine (wX 200 (J3 (Y1 f)) _ (by rw [I5];omega) O0 O0).mono ?_;rintro e D ⟨rfl,rfl⟩;rw [L9];cases r:Ih 200 (Y1 f)
       · rw [r] at a;go_wp2;go_ret2;exact ⟨.inl ⟨_,rfl,fun z=>⟨fun y p e=>absurd (a.out.1 y p e).1 o6,(fun h=>by cases h)⟩⟩,c⟩
       · rw [r] at a;go_wp2;go_ret2;exact ⟨.inr ⟨h_ (xH 200 (Y1 f)),none,0,rfl,a.out,.inl ⟨_,rfl⟩,kD _ (J4 _) (J4 _) rfl rfl rfl,⟨.inl rfl,.inl rfl⟩⟩,c⟩
     · rw [show (decide (O1 f=[101,112,111,99,104]))=false from S9 j] at C;by_cases k:O1 f=Jh
       · rw [show (decide (O1 f=[102,105,108,101]))=true from C_ k] at A;have X:=fun t ok q=>jT (f:=f) (t:=t) (ok:=ok) k q;have a4O:=D8 (Y1 f);clear o m d j k;generalize J3 (O1 f)=wd at*
         go_wp2_with fail
         refine (EX (Y1 f) _ O0 J).mono ?_;rintro e D ⟨rfl,F⟩
         go_wp2_with fail
         refine (xO (Y1 (Y1 f)) _ O0).mono ?_;rintro e w3 ⟨⟨t,ok,rfl,q⟩,hb3⟩;have a:=U0 (X t ok q);have Z:ok=true->t.length<=16000:=fun h=>by
          have:=Xm t;rw [<- q.1 h] at this;omega
         have Q:=c.trans ((X5 F hb3).mono c.size);clear q X;cases ok
         · go_wp2;go_ret2;exact ⟨.inl ⟨_,rfl,fun z=>⟨fun y p e=>absurd (a.out.1 y p e).1 o6,(fun h=>by cases h)⟩⟩,Q⟩
         · have a6B:=Z rfl;go_wp2;go_ret2;exact ⟨.inr ⟨Ib (J3 (O1 (Y1 f))) (J3 t),none,0,rfl,a.out,.inr (.inl ⟨_,_,rfl⟩),kD _ (by show (J3 (O1 (Y1 f))).size<=1048576;rw [I5];omega) (by show (J3 t).size<=1048576;rw [I5];omega) rfl rfl rfl,⟨.inl rfl,.inl rfl⟩⟩,Q⟩
       · rw [show (decide (O1 f=[102,105,108,101]))=false from S9 k] at A;by_cases l:O1 f=Zg
         · rw [show (decide (O1 f=[100,114,111,112]))=true from C_ l] at o;have a:=U0 (XP l);clear m d j k l;generalize J3 (O1 f)=wd at*;go_wp2;go_ret2;exact ⟨.inr ⟨Nb (J3 (Y1 f)),none,0,rfl,a.out,.inr (.inr (.inl ⟨_,rfl⟩)),kD _ (by show (J3 (Y1 f)).size<=1048576;rw [I5];omega) (J4 _) rfl rfl rfl,⟨.inl rfl,.inl rfl⟩⟩,c⟩
         · rw [show (decide (O1 f=[100,114,111,112]))=false from S9 l] at o;by_cases n:O1 f=Jg
           · rw [show (decide (O1 f=[99,108,101,97,114]))=true from C_ n] at m;have a:=U0 (OL n);clear d j k l n;generalize J3 (O1 f)=wd at*;by_cases B:(32:UInt8)∈f
             · rw [show decide ((32:UInt8)∉f)=false from S9 (fun h=>h B)] at a;rw [C_ B];go_wp2;go_ret2;exact ⟨.inl ⟨_,rfl,fun z=>⟨fun y p e=>absurd (a.out.1 y p e).1 o6,(fun h=>by cases h)⟩⟩,c⟩
             · rw [show decide ((32:UInt8)∉f)=true from C_ B] at a;rw [S9 B];go_wp2;go_ret2;exact ⟨.inr ⟨P_,none,0,rfl,a.out,.inr (.inr (.inr (.inr rfl))),kD _ (J4 _) (J4 _) rfl rfl rfl,⟨.inl rfl,.inl rfl⟩⟩,c⟩
           · rw [show (decide (O1 f=[99,108,101,97,114]))=false from S9 n] at m;have a:Hid (∀ z,yC [f] z false):=fun z=>PO d j k l n z;clear d j k l n;generalize J3 (O1 f)=wd at*;go_wp2;go_ret2;exact ⟨Jm a.out _ _,c⟩
   · have a:Hid (∀ z,yC (f::b) z false):=fun z=>WS d E z;have hbl:1<=b.length:=pq.2 E;have hb1':decide (1<(b.length:Int)+1)=true:=U7;clear d C A o m;generalize J3 (O1 f)=wd at*;go_wp2;go_ret2;exact ⟨Jm a.out _ _,c⟩
theorem a3E (v:Value) (w:World):(Go.method 560 225 v "loop.example/kiln/impl.isSound").run prog w=.ok (362,v) w:=Y2
theorem a2X (v:Value) (w:World):(Go.method 560 226 v "loop.example/kiln/impl.isSound").run prog w=.ok (365,v) w:=Y2
theorem a3y (v:Value) (w:World):(Go.method 560 227 v "loop.example/kiln/impl.isSound").run prog w=.ok (367,v) w:=Y2
theorem a2l (v:Value) (w:World):(Go.method 560 229 v "loop.example/kiln/impl.isSound").run prog w=.ok (369,v) w:=Y2
theorem a2M (v:Value) (w:World):(Go.method 560 232 v "loop.example/kiln/impl.isSound").run prog w=.ok (371,v) w:=Y2
theorem nG (n:Int):V8 (h_ n)↔(1<=n/\n<=200):=by
 constructor
 · intro h;obtain ⟨m,hm,e⟩:=Js h rfl;have:n=m:=U6 g_.ep e;rw [this];exact hm
 · intro h;exact .inl ⟨n,h,rfl⟩
theorem YJ (a b:BY):V8 (Ib a b)↔(Y5 a.data.toList=true/\b.size<=300):=by
 constructor
 · intro h;obtain ⟨d,b',hm,e⟩:=Xw h rfl;have e1:a=d:=U6 g_.fn e;have c:b=b':=U6 g_.ft e;rw [e1,c];exact hm
 · intro h;exact .inr (.inl ⟨a,b,h,rfl⟩)
theorem zJ (a:BY):V8 (Nb a)↔Y5 a.data.toList=true:=by
 constructor
 · intro h;obtain ⟨b,hm,e⟩:=mr h rfl;have e1:a=b:=U6 g_.fn e;rw [e1];exact hm
 · intro h;exact .inr (.inr (.inl ⟨a,h,rfl⟩))
theorem aS (m:M3) (ls:List L4) (c:Int) (t:BY):V8 (og m ls c t)↔Zf m ls c t:=by
 constructor
 · intro h;obtain ⟨m',b,i,a,hm,e⟩:=Yz h rfl;have e1:m=m':=U6 g_.km e;have g:ls=b:=U6 g_.ls e;have f:c=i:=U6 g_.cd e;have d:t=a:=U6 g_.tx e;rw [e1,g,f,d];exact hm
 · intro h;exact .inr (.inr (.inr (.inl ⟨m,ls,c,t,h,rfl⟩)))
def NQ (l:List UInt8) (w w':World) (e:Ending):Prop:=(e=.returned (.tuple #[.nilIface,.bool false])/\∀ z,RE l z false)\/(∃ (x:g_) (ai:OA) (ci:Nat),e=.returned (.tuple #[qU x ai ci,.bool true])/\RE l x true/\ShE x/\x.le 1048576/\Qg w' w.heap.size ai x.ls)
theorem a2F (s:BY) (w:World) (hs:s.size<=1048576) (P:Dc w):
 Calls prog 110 #[.string s] w fun e w'=>NQ s.data.toList w w' e/\Bw w w':=by
 have hsl:s.data.toList.length=s.size:=X4;by_cases h16:s.size<=16000
 · have hd:decide (16000<(s.size:Int))=false:=U7;go_enter func110,ntmps110
   go_wp2_with fail
   refine (a2i s _ O0 P).mono ?_;rintro e R ⟨hr,F⟩;rcases hr with ⟨D,rfl⟩ | ⟨D,g,rfl,hg0,I⟩
   · have d:Hid (∀ z,RE s.data.toList z false):=fun z=>PY D z;clear D;go_wp2;go_ret2;exact ⟨.inl ⟨rfl,d.out⟩,F⟩
   · have N:=gm 10 s.data.toList.dropLast;have J:s.data.toList.dropLast.length<=16000:=by rw [List.length_dropLast];omega
     have K:=ah 10 s.data.toList.dropLast;have H:=fun x ok hr=>sW (l:=s.data.toList) (x:=x) (ok:=ok) D hr;generalize G8 10 s.data.toList.dropLast=L at*;obtain ⟨f,b,rfl⟩:∃ f b,L=f::b:=by
      cases L with
      | nil=>simp at N
      | cons f b=>exact ⟨f,b,rfl⟩
     have W:f.length<=16000:=G7 (K 0) J;have X:∀ i,i<b.length->(b.getD i []).length<=16000:=fun i _=>G7 (K (i+1)) J;have Y:b.length<=16001:=by simp at N;omega
     have U:Ai R g 0 (f::b):=⟨I.1,fun i V=>by rw [L8];exact I.2 i V⟩;have S:=x9 P F;clear D K N J I;simp only [o_]
     go_wp2_with fail
     refine (c154 f b g _ W S Y U X).mono ?_;rintro e w2 ⟨hr,Z⟩;have B:=X5 F Z;rcases hr with ⟨v,rfl,O⟩ | ⟨x,u,q,rfl,h1,h2,p,Q⟩
     · have d:=U0 ((H Di false (O _)).2 (fun h=>by cases h.1));clear O H;go_wp2;go_ret2;exact ⟨.inl ⟨rfl,d.out⟩,B⟩
     · have hR:=H x true h1;have C:=Q.mono F.size;clear H h1 Q;rcases h2 with ⟨n,rfl⟩ | ⟨a,c,rfl⟩ | ⟨a,rfl⟩ | ⟨m,ls,c,t,rfl⟩ | rfl
       · have A:=a3E;have he:qU (h_ n) u q=.iface 225 (vI n):=rfl;rw [he]
         go_wp2_with fail
         refine (a1W n _).mono ?_;rintro e E ⟨⟨r,rfl,j⟩,k⟩;have o:=X5 B k;have y:=Qg.bel C k;clear A he;cases r
         · have d:=U0 (hR.2 (fun h=>absurd (j.2 ((nG n).1 h.2)) o6));clear hR j;go_wp2;go_ret2;exact ⟨.inl ⟨rfl,d.out⟩,o⟩
         · have d:=U0 (hR.1 (by first | rfl | trivial) ((nG n).2 (j.1 rfl)));clear hR j;go_wp2;go_ret2;exact ⟨.inr ⟨h_ n,u,q,rfl,d.out,.inl ⟨_,rfl⟩,p,y⟩,o⟩
       · have A:=a2X;have he:qU (Ib a c) u q=.iface 226 (.agg #[vS a,vS c]):=rfl;rw [he]
         go_wp2_with fail
         refine (a1N a c _ (G7 p.1 O0) (G7 p.2.1 O0)).mono ?_;rintro e E ⟨⟨r,rfl,j⟩,k⟩;have o:=X5 B k;have y:=Qg.bel C k;clear A he;cases r
         · have d:=U0 (hR.2 (fun h=>absurd (j.2 ((YJ a c).1 h.2)) o6));clear hR j;go_wp2;go_ret2;exact ⟨.inl ⟨rfl,d.out⟩,o⟩
         · have d:=U0 (hR.1 (by first | rfl | trivial) ((YJ a c).2 (j.1 rfl)));clear hR j;go_wp2;go_ret2;exact ⟨.inr ⟨Ib a c,u,q,rfl,d.out,.inr (.inl ⟨_,_,rfl⟩),p,y⟩,o⟩
       · have A:=a3y;have he:qU (Nb a) u q=.iface 227 (vS a):=rfl;rw [he]
         go_wp2_with fail
         refine (a3S a _ (G7 p.1 O0)).mono ?_;rintro e E ⟨⟨r,rfl,j⟩,k⟩;have o:=X5 B k;have y:=Qg.bel C k;clear A he;cases r
         · have d:=U0 (hR.2 (fun h=>absurd (j.2 ((zJ a).1 h.2)) o6));clear hR j;go_wp2;go_ret2;exact ⟨.inl ⟨rfl,d.out⟩,o⟩
         · have d:=U0 (hR.1 (by first | rfl | trivial) ((zJ a).2 (j.1 rfl)));clear hR j;go_wp2;go_ret2;exact ⟨.inr ⟨Nb a,u,q,rfl,d.out,.inr (.inr (.inl ⟨_,rfl⟩)),p,y⟩,o⟩
       · have A:=a2l;have he:qU (og m ls c t) u q=.iface 229 (.agg #[vS m.nm,vS m.tl,vS m.ar,vL u ls.length q,vI c,vS t]):=rfl;rw [he]
         go_wp2_with fail
         refine (a1U m ls c t u q _ p.2.2.1 p.2.2.2.1.1 p.2.2.2.1.2 p.2.2.2.2 C.at').mono ?_;rintro e E ⟨⟨r,rfl,j⟩,k⟩;have o:=X5 B k;have y:=Qg.bel C k;clear A he;cases r
         · have d:=U0 (hR.2 (fun h=>absurd (j.2 ((aS m ls c t).1 h.2)) o6));clear hR j;go_wp2;go_ret2;exact ⟨.inl ⟨rfl,d.out⟩,o⟩
         · have d:=U0 (hR.1 (by first | rfl | trivial) ((aS m ls c t).2 (j.1 rfl)));clear hR j;go_wp2;go_ret2;exact ⟨.inr ⟨og m ls c t,u,q,rfl,d.out,.inr (.inr (.inr (.inl ⟨_,_,_,_,rfl⟩))),p,y⟩,o⟩
       · have A:=a2M;have he:qU (P_) u q=.iface 232 (.agg #[]):=rfl;rw [he]
         go_wp2_with fail
         refine (a3z _).mono ?_;rintro e E ⟨⟨r,rfl,j⟩,k⟩;have o:=X5 B k;have y:=Qg.bel C k;clear A he;cases r
         · have d:=U0 (hR.2 (fun h=>absurd (j.2 trivial) o6));clear hR j;go_wp2;go_ret2;exact ⟨.inl ⟨rfl,d.out⟩,o⟩
         · have d:=U0 (hR.1 (by first | rfl | trivial) (.inr (.inr (.inr (.inr rfl)))));clear hR j;go_wp2;go_ret2;exact ⟨.inr ⟨P_,u,q,rfl,d.out,.inr (.inr (.inr (.inr rfl))),p,y⟩,o⟩
 · have d:Hid (∀ z,RE s.data.toList z false):=fun z=>FV O0 z;have hd:decide (16000<(s.size:Int))=true:=U7;go_enter func110,ntmps110;go_wp2;go_ret2;exact ⟨.inl ⟨rfl,d.out⟩,Z4 _ _⟩
open Go.RowKit Go.Maps
theorem Kq (h:Td W base ts rs tv rv) (a:∀ q t,ng W q t->t=9\/t=145\/t=205->W'.heap[q]?=W.heap[q]?):Td W' base ts rs tv rv:=by
 obtain ⟨h1,vs,h2⟩:=h;exact ⟨o7 h1 (fun q b=>a q 9 (N8 h1 b) (.inl rfl)),vs,h2.keep (fun q t hT ht _=>a q t hT (.inr ht))⟩
theorem dw (h:Td W base ts rs tv rv) (a:Bw W W'):Td W' base ts rs tv rv:=
 Kq h (fun q t hT _=>a.block q (Be hT))
theorem xu {base':Nat} (h:Td W base ts rs tv rv) (a:base'<=base):Td W base' ts rs tv rv:=by
 obtain ⟨h1,vs,h⟩:=h;exact ⟨H9 h1 a,vs,h.len,H9 h.row a,fun i b=>by
  obtain ⟨d,c3,e,c⟩:=h.gl i b;exact ⟨d,c3,e,H9 c a⟩,h.apart⟩
theorem dV (v:Value) (w:World):(Instr.typeAssert (.iface 225 v) 161 225 true).run prog w=.ok (.tuple #[v,.bool true]) w:=Y2
theorem rW (v:Value) (w:World):(Instr.typeAssert (.iface 226 v) 161 225 true).run prog w=.ok (.tuple #[.int .i64 0,.bool false]) w:=Y2
theorem jX (v:Value) (w:World):(Instr.typeAssert (.iface 226 v) 161 226 true).run prog w=.ok (.tuple #[v,.bool true]) w:=Y2
theorem nU (v:Value) (w:World):(Instr.typeAssert (.iface 227 v) 161 225 true).run prog w=.ok (.tuple #[.int .i64 0,.bool false]) w:=Y2
theorem RU (v:Value) (w:World):(Instr.typeAssert (.iface 227 v) 161 226 true).run prog w=.ok (.tuple #[.agg #[.string ⟨#[]⟩,.string ⟨#[]⟩],.bool false]) w:=Y2
theorem wU (v:Value) (w:World):(Instr.typeAssert (.iface 227 v) 161 227 true).run prog w=.ok (.tuple #[v,.bool true]) w:=Y2
theorem gW (v:Value) (w:World):(Instr.typeAssert (.iface 229 v) 161 225 true).run prog w=.ok (.tuple #[.int .i64 0,.bool false]) w:=Y2
theorem IV (v:Value) (w:World):(Instr.typeAssert (.iface 229 v) 161 226 true).run prog w=.ok (.tuple #[.agg #[.string ⟨#[]⟩,.string ⟨#[]⟩],.bool false]) w:=Y2
theorem WU (v:Value) (w:World):(Instr.typeAssert (.iface 229 v) 161 227 true).run prog w=.ok (.tuple #[.string ⟨#[]⟩,.bool false]) w:=Y2
theorem iV (v:Value) (w:World):(Instr.typeAssert (.iface 229 v) 161 229 true).run prog w=.ok (.tuple #[v,.bool true]) w:=Y2
theorem iU (v:Value) (w:World):(Instr.typeAssert (.iface 232 v) 161 225 true).run prog w=.ok (.tuple #[.int .i64 0,.bool false]) w:=Y2
theorem PW (v:Value) (w:World):(Instr.typeAssert (.iface 232 v) 161 226 true).run prog w=.ok (.tuple #[.agg #[.string ⟨#[]⟩,.string ⟨#[]⟩],.bool false]) w:=Y2
theorem aU (v:Value) (w:World):(Instr.typeAssert (.iface 232 v) 161 227 true).run prog w=.ok (.tuple #[.string ⟨#[]⟩,.bool false]) w:=Y2
theorem CW (v:Value) (w:World):(Instr.typeAssert (.iface 232 v) 161 229 true).run prog w=.ok (.tuple #[.agg #[.string ⟨#[]⟩,.string ⟨#[]⟩,.string ⟨#[]⟩,.slice none 0 0,.int .i64 0,.string ⟨#[]⟩],.bool false]) w:=Y2
theorem NV (v:Value) (w:World):(Instr.typeAssert (.iface 232 v) 161 232 true).run prog w=.ok (.tuple #[v,.bool true]) w:=Y2
def zE:List Value:=[.int .i64 0,.int .i64 0,.string ⟨#[]⟩,.string ⟨#[]⟩,.string ⟨#[]⟩,.string ⟨#[]⟩,.string ⟨#[]⟩,.slice none 0 0,.int .i64 0,.string ⟨#[]⟩]
