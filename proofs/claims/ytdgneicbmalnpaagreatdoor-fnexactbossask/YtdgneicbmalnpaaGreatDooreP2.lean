import Derived.Test.YtdgneicbmalnpaaGreatDoorEY3
import Derived.Shelf.Strings.Builder1
set_option linter.all false
set_option maxHeartbeats 0
set_option maxRecDepth 99999
open Go.Value renaming slice->Sa,string->Sb,int->Sc,pointer->Sd
open Go.IntKind renaming i64->Se
open Go.Ending renaming returned->Sf
namespace Go.Proofs.YtdgneicbmalnpaaGreatDoor
open Proofs.Tryz Go.RowKit
def Fg(m:M3)(ls:List L4)(c:Int)(t:BY):Prop:=ig m=true/\Ig ls/\vr c t.data.toList=true
def QC(P:Prop)(l:List UInt8)(e:Ending):Prop:=∃s,e=Sf (Sb s)/\((P/\s=U3 l)\/(¬P/\s=⟨#[]⟩))
theorem Rl{P:Prop}{l:List UInt8}(h:¬P):QC P l (Sf (Sb ⟨#[]⟩)):=⟨_,rfl,.inr ⟨h,rfl⟩⟩
theorem QC.congr{P Q:Prop}{l k:List UInt8}{e:Ending}(h:QC P l e)(a:P↔Q)(hl:P->l=k):QC Q k e:=by
 obtain⟨s,rfl,h⟩:=h;refine⟨s,rfl,?_⟩;rcases h with⟨h1,h2⟩|⟨h1,h2⟩
 ·exact .inl ⟨a.1 h1,by rw[h2,hl h1]⟩
 exact .inr ⟨λh=>h1 (a.2 h),h2⟩
theorem a2w(m:M3)(ls:List L4)(c:Int)(t:BY)(g:OA)(l:Nat)(w:World)(hm:m.le 1048576)(hl:ls.length<=1048576)(hs:∀i,(ls.getD i K_).le 1048576)(ht:t.size<=1048576)(u:O9 w g ls):
 Calls prog 202 #[.agg #[Sb m.nm,Sb m.tl,Sb m.ar],Sa g ls.length l,.agg #[Sc Se c,Sb t]] w λe w'=>Yn (Fg m ls c t) e/\Bw w w':=by
 go_in
 go_wp2_with fail
 refine(a2M m _ ⟨X7 hm.1 O0,X7 hm.2.1 O0,X7 hm.2.2 O0⟩).mono ?_;rintro e w1⟨rfl,j⟩;have b:Below (w.heap.size+2) ((w.alloc (.cells #[vS m.nm,vS m.tl,vS m.ar] 142)).alloc (.cells #[vI c,vS t] 117)) w1:=bG j;have o:J6 ((w.alloc (.cells #[vS m.nm,vS m.tl,vS m.ar] 142)).alloc (.cells #[vI c,vS t] 117)) (w.heap.size+1) [vI c,vS t]:=by have h:=X9 (w.alloc (.cells #[vS m.nm,vS m.tl,vS m.ar] 142)) [vI c,vS t] 117;simp at h;exact h
 have x:=o.below b O0;have f:=(U6.alloc J4 _).trans (b.mono O0);have p:w.heap.size+1<w1.heap.size:=by have h:=b.size;simp at h;omega
 clear j o;cases hn:ig m
 ·have a:Hid (Yn (Fg m ls c t) (Sf (.bool false))):=T_ (λh=>by have h1:=h.1;rw[hn]at h1;cases h1);go_wp2;go_ret;exact⟨a.o,f⟩
 go_wp2_with fail
 refine(a2E g l ls _ hl hs (Q7 u f)).mono ?_;rintro e w2⟨⟨r,rfl,hr⟩,d⟩;have k:=E5 f d;have n:=x.below d p;have k0:=n 0 _ rfl;have k1:=n 1 _ rfl;clear d;cases r
 ·have a:Hid (Yn (Fg m ls c t) (Sf (.bool false))):=T_ (λh=>absurd (hr.2 h.2.1) U5);clear hr;go_wp2;go_ret;exact⟨a.o,k⟩
 have q:=hr.1 rfl;clear hr
 go_wp2_with fail
 refine(IV c t _ O0).mono ?_;rintro e w3⟨rfl,s⟩;have v:=E5 k s;have a:Hid (Yn (Fg m ls c t) (Sf (.bool (vr c t.data.toList)))):=⟨_,rfl,⟨λh=>⟨hn,q,h⟩,λh=>h.2.2⟩⟩;go_wp2;go_ret;exact⟨a.o,v⟩
theorem DL{B i j:Nat}(h:i≠j):(⟨B,i,none⟩:Addr)≠⟨B,j,none⟩:=by intro e;injection e with _ e;exact h e
end Go.Proofs.YtdgneicbmalnpaaGreatDoor
namespace Go.Proofs
open Go.Shelf
def Tryz.lays169_ren:Go.Shelf.Ren:=⟨λ| 169=>303|n=>n, λ| 70=>399|9=>9|0=>0|72=>401|37=>211|127=>446|3=>3|5=>5|n=>n, λ| n=>n⟩
theorem Tryz.lays169:Go.Proofs.Lays.n169 prog Tryz.lays169_ren:={
 mixed:=Y0
 f169:=func303.trans (G7 some Y0)
 t0:=underlying0
 a0:=Tryz.isAgg0
 z0:=Tryz.sizeOf0
 v0:=Tryz.zeroValue0
 t3:=underlying3
 a3:=Tryz.isAgg3
 z3:=Tryz.sizeOf3
 v3:=Tryz.zeroValue3
 t9:=underlying9
 a9:=Tryz.isAgg9
 z9:=Tryz.sizeOf9
 v9:=Tryz.zeroValue9
 t37:=underlying211
 a37:=Tryz.isAgg211
 z37:=Tryz.sizeOf211
 v37:=Tryz.zeroValue211
 t70:=underlying399
 a70:=Tryz.isAgg399
 z70:=Tryz.sizeOf399
 v70:=Tryz.zeroValue399
 t72:=underlying401
 a72:=Tryz.isAgg401
 z72:=Tryz.sizeOf401
 v72:=Tryz.zeroValue401
 t127:=underlying446
 a127:=Tryz.isAgg446
 z127:=Tryz.sizeOf446
 v127:=Tryz.zeroValue446 }
theorem Tryz.Builder_Extra_169:Builder.Extra prog Tryz.lays169_ren:={
 sizeBuilder:=Y0
 liesBuilder:=Y0
 t5:=underlying5
 a5:=Tryz.isAgg5
 z5:=Tryz.sizeOf5
 v5:=Tryz.zeroValue5
 infoByte:=Y0
 cellsByte:=Y0
 sizeByte:=Y0
 neB5:=by decide }
open Go.RowKit in
theorem Tryz.Builder_String_any(B b:Nat)(l:List UInt8)(w:World)(h:Lib.IsBuilder 401 5 B b (Lib.byteCells l) w)(a:B<=w.heap.size):
 Calls prog 303 #[Sd (some ⟨b,0,none⟩)] w λe w'=>e=Sf (Sb ⟨l.toArray⟩)/\Below B w w':=Any.Builder_String_any Tryz.lays169 Tryz.Builder_Extra_169 B b l w h a
end Go.Proofs
namespace Go.Proofs.YtdgneicbmalnpaaGreatDoor
open Proofs.Tryz Go.RowKit
variable{w:World}{b n:Nat}{o:Obj}{e:TypeId}{v:Value}{xs:List Value}
theorem WL:(prog.info? 401).map (λi=>i.size)=some 2:=Y0
theorem info5:(prog.info? 5).map (λi=>(i.zero,i.size,i.bytes))=some (some (.int .u8 0),1,1):=Y0
theorem xW:liesAt prog prog.depth 401 (2 / prog.cellsOf 401) 0 401 1=true:=Y0
theorem pK(b:Nat)(w:World)(h0:w.cell? ⟨b,0,none⟩=some (Sd (some ⟨b,0,none⟩))):
 Calls prog 339 #[Sd (some ⟨b,0,none⟩)] w λe w'=>e=Sf (.tuple #[])/\w'=w:=by
 obtain⟨j,a,_⟩:=qC.1 WL;have kn:=Lib.run_neq_ptr_same (P:=prog) w (aA b 0) underlying399 a
 go_in
 go_wp2
 go_end0
 exact⟨rfl,rfl⟩
theorem RH(b:Nat)(w:World)(h0:w.cell? ⟨b,0,none⟩=some (Sd none))(a:w.shape? b=some (401,2))(hfz:w.frozen? ⟨b,0,none⟩=false):
 Calls prog 339 #[Sd (some ⟨b,0,none⟩)] w λe w'=>e=Sf (.tuple #[])/\w'=w.setCell ⟨b,0,none⟩ (Sd (some ⟨b,0,none⟩)):=by
 obtain⟨j,c,d⟩:=qC.1 WL;have k1:=Lib.run_to_unsafe (P:=prog) w (aA b 0) underlying399 underlying377 c (by rw[d];decide) a (Nat.zero_lt_succ 1);have k3:=Lib.run_from_unsafe (P:=prog) w (aA b 0) underlying377 underlying399 c a xW;have k2:∀x,Sem.run prog (callFunc 358 #[x]) w=.ok (.value x) w:=λx=>by
  rw[run_callFunc_extern func358 Y0 Y0 Y0 (e:=Extern.AbiNoEscape.same) Y0];rw[Lib.run_noEscape];rfl
 go_in
 go_wp2
 go_end0
 exact⟨rfl,rfl⟩
theorem a6n(B b:Nat)(a:List Value)(w:World)(h:Lib.IsBuilder 401 5 B b a w):
 Calls prog 339 #[Sd (some ⟨b,0,none⟩)] w λe w'=>e=Sf (.tuple #[])/\Lib.BuilderAt 401 5 B b (Sd (some ⟨b,0,none⟩)) a w'/\Below B w w'/\w'.heap.size=w.heap.size:=by
 rcases h with h|h
 ·refine(RH b w h.cell0 h.shape h.frozen0).mono ?_;rintro e w'⟨rfl,rfl⟩;exact⟨rfl,h.used _,(O4 B w).setCell (p:=(aA b 0)) h.1 _,J4⟩
 refine(pK b w h.cell0).mono ?_;rintro e w'⟨rfl,rfl⟩;exact⟨rfl,h,O4 B _,rfl⟩
theorem xg(h:w.heap[b]?=some o):b<w.heap.size:=by
 rcases Z7 b w.heap.size with a|a
 ·exact a
 simp[Qo a]at h
theorem QN{B:Nat}(h:w.ownsRow B e 1 v n xs):∃ao c,v=Sa ao n c:=by
 rcases h.2 with⟨hv,h0⟩|⟨g,cap,cur,hv,_⟩
 ·exact⟨none,0,by rw[hv,h0]⟩
 exact⟨_,_,hv⟩
theorem NP{w1 a:World}(c:w1.heap[b]?=some o)(d:v.ownBlock≠some b)(f:w1.grownBy a v.ownBlock):a.heap[b]?=some o:=by
 rw[f.block b (xg c) (λe=>d e.symm)];exact c
theorem a3U(B b:Nat)(a:List Value)(c:Int)(w:World)(h:Lib.IsBuilder 401 5 B b a w)(hlen:a.length+1<=140737488355328)(hBw:B<=w.heap.size):
 Calls prog 301 #[Sd (some ⟨b,0,none⟩),.int .u8 c] w λe w'=>e=Sf .nilIface/\Lib.IsBuilder 401 5 B b (a++[.int .u8 c]) w'/\Below B w w':=by
 obtain⟨q,y,t,s,r⟩:=info_parts info5;have D:=U0 h;clear h
 go_in
 go_wp2_with fail
 refine(a6n B b a w D.o).mono ?_;rintro e w1⟨rfl,h1,z,x⟩;obtain⟨hB,v,g,m,n⟩:=h1;have A:B<=w1.heap.size:=O0;have o:=U0 g;have C:=U0 n;have c1:w1.cell? (aA b 1)=some v:=by rw[Lib.cell_of_heap g];rfl
 clear g n x
 go_wp2_with(at_builtin;refine wpList_append_own _ rfl _ _ 211 rfl B 5 q (.int .u8 0) 1 1 underlying211 y t s r rfl U5 _ _ _ rfl (m.alloc _) ⟨w1.heap.size,0,none⟩ 1 1 [.int .u8 c] rfl rfl (cell_one_new _ _ _) (by intro u j;simp at j;subst j;rfl) (by unfold maxLen;omega) O0 L8 ?_;intro v' d l f _;have i:Hid (d.heap[b]?=some (.cells #[Sd (some ⟨b,0,none⟩),v] 401 (0,0))):=NP (v:=v) (by rw[Below.heap_alloc w1 _ b (xg o.o)];exact o.o) C.o f;have E:Hid (Below B w d):=(z.alloc A _).grown f L8 (λk hk=>(m.lt k hk).1);obtain⟨ao,cp,rfl⟩:=QN l;have d1:d.cell? ⟨b,1,none⟩=some v:=(by rw[Lib.cell_of_heap i.o];rfl);have f1:d.frozen? ⟨b,1,none⟩=false:=Lib.frozen_of_heap i.o 1;clear f)
 go_ret;refine⟨rfl,.inr ?_,?_⟩
 ·exact Lib.BuilderAt.put (T:=401) (e:=5) hB i.o (bs':=a++[.int .u8 c]) (by simpa using l) U5
 exact E.o.setCell (p:=(aA b 1)) hB _
theorem ownsRow_below{w':World}{base:Nat}{size:Nat}(h:w.ownsRow base e size v n xs)(c:Bw w w'):w'.ownsRow base e size v n xs:=by
 obtain⟨h1,h2⟩:=h;refine⟨h1,?_⟩;rcases h2 with h|⟨g,cap,cur,hv,b,a,hr⟩
 ·exact .inl h
 exact .inr ⟨g,cap,cur,hv,b,by rw[c.block g (xg a)];exact a,hr⟩
