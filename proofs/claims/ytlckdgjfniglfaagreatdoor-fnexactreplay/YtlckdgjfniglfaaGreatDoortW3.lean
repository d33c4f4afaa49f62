import Derived.Test.YtlckdgjfniglfaaGreatDooreEA
set_option linter.unusedVariables false
set_option maxHeartbeats 8000000
set_option maxRecDepth 100000
namespace Go.Proofs.YtlckdgjfniglfaaGreatDoor
open Proofs.Tryz
open Go.RowKit Go.Maps
theorem plc_get {rs:List R3} {key:ByteArray} {k:Nat} (h:k<(plc rs key).length):∃ p:Nat,(plc rs key).getD k 0=(p:Int)/\p<rs.length/\(rs.getD p r3z).key=key:=by
 unfold plc at h ⊢;rw [List.length_map] at h;have hm:=List.getElem_mem h;refine ⟨_,?_,List.mem_range.1 (List.mem_filter.1 hm).1,by simpa using (List.mem_filter.1 hm).2⟩;rw [List.getD_eq_getElem?_getD,List.getElem?_map,List.getElem?_eq_getElem h];rfl
theorem plc_has {rs:List R3} {key:ByteArray} {p:Nat} (hp:p<rs.length) (hk:(rs.getD p r3z).key=key):∃ k,k<(plc rs key).length/\(plc rs key).getD k 0=(p:Int):=by
 unfold plc;have hm:p∈(List.range rs.length).filter fun i=>decide ((rs.getD i r3z).key=key):=List.mem_filter.2 ⟨List.mem_range.2 hp,by simpa using hk⟩;obtain ⟨k,hk1,hk2⟩:=List.getElem_of_mem hm;refine ⟨k,by rw [List.length_map];exact hk1,?_⟩;rw [List.getD_eq_getElem?_getD,List.getElem?_map,List.getElem?_eq_getElem hk1,hk2];rfl
theorem getD_memR {rs:List R3} {p:Nat} (hp:p<rs.length):rs.getD p r3z∈rs:=by
 have:rs.getD p r3z=rs[p]:=by simp [List.getD,List.getElem?_eq_getElem hp]
 rw [this];exact List.getElem_mem hp
theorem mem_getDR {rs:List R3} {x:R3} (h:x∈rs):∃ p,p<rs.length/\rs.getD p r3z=x:=by
 obtain ⟨p,hp,e⟩:=List.getElem_of_mem h;exact ⟨p,hp,by simp [List.getD,List.getElem?_eq_getElem hp,e]⟩
theorem ints_cells {w:World} {B:Nat} {va:Option Addr} {vc n:Nat} {zs:List Int} (h:w.ownsInts B 3 .i64 (.slice va n vc) zs):n=zs.length/\(n=0\/∃ g,va=some ⟨g,0,none⟩/\g<w.heap.size/\∀ k,k<n->w.cell? ⟨g,k,none⟩=some (.int .i64 (zs.getD k 0))):=by
 have hrow:=h.1;rcases h.1.2 with ⟨hv,h0⟩ | ⟨g,cap,cur,hv,hg,hh,_⟩
 · simp at hv
   exact ⟨om_,.inl om_⟩
 · simp only [Value.slice.injEq] at hv
   obtain ⟨rfl,rfl,rfl⟩:=hv;refine ⟨rfl,.inr ⟨g,rfl,(Array.getElem?_eq_some_iff.1 hh).1,fun k hk=>?_⟩⟩;rw [hrow.cellAt k om_];simp [List.getD,List.getElem?_eq_getElem hk]
theorem c93 (B H bT bR bP:Nat) (W:Int) (l:List (ByteArray×Value)) (rs:List R3) (rv:List Value) (x:R3) (a:Option Addr) (c:Nat) (w:World) (hSh:Sh B H bT bR bP W l rs rv w) (hx:GlsAt w a x.gs) (hn:rs.length<=1000) (hk:x.key.size<=1048700) (hg:x.gs.length<=1048576) (hgs:∀ i,(rs.getD i r3z).gs.length<=1048576):
 Calls prog 93 #[.pointer (some ⟨H,0,none⟩),.agg #[.string x.key,.slice a x.gs.length c,.string x.out]] w fun e w'=>Rb (x∈rs) e/\Below w.heap.size w w':=by
 obtain ⟨pl,hC,hR⟩:=hSh;have hrl:=hR.len;have hHlt:=hC.lt;obtain ⟨v,hv⟩:∃ v,(getK pl x.key).getD (.slice none 0 0)=v:=⟨_,rfl⟩;have hO:=ints_at hR hv (Below.refl _ _);obtain ⟨va,vc,hvf⟩:=row_form hO.1;rw [hvf] at hO hv;obtain ⟨_,hcs⟩:=ints_cells hO;have HCS:=hI_ hcs;have hln:(plc rs x.key).length<=1000:=Nat.le_trans (plc_len _ _) hn;obtain ⟨es,ck,hpw,hpF,hps,hpD⟩:=hC.pc;obtain ⟨es1,ck1,hrw,hrF,hrs,hrD⟩:=hC.rc;have hbP:bP<w.heap.size:=(Array.getElem?_eq_some_iff.1 hpw).1;have hbR:bR<w.heap.size:=(Array.getElem?_eq_some_iff.1 hrw).1;have hkm:x.key.size<=maxLen:=by unfold maxLen;omega
 have HLK:Hid (∀ u:World,u.heap[bP]?=some (.map es ck)->(Instr.lookup 86 (.map (some bP)) (.string x.key) false).run prog u=.ok (.slice va (plc rs x.key).length vc) u):=fun u hu=>by
  rw [<- hv];exact look_S (n:=pl.length) ⟨es,ck,hu,hpF,hps,hpD⟩ underlying86 kr_ hkm
 have HLA:Hid (∀ (u:World) (p:Nat),p<rs.length->u.heap[bR]?=some (.map es1 ck1)->(Instr.lookup 85 (.map (some bR)) (.int .i64 p) false).run prog u=.ok (rv.getD p undef) u):=fun u p hp hu=>
  look_I (n:=rv.length) (z:=.agg #[.string ⟨#[]⟩,.slice none 0 0,.string ⟨#[]⟩]) ⟨es1,ck1,hu,hrF,hrs,hrD⟩ underlying85 kr_ om_ om_
 have HRC:=hI_ hR.recs;have hB0:Below w.heap.size w (w.alloc (.cells #[.string x.key,.slice a x.gs.length c,.string x.out] 96)):=bA_;have sz0:(w.alloc (.cells #[.string x.key,.slice a x.gs.length c,.string x.out] 96)).heap.size=w.heap.size+1:=sm_;have hp0:(w.alloc (.cells #[.string x.key,.slice a x.gs.length c,.string x.out] 96)).heap[bP]?=some (.map es ck):=(hB0.block bP hbP).trans hpw;have hr0:(w.alloc (.cells #[.string x.key,.slice a x.gs.length c,.string x.out] 96)).heap[bR]?=some (.map es1 ck1):=(hB0.block bR hbR).trans hrw;have E0:Hid (BlkAt (w.alloc (.cells #[.string x.key,.slice a x.gs.length c,.string x.out] 96)) w.heap.size [.string x.key,.slice a x.gs.length c,.string x.out]):=hI_ (blk_new w [.string x.key,.slice a x.gs.length c,.string x.out] 96);have f2:=(hC.below hB0).blk 2 _ rfl;have f3:=(hC.below hB0).blk 3 _ rfl;have e0:=E0.out 0 _ rfl;have e1:=E0.out 1 _ rfl;have e2:=E0.out 2 _ rfl;have HX:=hI_ (gls_below hx hB0);have HW:=hI_ hB0;clear hC hR hx hv hvf hO hpw hpF hps hpD hrw hrF hrs hrD hcs hrl E0;go_enter func93,ntmps93
 go_wp2_with fail
 generalize (w.alloc (.cells #[.string x.key,.slice a x.gs.length c,.string x.out] 96))=U0 at*;refine wp_region_held_drew (S:=(fun u=>u.cell? ⟨H,3,none⟩=some (.map (some bP))/\u.cell? ⟨w.heap.size,0,none⟩=some (.string x.key)/\u.heap[bP]?=some (.map es ck))) kr_ ?_ fun hHeld=>?_
 · exact ⟨f3,e0,hp0⟩
 refine tq 0 hHeld ?_
 try simp only [qq]
 refine tq 1 hHeld ?_
 try simp only [qq]
 refine tq 2 hHeld ?_
 try simp only [qq]
 refine tq 3 hHeld ?_
 try simp only [qq]
 refine tq 4 hHeld ?_
 try simp only [qq]
 refine tq 5 hHeld ?_
 try simp only [qq]
 refine tq 6 hHeld ?_ (v:=?_) (hv:=?e)
 case e=>intro wq hSw;(try dsimp only at hSw);have hq:=HLK.out wq hSw.2.2;go_simp;try with_reducible rfl
 try simp only [qq]
 refine tq 7 hHeld ?_
 try simp only [qq]
 refine tq 8 hHeld ?_
 try simp only [qq]
 refine wpAnyH_done kr_ ?_ _
 go_wp2_with fail
 go_loopw [15] (fun i wr=>∃ (k:Nat),k<=(plc rs x.key).length/\i=.int .i64 k/\Hid (∀ j,j<k->rs.getD ((plc rs x.key).getD j 0).toNat r3z≠x)/\Below U0.heap.size U0 wr) (fun i _=>(plc rs x.key).length - (Go.RowKit.intOf i).toNat)
 case atStart=>exact ⟨0,Nat.zero_le _,rfl,fun j hj=>absurd hj (Nat.not_lt_zero _),(Below.refl _ _).drew⟩
 case round=>
  obtain ⟨k,hk,rfl,HJ,hbr⟩:=hrel;by_cases hlt:k<(plc rs x.key).length
  · rcases HCS.out with h0 | ⟨g,hva,hgw,hcell⟩
    · omega
    subst hva;obtain ⟨p,hzp,hp,hkp⟩:=plc_get hlt;have ck0:=(hbr.cell (p:=⟨g,k,none⟩) (show g<U0.heap.size by omega)).trans ((hB0.cell (p:=⟨g,k,none⟩) hgw).trans (hcell k hlt));rw [hzp] at ck0;obtain ⟨a2,c2,hv2,hG2,_⟩:=HRC.out p hp;have hyl:=hgs p;obtain ⟨y,hy⟩:∃ y,rs.getD p r3z=y:=⟨_,rfl⟩;rw [hy] at hv2 hG2 hyl;have HY:=hI_ hy;clear hy;have HLR:Hid (∀ u:World,u.heap[bR]?=some (.map es1 ck1)->(Instr.lookup 85 (.map (some bR)) (.int .i64 p) false).run prog u=.ok (.agg #[.string y.key,.slice a2 y.gs.length c2,.string y.out]) u):=fun u hu=>by
     rw [<- hv2];exact HLA.out u p hp hu
    have hbd:Below U0.heap.size U0 wr.drew:=hbr.drew;have q2:=(hbd.cell (p:=⟨H,2,none⟩) (show H<U0.heap.size by omega)).trans f2;have y0:=(hbd.cell (p:=⟨w.heap.size,0,none⟩) (show w.heap.size<U0.heap.size by omega)).trans e0;have y1:=(hbd.cell (p:=⟨w.heap.size,1,none⟩) (show w.heap.size<U0.heap.size by omega)).trans e1;have y2:=(hbd.cell (p:=⟨w.heap.size,2,none⟩) (show w.heap.size<U0.heap.size by omega)).trans e2;have hpr:=(hbd.block bR (show bR<U0.heap.size by omega)).trans hr0;have G2:=gls_below hG2 (HW.out.trans (hbd.mono om_));have GX:=gls_below HX.out hbd;clear hcell hG2 hv2
    go_wp2_with fail
    refine wp_region_held_drew (S:=(fun u=>u.cell? ⟨H,2,none⟩=some (.map (some bR))/\u.cell? ⟨w.heap.size,0,none⟩=some (.string x.key)/\u.cell? ⟨w.heap.size,1,none⟩=some (.slice a x.gs.length c)/\u.cell? ⟨w.heap.size,2,none⟩=some (.string x.out)/\u.heap[bR]?=some (.map es1 ck1))) kr_ ?_ fun hHeld=>?_
    · exact ⟨q2,y0,y1,y2,hpr⟩
    refine tq 0 hHeld ?_
    try simp only [qq]
    refine tq 1 hHeld ?_
    try simp only [qq]
    refine tq 2 hHeld ?_
    try simp only [qq]
    refine tq 3 hHeld ?_
    try simp only [qq]
    refine tq 4 hHeld ?_
    try simp only [qq]
    refine tq 5 hHeld ?_ (v:=?_) (hv:=?e)
    case e=>intro wq hSw;(try dsimp only at hSw);have hq:=HLR.out wq hSw.2.2.2.2;go_simp;try with_reducible rfl
    try simp only [qq]
    refine tq 6 hHeld ?_
    try simp only [qq]
    refine rq 7 fun K hK=>?_;go_simp;refine (c133 y x a2 a c2 c _ hyl hg G2 GX).mono ?_;rintro e u1 ⟨⟨bb,rfl,hbb⟩,hb1⟩
    go_wp2_with fail
    have b1:=hbd.trans (hb1.mono (by show U0.heap.size<=wr.heap.size;exact hbr.size));have p2:=(b1.cell (p:=⟨H,2,none⟩) (show H<U0.heap.size by omega)).trans f2;have p0:=(b1.cell (p:=⟨w.heap.size,0,none⟩) (show w.heap.size<U0.heap.size by omega)).trans e0;have p1:=(b1.cell (p:=⟨w.heap.size,1,none⟩) (show w.heap.size<U0.heap.size by omega)).trans e1;have p3:=(b1.cell (p:=⟨w.heap.size,2,none⟩) (show w.heap.size<U0.heap.size by omega)).trans e2;have pr:=(b1.block bR (show bR<U0.heap.size by omega)).trans hr0;clear hHeld;refine hK.out _ _ ⟨p2,p0,p1,p3,pr⟩ fun hHeld=>?_;clear hK K hHeld
    try simp only [qq]
    refine wpAnyH_done kr_ ?_ _;cases bb
    · go_wp2
      go_roundw
      case rel=>exact ⟨k+1,om_,by go_num,fun j hj=>by
       rcases Nat.lt_or_ge j k with h | h
       · exact HJ.out j h
       · obtain rfl:j=k:=om_
         rw [hzp];exact fun e=>absurd (hbb.2 (HY.out.symm.trans e)) Bool.false_ne_true,b1⟩
      case measure=>simp [Go.RowKit.intOf];omega
    · go_wp2
      go_ret;exact ⟨⟨true,rfl,fun _=>(HY.out.trans (by simpa using hbb))▸getD_memR hp,fun _=>rfl⟩,hB0.trans (b1.mono om_)⟩
  · obtain rfl:k=(plc rs x.key).length:=om_
    go_wp2;go_ret;refine ⟨⟨false,rfl,fun h=>absurd h Bool.false_ne_true,fun h=>?_⟩,hB0.trans (hbr.mono om_)⟩;obtain ⟨p,hp,hpx⟩:=mem_getDR h;obtain ⟨j,hj,hjp⟩:=plc_has hp (by rw [hpx]);have:=HJ.out j hj;rw [hjp] at this;exact absurd hpx this
open Go.RowKit
theorem c238 (n:Int) (w:World):
 Calls prog 238 #[.int .i64 n] w fun e w'=>IsB (1<=n/\n<=200) e/\Below w.heap.size w w':=by
 go_enter func238,ntmps238
 go_wp2_with fail
 refine (c239 n _).mono ?_;rintro e w1 ⟨rfl,rfl⟩;go_wp2;go_ret;exact ⟨⟨_,rfl,sm_⟩,Below.refl _ _⟩
theorem c84 (a b:ByteArray) (w:World) (ha:a.size<=1048700) (hb:b.size<=1048700):
 Calls prog 84 #[.agg #[.string a,.string b]] w fun e w'=>IsB (nameOk a.data.toList=true/\b.size<=300) e/\Below w.heap.size w w':=by
 have hB0:∀ o,Below w.heap.size w (w.alloc o):=fun o=>bA_;go_enter func84,ntmps84
 go_wp2_with fail
 refine (c112 a _ ha).mono ?_;rintro e w1 ⟨rfl,rfl⟩;cases hn:nameOk a.data.toList
 · have HN:Hid (IsB (nameOk a.data.toList=true/\b.size<=300) (.returned (.bool false))):=isB_no (fun h=>by rw [hn] at h;cases h.1)
   go_wp2;go_ret;exact ⟨HN.out,hB0 _⟩
 · by_cases h3:b.size<=300
   · have e3:decide ((b.size:Int)<=300)=true:=so_
     go_wp2;go_ret;exact ⟨⟨true,rfl,⟨fun _=>⟨hn,h3⟩,fun _=>rfl⟩⟩,hB0 _⟩
   · have e3:decide ((b.size:Int)<=300)=false:=so_
     go_wp2;go_ret;exact ⟨⟨false,rfl,⟨(fun h=>by cases h),fun h=>absurd h.2 h3⟩⟩,hB0 _⟩
theorem c60 (a b:ByteArray) (w:World) (ha:a.size<=1048700) (hb:b.size<=1048700):
 Calls prog 60 #[.agg #[.string a,.string b]] w fun e w'=>IsB (nameOk a.data.toList=true/\b.size<=300) e/\Below w.heap.size w w':=by
 have hB0:∀ o,Below w.heap.size w (w.alloc o):=fun o=>bA_;go_enter func60,ntmps60
 go_wp2_with fail
 refine (c62 a _ ha).mono ?_;rintro e w1 ⟨rfl,rfl⟩;cases hn:nameOk a.data.toList
 · have HN:Hid (IsB (nameOk a.data.toList=true/\b.size<=300) (.returned (.bool false))):=isB_no (fun h=>by rw [hn] at h;cases h.1)
   go_wp2;go_ret;exact ⟨HN.out,hB0 _⟩
 · by_cases h3:b.size<=300
   · have e3:decide ((b.size:Int)<=300)=true:=so_
     go_wp2;go_ret;exact ⟨⟨true,rfl,⟨fun _=>⟨hn,h3⟩,fun _=>rfl⟩⟩,hB0 _⟩
   · have e3:decide ((b.size:Int)<=300)=false:=so_
     go_wp2;go_ret;exact ⟨⟨false,rfl,⟨(fun h=>by cases h),fun h=>absurd h.2 h3⟩⟩,hB0 _⟩
theorem c241 (a b:ByteArray) (w:World) (ha:a.size<=1048700) (hb:b.size<=1048700):
 Calls prog 241 #[.agg #[.string a,.string b]] w fun e w'=>IsB (nameOk a.data.toList=true/\b.size<=300) e/\Below w.heap.size w w':=by
 have hB0:∀ o,Below w.heap.size w (w.alloc o):=fun o=>bA_;go_enter func241,ntmps241
 go_wp2_with fail
 refine (c84 a b _ ha hb).mono ?_;rintro e w1 ⟨⟨r,rfl,hr⟩,hb1⟩;go_wp2;go_ret;exact ⟨⟨r,rfl,hr⟩,(hB0 _).trans (hb1.mono sm_)⟩
theorem c243 (a:ByteArray) (w:World) (ha:a.size<=1048700):
 Calls prog 243 #[.string a] w fun e w'=>IsB (nameOk a.data.toList=true) e/\Below w.heap.size w w':=by
 go_enter func243,ntmps243
 go_wp2_with fail
 refine (c112 a _ ha).mono ?_;rintro e w1 ⟨rfl,rfl⟩;go_wp2;go_ret;exact ⟨⟨_,rfl,Iff.rfl⟩,Below.refl _ _⟩
theorem c247 (w:World):
 Calls prog 247 #[.agg #[]] w fun e w'=>IsB True e/\Below w.heap.size w w':=by
 have hB0:∀ o,Below w.heap.size w (w.alloc o):=fun o=>bA_;go_enter func247,ntmps247;go_wp2;go_ret;exact ⟨isB_yes trivial,by first | exact hB0 _ | exact Below.refl _ _⟩
theorem c245 (m:M3) (ls:List L4) (c:Int) (t:ByteArray) (ai:Option Addr) (ci:Nat) (w:World) (hm:m.le 1048576) (hl:ls.length<=1048576) (hs:∀ i,(ls.getD i l4z).le 1048576) (ht:t.size<=1048576) (hat:LksAt w ai ls):
 Calls prog 245 #[.agg #[.string m.nm,.string m.tl,.string m.ar,.slice ai ls.length ci,.int .i64 c,.string t]] w fun e w'=>IsB (RanOk m ls c t) e/\Below w.heap.size w w':=by
 have hB0:∀ o,Below w.heap.size w (w.alloc o):=fun o=>bA_;go_enter func245,ntmps245
 go_wp2_with fail
 refine (c89 m _ ⟨Nat.le_trans hm.1 om_,Nat.le_trans hm.2.1 om_,Nat.le_trans hm.2.2 om_⟩).mono ?_;rintro e w1 ⟨rfl,hb1⟩;have hx1:Below (w.heap.size+1) (w.alloc (.cells #[.string m.nm,.string m.tl,.string m.ar,.slice ai ls.length ci,.int .i64 c,.string t] 107)) w1:=by simpa using hb1
 have bA:=(blk_new w [.string m.nm,.string m.tl,.string m.ar,.slice ai ls.length ci,.int .i64 c,.string t] 107).below hx1 om_;have hB1:Below w.heap.size w w1:=(hB0 _).trans (hx1.mono om_);have hz1:w.heap.size<w1.heap.size:=by have h:=hx1.size;simp at h;omega
 have k3:=bA 3 _ rfl;clear hb1;cases hn:okM m
 · have HN:Hid (IsB (RanOk m ls c t) (.returned (.bool false))):=isB_no (fun h=>by have h1:=h.1;rw [hn] at h1;cases h1)
   go_wp2;go_ret;exact ⟨HN.out,hB1⟩
 · go_wp2_with fail
   refine (c90 ai ci ls _ hl hs (lks_below hat hB1)).mono ?_;rintro e w2 ⟨⟨r,rfl,hr⟩,hb2⟩;have hB2:Below w.heap.size w w2:=bT_ hB1 hb2;have bA2:=bA.below hb2 hz1;have k4:=bA2 4 _ rfl;have k5:=bA2 5 _ rfl;clear hb2;cases r
   · have HN:Hid (IsB (RanOk m ls c t) (.returned (.bool false))):=isB_no (fun h=>absurd (hr.2 h.2.1) dc_)
     clear hr;go_wp2;go_ret;exact ⟨HN.out,hB2⟩
   · have hl':=hr.1 rfl
     clear hr
     go_wp2_with fail
     refine (c77 c t _ om_).mono ?_;rintro e w3 ⟨rfl,hb3⟩;have hB3:Below w.heap.size w w3:=bT_ hB2 hb3;have HN:Hid (IsB (RanOk m ls c t) (.returned (.bool (vr c t.data.toList)))):=⟨_,rfl,⟨fun h=>⟨hn,hl',h⟩,fun h=>h.2.2⟩⟩;go_wp2;go_ret;exact ⟨HN.out,hB3⟩
theorem own_under {w w':World} {B e size n:Nat} {v:Value} {xs:List Value} (h:w.ownsRow B e size v n xs) (hb:Below w.heap.size w w'):w'.ownsRow B e size v n xs:=by
 refine ⟨h.1,?_⟩;rcases h.2 with h0 | ⟨g,cap,cur,hv,hg,hh,r⟩
 · exact .inl h0
 · refine .inr ⟨g,cap,cur,hv,hg,?_,r⟩
   rw [hb.block g (h.lt g (by rw [hv];rfl)).2];exact hh
theorem own_cap {w:World} {B e size n m g cp:Nat} {xs:List Value} (h:w.ownsRow B e size (.slice (some ⟨g,0,none⟩) m cp) n xs):n<=cp:=by
 rcases h.2 with ⟨h0,_⟩ | ⟨g',cap,cur,hv,_,_,hc,_⟩
 · cases h0
 · cases hv;exact hc
def LinesIn (w:World) (g o:Nat) (ss:List (List UInt8)):Prop:=g<w.heap.size/\∀ i,i<ss.length->w.cell? ⟨g,o+i,none⟩=some (.string (ofL (ss.getD i [])))
theorem linesIn_below {w w':World} {g o:Nat} {ss:List (List UInt8)} (h:LinesIn w g o ss) (hb:Below w.heap.size w w'):LinesIn w' g o ss:=
 ⟨Nat.lt_of_lt_of_le h.1 hb.size,fun i hi=>by rw [hb.cell (by exact h.1)];exact h.2 i hi⟩
theorem row4n (w:World) (x y z q:Value) (t:TypeId):∀ j u,[x,y,z,q][j]?=some u->(w.alloc (.cells #[x,y,z,q] t)).cell? ((⟨w.heap.size,0,none⟩:Addr).add j)=some u:=by
 intro j u h
 match j,h with
 | 0,h=>simp at h;subst h;simp [Addr.add]
 | 1,h=>simp at h;subst h;simp [Addr.add]
 | 2,h=>simp at h;subst h;simp [Addr.add]
 | 3,h=>simp at h;subst h;simp [Addr.add]
theorem row4g {w:World} {g:Nat} (hg:g=w.heap.size) (x y z q:Value) (t:TypeId):∀ j u,[x,y,z,q][j]?=some u->(w.alloc (.cells #[x,y,z,q] t)).cell? ((⟨g,0,none⟩:Addr).add j)=some u:=by
 subst hg;exact row4n w x y z q t
theorem lkC_snoc (is:List L4) (x:L4):lkC (is++[x])=lkC is++[.bool x.has,.string x.nm,.int .i64 x.cd,.string x.tx]:=by simp [lkC]
def LkTo (ss:List (List UInt8)) (k:Nat) (xs:List L4):Prop:=xs.length=k/\∀ i,i<k->RdLook (ss.getD i []) (xs.getD i l4z) true/\(xs.getD i l4z).le 1048576
theorem lkTo_snoc {ss:List (List UInt8)} {k:Nat} {xs:List L4} {x:L4} (h:LkTo ss k xs) (hr:RdLook (ss.getD k []) x true) (hx:x.le 1048576):LkTo ss (k+1) (xs++[x]):=by
 obtain ⟨h1,h2⟩:=h;refine ⟨by simp [h1],fun i hi=>?_⟩;rcases Nat.lt_or_ge i k with hk | hk
 · have e:(xs++[x]).getD i l4z=xs.getD i l4z:=by
    simp only [List.getD_eq_getElem?_getD];rw [List.getElem?_append_left om_]
   rw [e];exact h2 i hk
 · obtain rfl:i=k:=om_
   have e:(xs++[x]).getD i l4z=x:=by
    simp only [List.getD_eq_getElem?_getD];rw [List.getElem?_append_right om_,h1];simp
   rw [e];exact ⟨hr,hx⟩
theorem lkTo_all {ss:List (List UInt8)} {xs:List L4} (h:LkTo ss ss.length xs):RdLooks ss xs true/\∀ i,(xs.getD i l4z).le 1048576:=by
 refine ⟨rdLooks_yes h.1 fun i hi=>(h.2 i hi).1,fun i=>?_⟩;rcases Nat.lt_or_ge i ss.length with hi | hi
 · exact (h.2 i hi).2
 · have:xs.getD i l4z=l4z:=by
    simp only [List.getD_eq_getElem?_getD];rw [List.getElem?_eq_none (by have:=h.1;omega)];rfl
   rw [this];exact ⟨Nat.zero_le _,Nat.zero_le _⟩
def Is105 (w w':World) (ss:List (List UInt8)) (e:Ending):Prop:=∃ (xs:List L4) (ok:Bool) (ao:Option Addr) (c:Nat),e=.returned (.tuple #[.slice ao xs.length c,.bool ok])/\RdLooks ss xs ok/\(∀ i,(xs.getD i l4z).le 1048576)/\xs.length<=ss.length/\LkOwn w' w.heap.size ao xs
theorem c117 (bk o cp:Nat) (ss:List (List UInt8)) (w:World) (hmx:MaxAt w) (hc:LinesIn w bk o ss) (hsz:∀ i,i<ss.length->(ss.getD i []).length<=16000) (hl:ss.length<=16001):
 Calls prog 117 #[.slice (some ⟨bk,o,none⟩) ss.length cp] w fun e w'=>Is105 w w' ss e/\Below w.heap.size w w':=by
 obtain ⟨i0,hi,hz0,hz1,hz2⟩:=info_parts info74;have HC:Hid (LinesIn w bk o ss):=hc;have HM:Hid (MaxAt w):=hmx;have HZ:Hid (∀ i,i<ss.length->(ss.getD i []).length<=16000):=hsz;have hbk:=hc.1;clear hc hsz hmx;go_enter func117,ntmps117
 go_wp2_with fail
 go_loopw [4,11] (fun v i wr=>∃ (k:Nat) (xs:List L4),k<=ss.length/\i=.int .i64 k/\wr.ownsRow w.heap.size 74 4 v k (lkC xs)/\Hid (LkTo ss k xs)/\Below w.heap.size w wr) (fun _ i _=>ss.length - (intOf i).toNat)
 case atStart=>exact ⟨0,[],Nat.zero_le _,rfl,⟨rfl,.inl ⟨rfl,rfl⟩⟩,⟨rfl,fun i hi=>om_⟩,Below.refl _ _⟩
 case round=>
  obtain ⟨k,xs,hk,rfl,hown,ha,hb⟩:=hrel;by_cases hlt:k<ss.length
  · have hcell:wr.cell? ⟨bk,o+k,none⟩=some (.string (ofL (ss.getD k []))):=(hb.cell (by exact hbk)).trans (HC.out.2 k hlt)
    have hr:=HZ.out k hlt;have hmr:MaxAt wr:=max_below HM.out hb;have HNo:Hid (∀ x,RdLook (ss.getD k []) x false->RdLooks ss [] false):=fun x h=>rdLooks_no hlt h [];have HYes:Hid (∀ x:L4,RdLook (ss.getD k []) x true->x.le 1048576->LkTo ss (k+1) (xs++[x])):=fun x h1 h2=>lkTo_snoc ha.out h1 h2;have hz0':w.heap.size<=wr.heap.size:=hb.size;generalize ss.getD k []=t at*
    go_wp2_with fail
    refine (c150 t _ hr (max_below hmr ?drw)).mono ?_
    case drw=>first | exact Below.refl _ _ | exact (Below.refl _ _).drew | exact (Below.refl _ _).drew.drew
    rintro e w1 ⟨⟨x,ok,rfl,hrd,hx⟩,hb1⟩;have HB1:Hid (Below wr.heap.size wr w1):=by first | exact hb1 | exact ((Below.refl _ _).drew).trans hb1
    have hown1:w1.ownsRow w.heap.size 74 4 u4 k (lkC xs):=own_under hown HB1.out;have hz1':wr.heap.size<=w1.heap.size:=HB1.out.size;have hBw1:Below w.heap.size w w1:=bT_ hb HB1.out;clear hb1 hown;unfold L4.v;cases ok
    · have HR:Hid (∀ u,Is105 w u ss (.returned (.tuple #[.slice none 0 0,.bool false]))):=fun u=>⟨[],false,none,0,rfl,HNo.out x hrd,fun i=>⟨Nat.zero_le _,Nat.zero_le _⟩,Nat.zero_le _,.inl rfl,.inl rfl⟩
      clear HNo HYes hrd;go_wp2;go_ret2;exact ⟨HR.out _,hBw1.alloc hBw1.size _⟩
    · have HT:Hid (LkTo ss (k+1) (xs++[x])):=HYes.out x hrd hx
      clear HNo HYes hrd
      go_wp2_with (at_builtin;refine wpList_append_own _ rfl _ _ 43 rfl w.heap.size 74 i0 (.agg #[.bool false,.string ⟨#[]⟩,.int .i64 0,.string ⟨#[]⟩]) 4 48 underlying43 hi hz0 hz1 hz2 rfl dc_ _ _ _ rfl ((hown1.alloc _).alloc _) ⟨w1.heap.size+1,0,none⟩ 1 1 [_,_,_,_] rfl rfl (row4g sm_ _ _ _ _ _) (by intro u hu;simp at hu;rcases hu with rfl | rfl | rfl | rfl <;> rfl) (by unfold maxLen;omega) om_ so_ ?_;intro v' w2 hown' hgrow _)
      go_roundw
      case rel=>
       have hB2:Below w.heap.size w w2:=((hBw1.alloc hBw1.size _).alloc so_ _).grown hgrow so_ (fun j hj=>(hown1.lt j hj).1);refine ⟨k+1,xs++[x],om_,by go_num,?_,HT,hB2⟩;rw [lkC_snoc];exact hown'
      case measure=>simp [intOf];omega
  · have HT:Hid (RdLooks ss xs true/\(∀ i,(xs.getD i l4z).le 1048576)/\xs.length=ss.length):=by
     obtain rfl:k=ss.length:=om_;exact ⟨(lkTo_all ha.out).1,(lkTo_all ha.out).2,ha.out.1⟩
    obtain rfl:k=ss.length:=om_;obtain ⟨ao,c,hv,hlk⟩:=own_lks hown HT.out.2.2.symm;subst hv;go_wp2;go_ret2;exact ⟨⟨xs,true,ao,c,by rw [HT.out.2.2];rfl,HT.out.1,HT.out.2.1,by rw [HT.out.2.2];exact Nat.le_refl _,hlk⟩,hb⟩
end Go.Proofs.YtlckdgjfniglfaaGreatDoor
namespace Go.Proofs.YtlckdgjfniglfaaGreatDoor.T
open Proofs.Tryz
open Go.RowKit
def fileCells (fs:List F2):List Value:=fs.flatMap fun x=>[.string x.nm,.string x.tx]
theorem fileCells_len (fs:List F2):(fileCells fs).length=fs.length*2:=by
 induction fs with
 | nil=>rfl
 | cons x r ih=>unfold fileCells at *;simp only [List.flatMap_cons,List.length_append,List.length_cons,List.length_nil,ih];omega
theorem fileCells_app (fs gs:List F2):fileCells (fs++gs)=fileCells fs++fileCells gs:=by simp [fileCells]
theorem fileCells_get (fs:List F2) (i:Nat) (h:i<fs.length):(fileCells fs)[i*2]?=some (.string (fs.getD i f2z).nm)/\(fileCells fs)[i*2+1]?=some (.string (fs.getD i f2z).tx):=by
 induction fs generalizing i with
 | nil=>simp at h
 | cons x r ih=>
  cases i with
  | zero=>exact ⟨rfl,rfl⟩
  | succ i=>
   have:=ih i (by simpa using h);have e:∀ j,(fileCells (x::r))[(i+1)*2+j]?=(fileCells r)[i*2+j]?:=fun j=>by
    show ([Value.string x.nm,.string x.tx]++fileCells r)[(i+1)*2+j]?=_;rw [List.getElem?_append_right so_]
    congr 1
    simp;omega
   have e0:=e 0;simp only [Nat.add_zero] at e0;rw [e0,e 1];exact this
theorem fileCells_one {fs:List F2}:∀ u∈fileCells fs,u.oneCell'=true:=by
 intro u hu;unfold fileCells at hu;obtain ⟨x,_,hx⟩:=List.mem_flatMap.1 hu;simp at hx;rcases hx with rfl | rfl <;> rfl
def OwnF (w:World) (base:Nat) (v:Value) (fs:List F2):Prop:=w.ownsRow base 40 2 v fs.length (fileCells fs)
theorem OwnF.form {w:World} {base:Nat} {v:Value} {fs:List F2} (h:OwnF w base v fs):∃ a cap,v=.slice a fs.length cap/\FilesAt w a fs:=by
 have h':=h;rcases h.2 with ⟨hv,h0⟩ | ⟨g,cap,cur,hv,hg,hh,_⟩
 · exact ⟨none,0,by rw [hv,h0],.inl (List.length_eq_zero_iff.1 h0)⟩
 · refine ⟨some ⟨g,0,none⟩,cap,hv,?_⟩
   subst hv;refine .inr ⟨g,0,rfl,blk_lt hh,fun i hi=>?_⟩;obtain ⟨e0,e1⟩:=fileCells_get fs i hi;rw [Nat.zero_add,h'.cellAt _ om_,h'.cellAt _ om_];exact ⟨e0,e1⟩
theorem OwnF.below {w w':World} {base:Nat} {v:Value} {fs:List F2} (h:OwnF w base v fs) (hb:Below w.heap.size w w'):OwnF w' base v fs:=ownsRow_below h hb
theorem files_cells {w:World} {b off:Nat} {fs:List F2} (h:∀ i,i<fs.length->w.cell? ⟨b,off+i*2,none⟩=some (.string (fs.getD i f2z).nm)/\w.cell? ⟨b,off+i*2+1,none⟩=some (.string (fs.getD i f2z).tx)) (j:Nat) (u:Value) (hj:(fileCells fs)[j]?=some u):w.cell? ((⟨b,off,none⟩:Addr).add j)=some u:=by
 have hl:j<fs.length*2:=by rw [<- fileCells_len];exact (List.getElem?_eq_some_iff.1 hj).1
 have e:(⟨b,off,none⟩:Addr).add j=⟨b,off+j,none⟩:=by unfold Addr.add;split <;> simp_all
 rw [e];obtain ⟨e0,e1⟩:=fileCells_get fs (j / 2) om_;obtain ⟨h0,h1⟩:=h (j / 2) om_;rcases Nat.mod_two_eq_zero_or_one j with hm | hm
 · have hj2:j / 2*2=j:=om_
   rw [hj2] at e0 h0;rw [e0] at hj;rw [h0];exact hj
 · have hj2:j / 2*2+1=j:=om_
   rw [hj2] at e1;rw [Nat.add_assoc,hj2] at h1;rw [e1] at hj;rw [h1];exact hj
theorem c85 (a:Option Addr) (cap:Nat) (fs:List F2) (w:World) (hl:fs.length<=1000) (hat:FilesAt w a fs):
 Calls prog 85 #[.slice a fs.length cap] w fun e w'=>∃ v',e=.returned v'/\OwnF w' w.heap.size v' fs/\Below w.heap.size w w':=by
 have q27:∀ (w:World) (a:Option Addr) (n c n' c':Nat),(binOp .eql 24 (.slice a n c) (.slice none n' c')).run prog w=.ok (.bool a.isNone) w:=fun w a n c n' c'=>Lib.run_eql_slice_nil w _ _ a n c n' c' underlying24
 cases a with
 | none=>
  obtain rfl:fs=[]:=by
   rcases hat with h | ⟨b,off,h,_⟩
   · exact h
   cases h
  go_enter func85,ntmps85;go_wp2;go_ret;exact ⟨_,rfl,⟨rfl,.inl ⟨rfl,rfl⟩⟩,Below.refl _ _⟩
 | some ad=>
  obtain ⟨W,hW⟩:∃ W:World,W=w.alloc (.cells #[] 40):=⟨_,rfl⟩;have bW:Below w.heap.size w W:=by rw [hW];exact bA_
  have RW:Hid (W.ownsRow w.heap.size 40 2 (.slice (some ⟨w.heap.size,0,none⟩) 0 0) 0 []):=by show World.ownsRow _ _ _ _ _ _ _;rw [hW];exact World.ownsRow_made w #[] 0 lr_ (Nat.zero_le _) rfl
  have SR:Hid (Src W (.slice (some ad) fs.length cap) 2 fs.length (fileCells fs)):=by
   refine .inr ⟨ad,cap,rfl,fileCells_len fs,fun j u hj=>?_⟩;rcases hat with rfl | ⟨b,off,h,hb,hc⟩
   · simp [fileCells] at hj
   injection h with h;subst h;have h:=files_cells hc j u hj;rw [Addr.add_lit] at h ⊢;exact (bW.cell hb).trans h
  clear hat;go_enter func85,ntmps85
  go_wp2_with (at_builtin;rw [<- hW];refine wl_app rfl _ _ 24 rfl w.heap.size 40 2 underlying24 (inf_of kr_) dc_ (.slice (some ⟨w.heap.size,0,none⟩) 0 0) 0 [] rfl RW.out _ fs.length (fileCells fs) rfl SR.out fileCells_one om_ bW.size ?_;intro v' w1 O g _;rw [Nat.zero_add,List.nil_append] at O;have HO:=hI_ O;have HB:=hI_ ((bW.grown g bW.size (fun k hk=>(RW.out.lt k hk).1)));clear O g)
  go_ret;exact ⟨_,rfl,HO.out,HB.out⟩
end Go.Proofs.YtlckdgjfniglfaaGreatDoor.T
